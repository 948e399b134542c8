/- Contracts of the functions that the laws run. -/
import Derived.Test.Ytlnllkffifeggaach07
import Derived.Test.YtlnllkffifeggaaEngB
namespace Go.Proofs.Ytlnllkffifeggaa
open Go Go.Eng
set_option linter.unusedSimpArgs false
set_option linter.unusedVariables false
set_option maxRecDepth 10000
set_option maxHeartbeats 1000000
def mDig (k : Int) : Bool := mIn k 1 9
@[simp] theorem size9 : ({ data := #[49, 50, 51, 52, 53, 54, 55, 56, 57] } : ByteArray).size = 9 := rfl
@[simp] theorem dec9_0 : Utf8.decode ({ data := #[49, 50, 51, 52, 53, 54, 55, 56, 57] } : ByteArray) 0 = (49, 1) := by first | rfl | decide
@[simp] theorem dec9_1 : Utf8.decode ({ data := #[49, 50, 51, 52, 53, 54, 55, 56, 57] } : ByteArray) 1 = (50, 1) := by first | rfl | decide
@[simp] theorem dec9_2 : Utf8.decode ({ data := #[49, 50, 51, 52, 53, 54, 55, 56, 57] } : ByteArray) 2 = (51, 1) := by first | rfl | decide
@[simp] theorem dec9_3 : Utf8.decode ({ data := #[49, 50, 51, 52, 53, 54, 55, 56, 57] } : ByteArray) 3 = (52, 1) := by first | rfl | decide
@[simp] theorem dec9_4 : Utf8.decode ({ data := #[49, 50, 51, 52, 53, 54, 55, 56, 57] } : ByteArray) 4 = (53, 1) := by first | rfl | decide
@[simp] theorem dec9_5 : Utf8.decode ({ data := #[49, 50, 51, 52, 53, 54, 55, 56, 57] } : ByteArray) 5 = (54, 1) := by first | rfl | decide
@[simp] theorem dec9_6 : Utf8.decode ({ data := #[49, 50, 51, 52, 53, 54, 55, 56, 57] } : ByteArray) 6 = (55, 1) := by first | rfl | decide
@[simp] theorem dec9_7 : Utf8.decode ({ data := #[49, 50, 51, 52, 53, 54, 55, 56, 57] } : ByteArray) 7 = (56, 1) := by first | rfl | decide
@[simp] theorem dec9_8 : Utf8.decode ({ data := #[49, 50, 51, 52, 53, 54, 55, 56, 57] } : ByteArray) 8 = (57, 1) := by first | rfl | decide
@[simp] theorem w32_1 : IntKind.i32.wrap 1 = 1 := by first | rfl | decide
@[simp] theorem w32_2 : IntKind.i32.wrap 2 = 2 := by first | rfl | decide
@[simp] theorem w32_3 : IntKind.i32.wrap 3 = 3 := by first | rfl | decide
@[simp] theorem w32_4 : IntKind.i32.wrap 4 = 4 := by first | rfl | decide
@[simp] theorem w32_5 : IntKind.i32.wrap 5 = 5 := by first | rfl | decide
@[simp] theorem w32_6 : IntKind.i32.wrap 6 = 6 := by first | rfl | decide
@[simp] theorem w32_7 : IntKind.i32.wrap 7 = 7 := by first | rfl | decide
@[simp] theorem w32_8 : IntKind.i32.wrap 8 = 8 := by first | rfl | decide
@[simp] theorem w32_9 : IntKind.i32.wrap 9 = 9 := by first | rfl | decide
/-- loop.example/g03007/impl.isHouseNo -/
noncomputable def c36 : Con := mkCon 36 false (α := Int) (fun x => (fun (k : Int) => [dI k]) x) (fun _ => []) (fun x => (fun (k : Int) => True) x) (fun x => (fun (k : Int) => (dB (mDig k) : D)) x) (fun x => (fun (k : Int) => []) x)
@[simp] theorem c36_f : c36.f = 36 := rfl
@[simp] theorem c36_own : c36.own = false := rfl
theorem c36_inj : ∀ u_ v_ : Int, ((fun x => (fun (k : Int) => [dI k]) x) u_).map nz = ((fun x => (fun (k : Int) => [dI k]) x) v_).map nz → u_ = v_ := by
  intro u_ v_ h
  obtain k := u_
  obtain k' := v_
  simp [nz_lit, nz1_lit, nz_agg, nz_sl, nz1_sl] at h
  first | (simp [h]; done) | (obtain ⟨⟩ := h; simp_all; done) | simp_all
@[simp] theorem c36_fn (k : Int) : c36.fn [.lit (.int .i64 k)] [] = some ((fun (k : Int) => True) k, (fun (k : Int) => (dB (mDig k) : D)) k, (fun (k : Int) => []) k) :=
  mkCon_fn (fun x y h _ => c36_inj x y h) (k : Int) (by simp [nz, nz1, ML_nil]) rfl
theorem c36_pc (k : Int) : PCo Try.prog 36 [dI k] (Tab.of []) (dB (mDig k)) (Tab.of []) := by
  refine pco_of_run [] (E := ⟨[], []⟩) (m := false) (base := 0) Env.ok_nil G_ok mix 300 6 Try.func36 (by kernel_rfl) rfl (by kernel_rfl) (by kernel_rfl) rfl ?_
  simp [Try.f36]
  refine loop_unroll 400 ?_
  simp (config := {maxSteps := 3000000})
  have hd : mDig k = true ↔ 1 ≤ k ∧ k ≤ 9 := mIn_iff
  cases h : mDig k with
  | true =>
    have := hd.1 h
    repeat' (first | omega | refine And.intro ?_ ?_ | intro _)
    all_goals rfl
  | false =>
    have : ¬ (1 ≤ k ∧ k ≤ 9) := fun e => by rw [hd.2 e] at h; cases h
    repeat' (first | omega | refine And.intro ?_ ?_ | intro _)
    all_goals rfl
theorem c36_ok : c36.ok Try.prog := mkCon_ok fun k hpre => c36_pc k
def mIsParcel (x : TParcel) : Bool := mDig x.From && mDig x.To && x.From != x.To && mIn x.Things.length 1 10 && ascW 999 1 x.Things && mIn x.At 0 100000
@[simp] def smP (r : TParcel) : Prop := r.Things.length ≤ 1099511627776
@[simp] def smQ (r : TParcel) : Prop := r.Things.length ≤ maxLen
def szP (r : TParcel) (left : Int) : Int := if left - r.Things.length < 0 then -1 else left - r.Things.length
/-- loop.example/g03007/laws.toParcel -/
noncomputable def c8 : Con := mkCon 8 false (α := TParcel) (fun x => (fun (r : TParcel) => [encTParcel r]) x) (fun _ => []) (fun x => (fun (r : TParcel) => smP r) x) (fun x => (fun (r : TParcel) => (encTParcel r : D)) x) (fun x => (fun (r : TParcel) => []) x)
@[simp] theorem c8_f : c8.f = 8 := rfl
@[simp] theorem c8_own : c8.own = false := rfl
theorem c8_inj : ∀ u_ v_ : TParcel, ((fun x => (fun (r : TParcel) => [encTParcel r]) x) u_).map nz = ((fun x => (fun (r : TParcel) => [encTParcel r]) x) v_).map nz → u_ = v_ := by
  intro u_ v_ h
  obtain ⟨r_From, r_To, r_Things, r_At⟩ := u_
  obtain ⟨r_From', r_To', r_Things', r_At'⟩ := v_
  simp [nz_lit, nz1_lit, nz_agg, nz_sl, nz1_sl, encLI, encTParcel] at h
  first | (simp [h]; done) | (obtain ⟨⟩ := h; simp_all; done) | simp_all
@[simp] theorem c8_fn (r_From : Int) (r_To : Int) (r_Things : List Int) (r_At : Int) : c8.fn [.agg [.lit (.int .i64 r_From), .lit (.int .i64 r_To), .sl false 1 (.lit (.int .i64 0)) (ML dI r_Things), .lit (.int .i64 r_At)]] [] = some ((fun (r : TParcel) => smP r) ⟨r_From, r_To, r_Things, r_At⟩, (fun (r : TParcel) => (encTParcel r : D)) ⟨r_From, r_To, r_Things, r_At⟩, (fun (r : TParcel) => []) ⟨r_From, r_To, r_Things, r_At⟩) :=
  mkCon_fn (fun x y h _ => c8_inj x y h) (⟨r_From, r_To, r_Things, r_At⟩ : TParcel) (by simp [nz, nz1, ML_nil, encLI, encTParcel]) rfl
theorem c8_pc (r : TParcel) (hpre : smP r) : PCo Try.prog 8 [encTParcel r] (Tab.of []) (encTParcel r) (Tab.of []) := by
  obtain ⟨r_From, r_To, r_Things, r_At⟩ := r
  refine pco_of_run [] (E := ⟨[c21], []⟩) (m := false) (base := 0) (Env.ok_cons c21_ok Env.ok_nil) G_ok mix 300 6 Try.func8 (by kernel_rfl) rfl (by kernel_rfl) (by kernel_rfl) rfl ?_
  simp [Try.f8]
  simp at hpre
  exact hpre
theorem c8_ok : c8.ok Try.prog := mkCon_ok fun r hpre => c8_pc r hpre
/-- loop.example/g03007/laws.eqParcel -/
noncomputable def c11 : Con := mkCon 11 false (α := TParcel × TParcel) (fun x => (fun (a : TParcel) (b : TParcel) => [encTParcel a, encTParcel b]) x.1 x.2) (fun _ => []) (fun x => (fun (a : TParcel) (b : TParcel) => smP a ∧ smP b) x.1 x.2) (fun x => (fun (a : TParcel) (b : TParcel) => (dB (decide (a = b)) : D)) x.1 x.2) (fun x => (fun (a : TParcel) (b : TParcel) => []) x.1 x.2)
@[simp] theorem c11_f : c11.f = 11 := rfl
@[simp] theorem c11_own : c11.own = false := rfl
theorem c11_inj : ∀ u_ v_ : TParcel × TParcel, ((fun x => (fun (a : TParcel) (b : TParcel) => [encTParcel a, encTParcel b]) x.1 x.2) u_).map nz = ((fun x => (fun (a : TParcel) (b : TParcel) => [encTParcel a, encTParcel b]) x.1 x.2) v_).map nz → u_ = v_ := by
  intro u_ v_ h
  obtain ⟨⟨a_From, a_To, a_Things, a_At⟩, ⟨b_From, b_To, b_Things, b_At⟩⟩ := u_
  obtain ⟨⟨a_From', a_To', a_Things', a_At'⟩, ⟨b_From', b_To', b_Things', b_At'⟩⟩ := v_
  simp [nz_lit, nz1_lit, nz_agg, nz_sl, nz1_sl, encLI, encTParcel] at h
  first | (simp [h]; done) | (obtain ⟨⟩ := h; simp_all; done) | simp_all
@[simp] theorem c11_fn (a_From : Int) (a_To : Int) (a_Things : List Int) (a_At : Int) (b_From : Int) (b_To : Int) (b_Things : List Int) (b_At : Int) : c11.fn [.agg [.lit (.int .i64 a_From), .lit (.int .i64 a_To), .sl false 1 (.lit (.int .i64 0)) (ML dI a_Things), .lit (.int .i64 a_At)], .agg [.lit (.int .i64 b_From), .lit (.int .i64 b_To), .sl false 1 (.lit (.int .i64 0)) (ML dI b_Things), .lit (.int .i64 b_At)]] [] = some ((fun (a : TParcel) (b : TParcel) => smP a ∧ smP b) ⟨a_From, a_To, a_Things, a_At⟩ ⟨b_From, b_To, b_Things, b_At⟩, (fun (a : TParcel) (b : TParcel) => (dB (decide (a = b)) : D)) ⟨a_From, a_To, a_Things, a_At⟩ ⟨b_From, b_To, b_Things, b_At⟩, (fun (a : TParcel) (b : TParcel) => []) ⟨a_From, a_To, a_Things, a_At⟩ ⟨b_From, b_To, b_Things, b_At⟩) :=
  mkCon_fn (fun x y h _ => c11_inj x y h) ((⟨a_From, a_To, a_Things, a_At⟩, ⟨b_From, b_To, b_Things, b_At⟩) : TParcel × TParcel) (by simp [nz, nz1, ML_nil, encLI, encTParcel]) rfl
theorem c11_pc (a : TParcel) (b : TParcel) (hpre : smP a ∧ smP b) : PCo Try.prog 11 [encTParcel a, encTParcel b] (Tab.of []) (dB (decide (a = b))) (Tab.of []) := by
  obtain ⟨a_From, a_To, a_Things, a_At⟩ := a
  obtain ⟨b_From, b_To, b_Things, b_At⟩ := b
  refine pco_of_run [] (E := ⟨[c28], []⟩) (m := false) (base := 0) (Env.ok_cons c28_ok Env.ok_nil) G_ok mix 300 6 Try.func11 (by kernel_rfl) rfl (by kernel_rfl) (by kernel_rfl) rfl ?_
  simp [Try.f11]
  simp at hpre
  repeat' (first | omega | refine And.intro ?_ ?_ | intro _)
  all_goals grind
theorem c11_ok : c11.ok Try.prog := mkCon_ok fun ⟨a, b⟩ hpre => c11_pc a b hpre
/-- loop.example/g03007/laws.szParcel -/
noncomputable def c5 : Con := mkCon 5 false (α := TParcel × Int) (fun x => (fun (r : TParcel) (left : Int) => [encTParcel r, dI left]) x.1 x.2) (fun _ => []) (fun x => (fun (r : TParcel) (left : Int) => smQ r ∧ 0 ≤ left ∧ left ≤ 1099511627776) x.1 x.2) (fun x => (fun (r : TParcel) (left : Int) => (dI (szP r left) : D)) x.1 x.2) (fun x => (fun (r : TParcel) (left : Int) => []) x.1 x.2)
@[simp] theorem c5_f : c5.f = 5 := rfl
@[simp] theorem c5_own : c5.own = false := rfl
theorem c5_inj : ∀ u_ v_ : TParcel × Int, ((fun x => (fun (r : TParcel) (left : Int) => [encTParcel r, dI left]) x.1 x.2) u_).map nz = ((fun x => (fun (r : TParcel) (left : Int) => [encTParcel r, dI left]) x.1 x.2) v_).map nz → u_ = v_ := by
  intro u_ v_ h
  obtain ⟨⟨r_From, r_To, r_Things, r_At⟩, left⟩ := u_
  obtain ⟨⟨r_From', r_To', r_Things', r_At'⟩, left'⟩ := v_
  simp [nz_lit, nz1_lit, nz_agg, nz_sl, nz1_sl, encLI, encTParcel] at h
  first | (simp [h]; done) | (obtain ⟨⟩ := h; simp_all; done) | simp_all
@[simp] theorem c5_fn (r_From : Int) (r_To : Int) (r_Things : List Int) (r_At : Int) (left : Int) : c5.fn [.agg [.lit (.int .i64 r_From), .lit (.int .i64 r_To), .sl false 1 (.lit (.int .i64 0)) (ML dI r_Things), .lit (.int .i64 r_At)], .lit (.int .i64 left)] [] = some ((fun (r : TParcel) (left : Int) => smQ r ∧ 0 ≤ left ∧ left ≤ 1099511627776) ⟨r_From, r_To, r_Things, r_At⟩ left, (fun (r : TParcel) (left : Int) => (dI (szP r left) : D)) ⟨r_From, r_To, r_Things, r_At⟩ left, (fun (r : TParcel) (left : Int) => []) ⟨r_From, r_To, r_Things, r_At⟩ left) :=
  mkCon_fn (fun x y h _ => c5_inj x y h) ((⟨r_From, r_To, r_Things, r_At⟩, left) : TParcel × Int) (by simp [nz, nz1, ML_nil, encLI, encTParcel]) rfl
theorem c5_pc (r : TParcel) (left : Int) (hpre : smQ r ∧ 0 ≤ left ∧ left ≤ 1099511627776) : PCo Try.prog 5 [encTParcel r, dI left] (Tab.of []) (dI (szP r left)) (Tab.of []) := by
  obtain ⟨r_From, r_To, r_Things, r_At⟩ := r
  refine pco_of_run [] (E := ⟨[c15], []⟩) (m := false) (base := 0) (Env.ok_cons c15_ok Env.ok_nil) G_ok mix 300 6 Try.func5 (by kernel_rfl) rfl (by kernel_rfl) (by kernel_rfl) rfl ?_
  simp [Try.f5]
  simp at hpre
  repeat' (first | omega | refine And.intro ?_ ?_ | intro _)
  all_goals (simp only [szP]; first | done | ((repeat' split) <;> omega))
theorem c5_ok : c5.ok Try.prog := mkCon_ok fun ⟨r, left⟩ hpre => c5_pc r left hpre
/-- loop.example/g03007/impl.IsParcel -/
noncomputable def c23 : Con := mkCon 23 false (α := TParcel) (fun x => (fun (x : TParcel) => [encTParcel x]) x) (fun _ => []) (fun x => (fun (x : TParcel) => smP x) x) (fun x => (fun (x : TParcel) => (dB (mIsParcel x) : D)) x) (fun x => (fun (x : TParcel) => []) x)
@[simp] theorem c23_f : c23.f = 23 := rfl
@[simp] theorem c23_own : c23.own = false := rfl
theorem c23_inj : ∀ u_ v_ : TParcel, ((fun x => (fun (x : TParcel) => [encTParcel x]) x) u_).map nz = ((fun x => (fun (x : TParcel) => [encTParcel x]) x) v_).map nz → u_ = v_ := by
  intro u_ v_ h
  obtain ⟨x_From, x_To, x_Things, x_At⟩ := u_
  obtain ⟨x_From', x_To', x_Things', x_At'⟩ := v_
  simp [nz_lit, nz1_lit, nz_agg, nz_sl, nz1_sl, encLI, encTParcel] at h
  first | (simp [h]; done) | (obtain ⟨⟩ := h; simp_all; done) | simp_all
@[simp] theorem c23_fn (x_From : Int) (x_To : Int) (x_Things : List Int) (x_At : Int) : c23.fn [.agg [.lit (.int .i64 x_From), .lit (.int .i64 x_To), .sl false 1 (.lit (.int .i64 0)) (ML dI x_Things), .lit (.int .i64 x_At)]] [] = some ((fun (x : TParcel) => smP x) ⟨x_From, x_To, x_Things, x_At⟩, (fun (x : TParcel) => (dB (mIsParcel x) : D)) ⟨x_From, x_To, x_Things, x_At⟩, (fun (x : TParcel) => []) ⟨x_From, x_To, x_Things, x_At⟩) :=
  mkCon_fn (fun x y h _ => c23_inj x y h) (⟨x_From, x_To, x_Things, x_At⟩ : TParcel) (by simp [nz, nz1, ML_nil, encLI, encTParcel]) rfl
theorem c23_pc (x : TParcel) (hpre : smP x) : PCo Try.prog 23 [encTParcel x] (Tab.of []) (dB (mIsParcel x)) (Tab.of []) := by
  obtain ⟨x_From, x_To, x_Things, x_At⟩ := x
  refine pco_of_run [] (E := ⟨[c36, c37, c38], []⟩) (m := false) (base := 0) (Env.ok_cons c36_ok (Env.ok_cons c37_ok (Env.ok_cons c38_ok Env.ok_nil))) G_ok mix 300 6 Try.func23 (by kernel_rfl) rfl (by kernel_rfl) (by kernel_rfl) rfl ?_
  simp [Try.f23]
  simp at hpre
  simp [mIsParcel]
  first | exact ⟨fun _ _ _ _ => hpre, rfl⟩ | exact fun _ _ _ _ => hpre
theorem c23_ok : c23.ok Try.prog := mkCon_ok fun x hpre => c23_pc x hpre
/-- loop.example/g03007/spec.IsParcel -/
noncomputable def c16 : Con := mkCon 16 false (α := TParcel) (fun x => (fun (x : TParcel) => [encTParcel x]) x) (fun _ => []) (fun x => (fun (x : TParcel) => smP x) x) (fun x => (fun (x : TParcel) => (dB (mIsParcel x) : D)) x) (fun x => (fun (x : TParcel) => []) x)
@[simp] theorem c16_f : c16.f = 16 := rfl
@[simp] theorem c16_own : c16.own = false := rfl
theorem c16_inj : ∀ u_ v_ : TParcel, ((fun x => (fun (x : TParcel) => [encTParcel x]) x) u_).map nz = ((fun x => (fun (x : TParcel) => [encTParcel x]) x) v_).map nz → u_ = v_ := by
  intro u_ v_ h
  obtain ⟨x_From, x_To, x_Things, x_At⟩ := u_
  obtain ⟨x_From', x_To', x_Things', x_At'⟩ := v_
  simp [nz_lit, nz1_lit, nz_agg, nz_sl, nz1_sl, encLI, encTParcel] at h
  first | (simp [h]; done) | (obtain ⟨⟩ := h; simp_all; done) | simp_all
@[simp] theorem c16_fn (x_From : Int) (x_To : Int) (x_Things : List Int) (x_At : Int) : c16.fn [.agg [.lit (.int .i64 x_From), .lit (.int .i64 x_To), .sl false 1 (.lit (.int .i64 0)) (ML dI x_Things), .lit (.int .i64 x_At)]] [] = some ((fun (x : TParcel) => smP x) ⟨x_From, x_To, x_Things, x_At⟩, (fun (x : TParcel) => (dB (mIsParcel x) : D)) ⟨x_From, x_To, x_Things, x_At⟩, (fun (x : TParcel) => []) ⟨x_From, x_To, x_Things, x_At⟩) :=
  mkCon_fn (fun x y h _ => c16_inj x y h) (⟨x_From, x_To, x_Things, x_At⟩ : TParcel) (by simp [nz, nz1, ML_nil, encLI, encTParcel]) rfl
theorem c16_pc (x : TParcel) (hpre : smP x) : PCo Try.prog 16 [encTParcel x] (Tab.of []) (dB (mIsParcel x)) (Tab.of []) := by
  obtain ⟨x_From, x_To, x_Things, x_At⟩ := x
  refine pco_of_run [] (E := ⟨[c30, c31], []⟩) (m := false) (base := 0) (Env.ok_cons c30_ok (Env.ok_cons c31_ok Env.ok_nil)) G_ok mix 300 6 Try.func16 (by kernel_rfl) rfl (by kernel_rfl) (by kernel_rfl) rfl ?_
  simp [Try.f16]
  simp at hpre
  simp [mIsParcel]
  first | exact ⟨fun _ _ _ _ => hpre, rfl⟩ | exact fun _ _ _ _ => hpre
theorem c16_ok : c16.ok Try.prog := mkCon_ok fun x hpre => c16_pc x hpre
theorem wfP_len {r : TParcel} (h : wfTParcel r) : r.Things.length ≤ maxLen := h.2.2.1.1
theorem szP_len {r : TParcel} {left : Int} (h : 0 ≤ szP r left) : r.Things.length ≤ left ∧ szP r left ≤ left := by
  simp only [szP] at h ⊢
  split at h
  · omega
  · rename_i h2; rw [if_neg h2]; omega
end Go.Proofs.Ytlnllkffifeggaa
