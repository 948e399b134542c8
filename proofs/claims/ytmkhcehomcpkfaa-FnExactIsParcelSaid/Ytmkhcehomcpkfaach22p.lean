/- Contracts of the functions that the laws run. -/
import Derived.Test.Ytmkhcehomcpkfaach07
import Derived.Test.YtmkhcehomcpkfaaEngB
namespace Go.Proofs.Ytmkhcehomcpkfaa
open Go Go.Eng
set_option linter.unusedSimpArgs false
set_option linter.unusedVariables false
set_option maxRecDepth 10000
set_option maxHeartbeats 1000000
def mDig (k : Int) : Bool := mIn k 1 9
@[simp] theorem size9 : ({ data := #[49, 50, 51, 52, 53, 54, 55, 56, 57] } : ByteArray).size = 9 := rfl
@[simp] theorem dec9_0 : Utf8.decode ({ data := #[49, 50, 51, 52, 53, 54, 55, 56, 57] } : ByteArray) 0 = (49, 1) := by first | rfl | decide
@[simp] theorem dec9_1 : Utf8.decode ({ data := #[49, 50, 51, 52, 53, 54, 55, 56, 57] } : ByteArray) 1 = (50, 1) := by first | rfl | decide
@[simp] theorem dec9_2 : Utf8.decode ({ data := #[49, 50, 51, 52, 53, 54, 55, 56, 57] } : ByteArray) 2 = (51, 1) := by first | rfl | decide
@[simp] theorem dec9_3 : Utf8.decode ({ data := #[49, 50, 51, 52, 53, 54, 55, 56, 57] } : ByteArray) 3 = (52, 1) := by first | rfl | decide
@[simp] theorem dec9_4 : Utf8.decode ({ data := #[49, 50, 51, 52, 53, 54, 55, 56, 57] } : ByteArray) 4 = (53, 1) := by first | rfl | decide
@[simp] theorem dec9_5 : Utf8.decode ({ data := #[49, 50, 51, 52, 53, 54, 55, 56, 57] } : ByteArray) 5 = (54, 1) := by first | rfl | decide
@[simp] theorem dec9_6 : Utf8.decode ({ data := #[49, 50, 51, 52, 53, 54, 55, 56, 57] } : ByteArray) 6 = (55, 1) := by first | rfl | decide
@[simp] theorem dec9_7 : Utf8.decode ({ data := #[49, 50, 51, 52, 53, 54, 55, 56, 57] } : ByteArray) 7 = (56, 1) := by first | rfl | decide
@[simp] theorem dec9_8 : Utf8.decode ({ data := #[49, 50, 51, 52, 53, 54, 55, 56, 57] } : ByteArray) 8 = (57, 1) := by first | rfl | decide
@[simp] theorem w32_1 : IntKind.i32.wrap 1 = 1 := by first | rfl | decide
@[simp] theorem w32_2 : IntKind.i32.wrap 2 = 2 := by first | rfl | decide
@[simp] theorem w32_3 : IntKind.i32.wrap 3 = 3 := by first | rfl | decide
@[simp] theorem w32_4 : IntKind.i32.wrap 4 = 4 := by first | rfl | decide
@[simp] theorem w32_5 : IntKind.i32.wrap 5 = 5 := by first | rfl | decide
@[simp] theorem w32_6 : IntKind.i32.wrap 6 = 6 := by first | rfl | decide
@[simp] theorem w32_7 : IntKind.i32.wrap 7 = 7 := by first | rfl | decide
@[simp] theorem w32_8 : IntKind.i32.wrap 8 = 8 := by first | rfl | decide
@[simp] theorem w32_9 : IntKind.i32.wrap 9 = 9 := by first | rfl | decide
/-- loop.example/g03007/impl.isHouseNo -/
noncomputable def c13 : Con := mkCon 13 false (α := Int) (fun x => (fun (k : Int) => [dI k]) x) (fun _ => []) (fun x => (fun (k : Int) => True) x) (fun x => (fun (k : Int) => (dB (mDig k) : D)) x) (fun x => (fun (k : Int) => []) x)
@[simp] theorem c13_f : c13.f = 13 := rfl
@[simp] theorem c13_own : c13.own = false := rfl
theorem c13_inj : ∀ u_ v_ : Int, ((fun x => (fun (k : Int) => [dI k]) x) u_).map nz = ((fun x => (fun (k : Int) => [dI k]) x) v_).map nz → u_ = v_ := by
  intro u_ v_ h
  obtain k := u_
  obtain k' := v_
  simp [nz_lit, nz1_lit, nz_agg, nz_sl, nz1_sl] at h
  first | (simp [h]; done) | (obtain ⟨⟩ := h; simp_all; done) | simp_all
@[simp] theorem c13_fn (k : Int) : c13.fn [.lit (.int .i64 k)] [] = some ((fun (k : Int) => True) k, (fun (k : Int) => (dB (mDig k) : D)) k, (fun (k : Int) => []) k) :=
  mkCon_fn (fun x y h _ => c13_inj x y h) (k : Int) (by simp [nz, nz1, ML_nil]) rfl
theorem c13_pc (k : Int) : PCo Try.prog 13 [dI k] (Tab.of []) (dB (mDig k)) (Tab.of []) := by
  refine pco_of_run [] (E := ⟨[], []⟩) (m := false) (base := 0) Env.ok_nil G_ok mix 300 6 Try.func13 (by kernel_rfl) rfl (by kernel_rfl) (by kernel_rfl) rfl ?_
  simp [Try.f13]
  refine loop_unroll 400 ?_
  simp (config := {maxSteps := 3000000})
  have hd : mDig k = true ↔ 1 ≤ k ∧ k ≤ 9 := mIn_iff
  cases h : mDig k with
  | true =>
    have := hd.1 h
    repeat' (first | omega | refine And.intro ?_ ?_ | intro _)
    all_goals rfl
  | false =>
    have : ¬ (1 ≤ k ∧ k ≤ 9) := fun e => by rw [hd.2 e] at h; cases h
    repeat' (first | omega | refine And.intro ?_ ?_ | intro _)
    all_goals rfl
theorem c13_ok : c13.ok Try.prog := mkCon_ok fun k hpre => c13_pc k
def mIsParcel (x : TParcel) : Bool := mDig x.From && mDig x.To && x.From != x.To && mIn x.Things.length 1 10 && ascW 999 1 x.Things && mIn x.At 0 100000
@[simp] def smP (r : TParcel) : Prop := r.Things.length ≤ 1099511627776
@[simp] def smQ (r : TParcel) : Prop := r.Things.length ≤ maxLen
def szP (r : TParcel) (left : Int) : Int := if left - r.Things.length < 0 then -1 else left - r.Things.length
/-- loop.example/g03007/laws.toParcel -/
noncomputable def c6 : Con := mkCon 6 false (α := TParcel) (fun x => (fun (r : TParcel) => [encTParcel r]) x) (fun _ => []) (fun x => (fun (r : TParcel) => smP r) x) (fun x => (fun (r : TParcel) => (encTParcel r : D)) x) (fun x => (fun (r : TParcel) => []) x)
@[simp] theorem c6_f : c6.f = 6 := rfl
@[simp] theorem c6_own : c6.own = false := rfl
theorem c6_inj : ∀ u_ v_ : TParcel, ((fun x => (fun (r : TParcel) => [encTParcel r]) x) u_).map nz = ((fun x => (fun (r : TParcel) => [encTParcel r]) x) v_).map nz → u_ = v_ := by
  intro u_ v_ h
  obtain ⟨r_From, r_To, r_Things, r_At⟩ := u_
  obtain ⟨r_From', r_To', r_Things', r_At'⟩ := v_
  simp [nz_lit, nz1_lit, nz_agg, nz_sl, nz1_sl, encLI, encTParcel] at h
  first | (simp [h]; done) | (obtain ⟨⟩ := h; simp_all; done) | simp_all
@[simp] theorem c6_fn (r_From : Int) (r_To : Int) (r_Things : List Int) (r_At : Int) : c6.fn [.agg [.lit (.int .i64 r_From), .lit (.int .i64 r_To), .sl false 1 (.lit (.int .i64 0)) (ML dI r_Things), .lit (.int .i64 r_At)]] [] = some ((fun (r : TParcel) => smP r) ⟨r_From, r_To, r_Things, r_At⟩, (fun (r : TParcel) => (encTParcel r : D)) ⟨r_From, r_To, r_Things, r_At⟩, (fun (r : TParcel) => []) ⟨r_From, r_To, r_Things, r_At⟩) :=
  mkCon_fn (fun x y h _ => c6_inj x y h) (⟨r_From, r_To, r_Things, r_At⟩ : TParcel) (by simp [nz, nz1, ML_nil, encLI, encTParcel]) rfl
theorem c6_pc (r : TParcel) (hpre : smP r) : PCo Try.prog 6 [encTParcel r] (Tab.of []) (encTParcel r) (Tab.of []) := by
  obtain ⟨r_From, r_To, r_Things, r_At⟩ := r
  refine pco_of_run [] (E := ⟨[c12], []⟩) (m := false) (base := 0) (Env.ok_cons c12_ok Env.ok_nil) G_ok mix 300 6 Try.func6 (by kernel_rfl) rfl (by kernel_rfl) (by kernel_rfl) rfl ?_
  simp [Try.f6]
  simp at hpre
  exact hpre
theorem c6_ok : c6.ok Try.prog := mkCon_ok fun r hpre => c6_pc r hpre
/-- loop.example/g03007/laws.eqParcel -/
noncomputable def c8 : Con := mkCon 8 false (α := TParcel × TParcel) (fun x => (fun (a : TParcel) (b : TParcel) => [encTParcel a, encTParcel b]) x.1 x.2) (fun _ => []) (fun x => (fun (a : TParcel) (b : TParcel) => smP a ∧ smP b) x.1 x.2) (fun x => (fun (a : TParcel) (b : TParcel) => (dB (decide (a = b)) : D)) x.1 x.2) (fun x => (fun (a : TParcel) (b : TParcel) => []) x.1 x.2)
@[simp] theorem c8_f : c8.f = 8 := rfl
@[simp] theorem c8_own : c8.own = false := rfl
theorem c8_inj : ∀ u_ v_ : TParcel × TParcel, ((fun x => (fun (a : TParcel) (b : TParcel) => [encTParcel a, encTParcel b]) x.1 x.2) u_).map nz = ((fun x => (fun (a : TParcel) (b : TParcel) => [encTParcel a, encTParcel b]) x.1 x.2) v_).map nz → u_ = v_ := by
  intro u_ v_ h
  obtain ⟨⟨a_From, a_To, a_Things, a_At⟩, ⟨b_From, b_To, b_Things, b_At⟩⟩ := u_
  obtain ⟨⟨a_From', a_To', a_Things', a_At'⟩, ⟨b_From', b_To', b_Things', b_At'⟩⟩ := v_
  simp [nz_lit, nz1_lit, nz_agg, nz_sl, nz1_sl, encLI, encTParcel] at h
  first | (simp [h]; done) | (obtain ⟨⟩ := h; simp_all; done) | simp_all
@[simp] theorem c8_fn (a_From : Int) (a_To : Int) (a_Things : List Int) (a_At : Int) (b_From : Int) (b_To : Int) (b_Things : List Int) (b_At : Int) : c8.fn [.agg [.lit (.int .i64 a_From), .lit (.int .i64 a_To), .sl false 1 (.lit (.int .i64 0)) (ML dI a_Things), .lit (.int .i64 a_At)], .agg [.lit (.int .i64 b_From), .lit (.int .i64 b_To), .sl false 1 (.lit (.int .i64 0)) (ML dI b_Things), .lit (.int .i64 b_At)]] [] = some ((fun (a : TParcel) (b : TParcel) => smP a ∧ smP b) ⟨a_From, a_To, a_Things, a_At⟩ ⟨b_From, b_To, b_Things, b_At⟩, (fun (a : TParcel) (b : TParcel) => (dB (decide (a = b)) : D)) ⟨a_From, a_To, a_Things, a_At⟩ ⟨b_From, b_To, b_Things, b_At⟩, (fun (a : TParcel) (b : TParcel) => []) ⟨a_From, a_To, a_Things, a_At⟩ ⟨b_From, b_To, b_Things, b_At⟩) :=
  mkCon_fn (fun x y h _ => c8_inj x y h) ((⟨a_From, a_To, a_Things, a_At⟩, ⟨b_From, b_To, b_Things, b_At⟩) : TParcel × TParcel) (by simp [nz, nz1, ML_nil, encLI, encTParcel]) rfl
theorem c8_pc (a : TParcel) (b : TParcel) (hpre : smP a ∧ smP b) : PCo Try.prog 8 [encTParcel a, encTParcel b] (Tab.of []) (dB (decide (a = b))) (Tab.of []) := by
  obtain ⟨a_From, a_To, a_Things, a_At⟩ := a
  obtain ⟨b_From, b_To, b_Things, b_At⟩ := b
  refine pco_of_run [] (E := ⟨[c16], []⟩) (m := false) (base := 0) (Env.ok_cons c16_ok Env.ok_nil) G_ok mix 300 6 Try.func8 (by kernel_rfl) rfl (by kernel_rfl) (by kernel_rfl) rfl ?_
  simp [Try.f8]
  simp at hpre
  repeat' (first | omega | refine And.intro ?_ ?_ | intro _)
  all_goals grind
theorem c8_ok : c8.ok Try.prog := mkCon_ok fun ⟨a, b⟩ hpre => c8_pc a b hpre
/-- loop.example/g03007/laws.szParcel -/
noncomputable def c4 : Con := mkCon 4 false (α := TParcel × Int) (fun x => (fun (r : TParcel) (left : Int) => [encTParcel r, dI left]) x.1 x.2) (fun _ => []) (fun x => (fun (r : TParcel) (left : Int) => smQ r ∧ 0 ≤ left ∧ left ≤ 1099511627776) x.1 x.2) (fun x => (fun (r : TParcel) (left : Int) => (dI (szP r left) : D)) x.1 x.2) (fun x => (fun (r : TParcel) (left : Int) => []) x.1 x.2)
@[simp] theorem c4_f : c4.f = 4 := rfl
@[simp] theorem c4_own : c4.own = false := rfl
theorem c4_inj : ∀ u_ v_ : TParcel × Int, ((fun x => (fun (r : TParcel) (left : Int) => [encTParcel r, dI left]) x.1 x.2) u_).map nz = ((fun x => (fun (r : TParcel) (left : Int) => [encTParcel r, dI left]) x.1 x.2) v_).map nz → u_ = v_ := by
  intro u_ v_ h
  obtain ⟨⟨r_From, r_To, r_Things, r_At⟩, left⟩ := u_
  obtain ⟨⟨r_From', r_To', r_Things', r_At'⟩, left'⟩ := v_
  simp [nz_lit, nz1_lit, nz_agg, nz_sl, nz1_sl, encLI, encTParcel] at h
  first | (simp [h]; done) | (obtain ⟨⟩ := h; simp_all; done) | simp_all
@[simp] theorem c4_fn (r_From : Int) (r_To : Int) (r_Things : List Int) (r_At : Int) (left : Int) : c4.fn [.agg [.lit (.int .i64 r_From), .lit (.int .i64 r_To), .sl false 1 (.lit (.int .i64 0)) (ML dI r_Things), .lit (.int .i64 r_At)], .lit (.int .i64 left)] [] = some ((fun (r : TParcel) (left : Int) => smQ r ∧ 0 ≤ left ∧ left ≤ 1099511627776) ⟨r_From, r_To, r_Things, r_At⟩ left, (fun (r : TParcel) (left : Int) => (dI (szP r left) : D)) ⟨r_From, r_To, r_Things, r_At⟩ left, (fun (r : TParcel) (left : Int) => []) ⟨r_From, r_To, r_Things, r_At⟩ left) :=
  mkCon_fn (fun x y h _ => c4_inj x y h) ((⟨r_From, r_To, r_Things, r_At⟩, left) : TParcel × Int) (by simp [nz, nz1, ML_nil, encLI, encTParcel]) rfl
theorem c4_pc (r : TParcel) (left : Int) (hpre : smQ r ∧ 0 ≤ left ∧ left ≤ 1099511627776) : PCo Try.prog 4 [encTParcel r, dI left] (Tab.of []) (dI (szP r left)) (Tab.of []) := by
  obtain ⟨r_From, r_To, r_Things, r_At⟩ := r
  refine pco_of_run [] (E := ⟨[c9], []⟩) (m := false) (base := 0) (Env.ok_cons c9_ok Env.ok_nil) G_ok mix 300 6 Try.func4 (by kernel_rfl) rfl (by kernel_rfl) (by kernel_rfl) rfl ?_
  simp [Try.f4]
  simp at hpre
  repeat' (first | omega | refine And.intro ?_ ?_ | intro _)
  all_goals (simp only [szP]; first | done | ((repeat' split) <;> omega))
theorem c4_ok : c4.ok Try.prog := mkCon_ok fun ⟨r, left⟩ hpre => c4_pc r left hpre
/-- loop.example/g03007/impl.IsParcel -/
noncomputable def c7 : Con := mkCon 7 false (α := TParcel) (fun x => (fun (x : TParcel) => [encTParcel x]) x) (fun _ => []) (fun x => (fun (x : TParcel) => smP x) x) (fun x => (fun (x : TParcel) => (dB (mIsParcel x) : D)) x) (fun x => (fun (x : TParcel) => []) x)
@[simp] theorem c7_f : c7.f = 7 := rfl
@[simp] theorem c7_own : c7.own = false := rfl
theorem c7_inj : ∀ u_ v_ : TParcel, ((fun x => (fun (x : TParcel) => [encTParcel x]) x) u_).map nz = ((fun x => (fun (x : TParcel) => [encTParcel x]) x) v_).map nz → u_ = v_ := by
  intro u_ v_ h
  obtain ⟨x_From, x_To, x_Things, x_At⟩ := u_
  obtain ⟨x_From', x_To', x_Things', x_At'⟩ := v_
  simp [nz_lit, nz1_lit, nz_agg, nz_sl, nz1_sl, encLI, encTParcel] at h
  first | (simp [h]; done) | (obtain ⟨⟩ := h; simp_all; done) | simp_all
@[simp] theorem c7_fn (x_From : Int) (x_To : Int) (x_Things : List Int) (x_At : Int) : c7.fn [.agg [.lit (.int .i64 x_From), .lit (.int .i64 x_To), .sl false 1 (.lit (.int .i64 0)) (ML dI x_Things), .lit (.int .i64 x_At)]] [] = some ((fun (x : TParcel) => smP x) ⟨x_From, x_To, x_Things, x_At⟩, (fun (x : TParcel) => (dB (mIsParcel x) : D)) ⟨x_From, x_To, x_Things, x_At⟩, (fun (x : TParcel) => []) ⟨x_From, x_To, x_Things, x_At⟩) :=
  mkCon_fn (fun x y h _ => c7_inj x y h) (⟨x_From, x_To, x_Things, x_At⟩ : TParcel) (by simp [nz, nz1, ML_nil, encLI, encTParcel]) rfl
theorem c7_pc (x : TParcel) (hpre : smP x) : PCo Try.prog 7 [encTParcel x] (Tab.of []) (dB (mIsParcel x)) (Tab.of []) := by
  obtain ⟨x_From, x_To, x_Things, x_At⟩ := x
  refine pco_of_run [] (E := ⟨[c13, c14, c15], []⟩) (m := false) (base := 0) (Env.ok_cons c13_ok (Env.ok_cons c14_ok (Env.ok_cons c15_ok Env.ok_nil))) G_ok mix 300 6 Try.func7 (by kernel_rfl) rfl (by kernel_rfl) (by kernel_rfl) rfl ?_
  simp [Try.f7]
  simp at hpre
  simp [mIsParcel]
  first | exact ⟨fun _ _ _ _ => hpre, rfl⟩ | exact fun _ _ _ _ => hpre
theorem c7_ok : c7.ok Try.prog := mkCon_ok fun x hpre => c7_pc x hpre
/-- loop.example/g03007/spec.IsParcel -/
noncomputable def c5 : Con := mkCon 5 false (α := TParcel) (fun x => (fun (x : TParcel) => [encTParcel x]) x) (fun _ => []) (fun x => (fun (x : TParcel) => smP x) x) (fun x => (fun (x : TParcel) => (dB (mIsParcel x) : D)) x) (fun x => (fun (x : TParcel) => []) x)
@[simp] theorem c5_f : c5.f = 5 := rfl
@[simp] theorem c5_own : c5.own = false := rfl
theorem c5_inj : ∀ u_ v_ : TParcel, ((fun x => (fun (x : TParcel) => [encTParcel x]) x) u_).map nz = ((fun x => (fun (x : TParcel) => [encTParcel x]) x) v_).map nz → u_ = v_ := by
  intro u_ v_ h
  obtain ⟨x_From, x_To, x_Things, x_At⟩ := u_
  obtain ⟨x_From', x_To', x_Things', x_At'⟩ := v_
  simp [nz_lit, nz1_lit, nz_agg, nz_sl, nz1_sl, encLI, encTParcel] at h
  first | (simp [h]; done) | (obtain ⟨⟩ := h; simp_all; done) | simp_all
@[simp] theorem c5_fn (x_From : Int) (x_To : Int) (x_Things : List Int) (x_At : Int) : c5.fn [.agg [.lit (.int .i64 x_From), .lit (.int .i64 x_To), .sl false 1 (.lit (.int .i64 0)) (ML dI x_Things), .lit (.int .i64 x_At)]] [] = some ((fun (x : TParcel) => smP x) ⟨x_From, x_To, x_Things, x_At⟩, (fun (x : TParcel) => (dB (mIsParcel x) : D)) ⟨x_From, x_To, x_Things, x_At⟩, (fun (x : TParcel) => []) ⟨x_From, x_To, x_Things, x_At⟩) :=
  mkCon_fn (fun x y h _ => c5_inj x y h) (⟨x_From, x_To, x_Things, x_At⟩ : TParcel) (by simp [nz, nz1, ML_nil, encLI, encTParcel]) rfl
theorem c5_pc (x : TParcel) (hpre : smP x) : PCo Try.prog 5 [encTParcel x] (Tab.of []) (dB (mIsParcel x)) (Tab.of []) := by
  obtain ⟨x_From, x_To, x_Things, x_At⟩ := x
  refine pco_of_run [] (E := ⟨[c10, c11], []⟩) (m := false) (base := 0) (Env.ok_cons c10_ok (Env.ok_cons c11_ok Env.ok_nil)) G_ok mix 300 6 Try.func5 (by kernel_rfl) rfl (by kernel_rfl) (by kernel_rfl) rfl ?_
  simp [Try.f5]
  simp at hpre
  simp [mIsParcel]
  first | exact ⟨fun _ _ _ _ => hpre, rfl⟩ | exact fun _ _ _ _ => hpre
theorem c5_ok : c5.ok Try.prog := mkCon_ok fun x hpre => c5_pc x hpre
theorem wfP_len {r : TParcel} (h : wfTParcel r) : r.Things.length ≤ maxLen := h.2.2.1.1
theorem szP_len {r : TParcel} {left : Int} (h : 0 ≤ szP r left) : r.Things.length ≤ left ∧ szP r left ≤ left := by
  simp only [szP] at h ⊢
  split at h
  · omega
  · rename_i h2; rw [if_neg h2]; omega
/-- loop.example/g03007/laws.FnExactIsParcel -/
theorem law3 (r : TParcel) (wr : wfTParcel r) : PCo Try.prog 3 [encTParcel r] (Tab.of []) (dB true) (Tab.of []) := by
  obtain ⟨r_From, r_To, r_Things, r_At⟩ := r
  refine pco_of_run [1000006] (E := ⟨[c4, c5, c6, c7, c8], []⟩) (m := false) (base := 0) (Env.ok_cons c4_ok (Env.ok_cons c5_ok (Env.ok_cons c6_ok (Env.ok_cons c7_ok (Env.ok_cons c8_ok Env.ok_nil))))) G_ok mix 400 6 Try.func3 (by kernel_rfl) rfl (by kernel_rfl) (by kernel_rfl) rfl ?_
  simp (config := {maxSteps := 3000000}) [Try.f3]
  have h1 := wfP_len wr
  refine ⟨h1, fun h => ?_⟩
  have h2 := szP_len h
  simp at h2
  omega
theorem law3_pc (D0 : D) (h0 : Sh G 9 24 D0) : PC Try.prog 3 [D0] (dB true) [] := by
  obtain ⟨r, rfl, wr⟩ := sh24 (n := 6) h0
  exact law3 r wr

end Go.Proofs.Ytmkhcehomcpkfaa
