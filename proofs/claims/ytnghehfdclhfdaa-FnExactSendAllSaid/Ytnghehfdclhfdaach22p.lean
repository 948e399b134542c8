/- Contracts of the functions that the laws run. -/
import Derived.Test.Ytnghehfdclhfdaach07
import Derived.Test.YtnghehfdclhfdaaEngB
namespace Go.Proofs.Ytnghehfdclhfdaa
open Go Go.Eng
set_option linter.unusedSimpArgs false
set_option linter.unusedVariables false
set_option maxRecDepth 10000
set_option maxHeartbeats 1000000
def mDig (k : Int) : Bool := mIn k 1 9
@[simp] theorem size9 : ({ data := #[49, 50, 51, 52, 53, 54, 55, 56, 57] } : ByteArray).size = 9 := rfl
@[simp] theorem dec9_0 : Utf8.decode ({ data := #[49, 50, 51, 52, 53, 54, 55, 56, 57] } : ByteArray) 0 = (49, 1) := by first | rfl | decide
@[simp] theorem dec9_1 : Utf8.decode ({ data := #[49, 50, 51, 52, 53, 54, 55, 56, 57] } : ByteArray) 1 = (50, 1) := by first | rfl | decide
@[simp] theorem dec9_2 : Utf8.decode ({ data := #[49, 50, 51, 52, 53, 54, 55, 56, 57] } : ByteArray) 2 = (51, 1) := by first | rfl | decide
@[simp] theorem dec9_3 : Utf8.decode ({ data := #[49, 50, 51, 52, 53, 54, 55, 56, 57] } : ByteArray) 3 = (52, 1) := by first | rfl | decide
@[simp] theorem dec9_4 : Utf8.decode ({ data := #[49, 50, 51, 52, 53, 54, 55, 56, 57] } : ByteArray) 4 = (53, 1) := by first | rfl | decide
@[simp] theorem dec9_5 : Utf8.decode ({ data := #[49, 50, 51, 52, 53, 54, 55, 56, 57] } : ByteArray) 5 = (54, 1) := by first | rfl | decide
@[simp] theorem dec9_6 : Utf8.decode ({ data := #[49, 50, 51, 52, 53, 54, 55, 56, 57] } : ByteArray) 6 = (55, 1) := by first | rfl | decide
@[simp] theorem dec9_7 : Utf8.decode ({ data := #[49, 50, 51, 52, 53, 54, 55, 56, 57] } : ByteArray) 7 = (56, 1) := by first | rfl | decide
@[simp] theorem dec9_8 : Utf8.decode ({ data := #[49, 50, 51, 52, 53, 54, 55, 56, 57] } : ByteArray) 8 = (57, 1) := by first | rfl | decide
@[simp] theorem w32_1 : IntKind.i32.wrap 1 = 1 := by first | rfl | decide
@[simp] theorem w32_2 : IntKind.i32.wrap 2 = 2 := by first | rfl | decide
@[simp] theorem w32_3 : IntKind.i32.wrap 3 = 3 := by first | rfl | decide
@[simp] theorem w32_4 : IntKind.i32.wrap 4 = 4 := by first | rfl | decide
@[simp] theorem w32_5 : IntKind.i32.wrap 5 = 5 := by first | rfl | decide
@[simp] theorem w32_6 : IntKind.i32.wrap 6 = 6 := by first | rfl | decide
@[simp] theorem w32_7 : IntKind.i32.wrap 7 = 7 := by first | rfl | decide
@[simp] theorem w32_8 : IntKind.i32.wrap 8 = 8 := by first | rfl | decide
@[simp] theorem w32_9 : IntKind.i32.wrap 9 = 9 := by first | rfl | decide
/-- loop.example/g03007/impl.isHouseNo -/
noncomputable def c115 : Con := mkCon 115 false (α := Int) (fun x => (fun (k : Int) => [dI k]) x) (fun _ => []) (fun x => (fun (k : Int) => True) x) (fun x => (fun (k : Int) => (dB (mDig k) : D)) x) (fun x => (fun (k : Int) => []) x)
@[simp] theorem c115_f : c115.f = 115 := rfl
@[simp] theorem c115_own : c115.own = false := rfl
theorem c115_inj : ∀ u_ v_ : Int, ((fun x => (fun (k : Int) => [dI k]) x) u_).map nz = ((fun x => (fun (k : Int) => [dI k]) x) v_).map nz → u_ = v_ := by
  intro u_ v_ h
  obtain k := u_
  obtain k' := v_
  simp [nz_lit, nz1_lit, nz_agg, nz_sl, nz1_sl] at h
  first | (simp [h]; done) | (obtain ⟨⟩ := h; simp_all; done) | simp_all
@[simp] theorem c115_fn (k : Int) : c115.fn [.lit (.int .i64 k)] [] = some ((fun (k : Int) => True) k, (fun (k : Int) => (dB (mDig k) : D)) k, (fun (k : Int) => []) k) :=
  mkCon_fn (fun x y h _ => c115_inj x y h) (k : Int) (by simp [nz, nz1, ML_nil]) rfl
theorem c115_pc (k : Int) : PCo Try.prog 115 [dI k] (Tab.of []) (dB (mDig k)) (Tab.of []) := by
  refine pco_of_run [] (E := ⟨[], [], []⟩) (m := false) (base := 0) Env.ok_nil G_ok mix 300 6 Try.func115 (by kernel_rfl) rfl (by kernel_rfl) (by kernel_rfl) rfl ?_
  simp [Try.f115]
  refine loop_unroll 400 ?_
  simp (config := {maxSteps := 3000000})
  have hd : mDig k = true ↔ 1 ≤ k ∧ k ≤ 9 := mIn_iff
  cases h : mDig k with
  | true =>
    have := hd.1 h
    repeat' (first | omega | refine And.intro ?_ ?_ | intro _)
    all_goals rfl
  | false =>
    have : ¬ (1 ≤ k ∧ k ≤ 9) := fun e => by rw [hd.2 e] at h; cases h
    repeat' (first | omega | refine And.intro ?_ ?_ | intro _)
    all_goals rfl
theorem c115_ok : c115.ok Try.prog := mkCon_ok fun k hpre => c115_pc k
def mIsParcel (x : TParcel) : Bool := mDig x.From && mDig x.To && x.From != x.To && mIn x.Things.length 1 10 && ascW 999 1 x.Things && mIn x.At 0 100000
@[simp] def smP (r : TParcel) : Prop := r.Things.length ≤ 1099511627776
@[simp] def smQ (r : TParcel) : Prop := r.Things.length ≤ maxLen
def szP (r : TParcel) (left : Int) : Int := if left - r.Things.length < 0 then -1 else left - r.Things.length
/-- loop.example/g03007/laws.toParcel -/
noncomputable def c61 : Con := mkCon 61 false (α := TParcel) (fun x => (fun (r : TParcel) => [encTParcel r]) x) (fun _ => []) (fun x => (fun (r : TParcel) => smP r) x) (fun x => (fun (r : TParcel) => (encTParcel r : D)) x) (fun x => (fun (r : TParcel) => []) x)
@[simp] theorem c61_f : c61.f = 61 := rfl
@[simp] theorem c61_own : c61.own = false := rfl
theorem c61_inj : ∀ u_ v_ : TParcel, ((fun x => (fun (r : TParcel) => [encTParcel r]) x) u_).map nz = ((fun x => (fun (r : TParcel) => [encTParcel r]) x) v_).map nz → u_ = v_ := by
  intro u_ v_ h
  obtain ⟨r_From, r_To, r_Things, r_At⟩ := u_
  obtain ⟨r_From', r_To', r_Things', r_At'⟩ := v_
  simp [nz_lit, nz1_lit, nz_agg, nz_sl, nz1_sl, encLI, encTParcel] at h
  first | (simp [h]; done) | (obtain ⟨⟩ := h; simp_all; done) | simp_all
@[simp] theorem c61_fn (r_From : Int) (r_To : Int) (r_Things : List Int) (r_At : Int) : c61.fn [.agg [.lit (.int .i64 r_From), .lit (.int .i64 r_To), .sl false 1 (.lit (.int .i64 0)) (ML dI r_Things), .lit (.int .i64 r_At)]] [] = some ((fun (r : TParcel) => smP r) ⟨r_From, r_To, r_Things, r_At⟩, (fun (r : TParcel) => (encTParcel r : D)) ⟨r_From, r_To, r_Things, r_At⟩, (fun (r : TParcel) => []) ⟨r_From, r_To, r_Things, r_At⟩) :=
  mkCon_fn (fun x y h _ => c61_inj x y h) (⟨r_From, r_To, r_Things, r_At⟩ : TParcel) (by simp [nz, nz1, ML_nil, encLI, encTParcel]) rfl
theorem c61_pc (r : TParcel) (hpre : smP r) : PCo Try.prog 61 [encTParcel r] (Tab.of []) (encTParcel r) (Tab.of []) := by
  obtain ⟨r_From, r_To, r_Things, r_At⟩ := r
  refine pco_of_run [] (E := ⟨[c53], [], []⟩) (m := false) (base := 0) (Env.ok_cons c53_ok Env.ok_nil) G_ok mix 300 6 Try.func61 (by kernel_rfl) rfl (by kernel_rfl) (by kernel_rfl) rfl ?_
  simp [Try.f61]
  simp at hpre
  exact hpre
theorem c61_ok : c61.ok Try.prog := mkCon_ok fun r hpre => c61_pc r hpre
/-- loop.example/g03007/laws.eqParcel -/
noncomputable def c65 : Con := mkCon 65 false (α := TParcel × TParcel) (fun x => (fun (a : TParcel) (b : TParcel) => [encTParcel a, encTParcel b]) x.1 x.2) (fun _ => []) (fun x => (fun (a : TParcel) (b : TParcel) => smP a ∧ smP b) x.1 x.2) (fun x => (fun (a : TParcel) (b : TParcel) => (dB (decide (a = b)) : D)) x.1 x.2) (fun x => (fun (a : TParcel) (b : TParcel) => []) x.1 x.2)
@[simp] theorem c65_f : c65.f = 65 := rfl
@[simp] theorem c65_own : c65.own = false := rfl
theorem c65_inj : ∀ u_ v_ : TParcel × TParcel, ((fun x => (fun (a : TParcel) (b : TParcel) => [encTParcel a, encTParcel b]) x.1 x.2) u_).map nz = ((fun x => (fun (a : TParcel) (b : TParcel) => [encTParcel a, encTParcel b]) x.1 x.2) v_).map nz → u_ = v_ := by
  intro u_ v_ h
  obtain ⟨⟨a_From, a_To, a_Things, a_At⟩, ⟨b_From, b_To, b_Things, b_At⟩⟩ := u_
  obtain ⟨⟨a_From', a_To', a_Things', a_At'⟩, ⟨b_From', b_To', b_Things', b_At'⟩⟩ := v_
  simp [nz_lit, nz1_lit, nz_agg, nz_sl, nz1_sl, encLI, encTParcel] at h
  first | (simp [h]; done) | (obtain ⟨⟩ := h; simp_all; done) | simp_all
@[simp] theorem c65_fn (a_From : Int) (a_To : Int) (a_Things : List Int) (a_At : Int) (b_From : Int) (b_To : Int) (b_Things : List Int) (b_At : Int) : c65.fn [.agg [.lit (.int .i64 a_From), .lit (.int .i64 a_To), .sl false 1 (.lit (.int .i64 0)) (ML dI a_Things), .lit (.int .i64 a_At)], .agg [.lit (.int .i64 b_From), .lit (.int .i64 b_To), .sl false 1 (.lit (.int .i64 0)) (ML dI b_Things), .lit (.int .i64 b_At)]] [] = some ((fun (a : TParcel) (b : TParcel) => smP a ∧ smP b) ⟨a_From, a_To, a_Things, a_At⟩ ⟨b_From, b_To, b_Things, b_At⟩, (fun (a : TParcel) (b : TParcel) => (dB (decide (a = b)) : D)) ⟨a_From, a_To, a_Things, a_At⟩ ⟨b_From, b_To, b_Things, b_At⟩, (fun (a : TParcel) (b : TParcel) => []) ⟨a_From, a_To, a_Things, a_At⟩ ⟨b_From, b_To, b_Things, b_At⟩) :=
  mkCon_fn (fun x y h _ => c65_inj x y h) ((⟨a_From, a_To, a_Things, a_At⟩, ⟨b_From, b_To, b_Things, b_At⟩) : TParcel × TParcel) (by simp [nz, nz1, ML_nil, encLI, encTParcel]) rfl
theorem c65_pc (a : TParcel) (b : TParcel) (hpre : smP a ∧ smP b) : PCo Try.prog 65 [encTParcel a, encTParcel b] (Tab.of []) (dB (decide (a = b))) (Tab.of []) := by
  obtain ⟨a_From, a_To, a_Things, a_At⟩ := a
  obtain ⟨b_From, b_To, b_Things, b_At⟩ := b
  refine pco_of_run [] (E := ⟨[c13], [], []⟩) (m := false) (base := 0) (Env.ok_cons c13_ok Env.ok_nil) G_ok mix 300 6 Try.func65 (by kernel_rfl) rfl (by kernel_rfl) (by kernel_rfl) rfl ?_
  simp [Try.f65]
  simp at hpre
  repeat' (first | omega | refine And.intro ?_ ?_ | intro _)
  all_goals grind
theorem c65_ok : c65.ok Try.prog := mkCon_ok fun ⟨a, b⟩ hpre => c65_pc a b hpre
/-- loop.example/g03007/laws.szParcel -/
noncomputable def c58 : Con := mkCon 58 false (α := TParcel × Int) (fun x => (fun (r : TParcel) (left : Int) => [encTParcel r, dI left]) x.1 x.2) (fun _ => []) (fun x => (fun (r : TParcel) (left : Int) => smQ r ∧ 0 ≤ left ∧ left ≤ 1099511627776) x.1 x.2) (fun x => (fun (r : TParcel) (left : Int) => (dI (szP r left) : D)) x.1 x.2) (fun x => (fun (r : TParcel) (left : Int) => []) x.1 x.2)
@[simp] theorem c58_f : c58.f = 58 := rfl
@[simp] theorem c58_own : c58.own = false := rfl
theorem c58_inj : ∀ u_ v_ : TParcel × Int, ((fun x => (fun (r : TParcel) (left : Int) => [encTParcel r, dI left]) x.1 x.2) u_).map nz = ((fun x => (fun (r : TParcel) (left : Int) => [encTParcel r, dI left]) x.1 x.2) v_).map nz → u_ = v_ := by
  intro u_ v_ h
  obtain ⟨⟨r_From, r_To, r_Things, r_At⟩, left⟩ := u_
  obtain ⟨⟨r_From', r_To', r_Things', r_At'⟩, left'⟩ := v_
  simp [nz_lit, nz1_lit, nz_agg, nz_sl, nz1_sl, encLI, encTParcel] at h
  first | (simp [h]; done) | (obtain ⟨⟩ := h; simp_all; done) | simp_all
@[simp] theorem c58_fn (r_From : Int) (r_To : Int) (r_Things : List Int) (r_At : Int) (left : Int) : c58.fn [.agg [.lit (.int .i64 r_From), .lit (.int .i64 r_To), .sl false 1 (.lit (.int .i64 0)) (ML dI r_Things), .lit (.int .i64 r_At)], .lit (.int .i64 left)] [] = some ((fun (r : TParcel) (left : Int) => smQ r ∧ 0 ≤ left ∧ left ≤ 1099511627776) ⟨r_From, r_To, r_Things, r_At⟩ left, (fun (r : TParcel) (left : Int) => (dI (szP r left) : D)) ⟨r_From, r_To, r_Things, r_At⟩ left, (fun (r : TParcel) (left : Int) => []) ⟨r_From, r_To, r_Things, r_At⟩ left) :=
  mkCon_fn (fun x y h _ => c58_inj x y h) ((⟨r_From, r_To, r_Things, r_At⟩, left) : TParcel × Int) (by simp [nz, nz1, ML_nil, encLI, encTParcel]) rfl
theorem c58_pc (r : TParcel) (left : Int) (hpre : smQ r ∧ 0 ≤ left ∧ left ≤ 1099511627776) : PCo Try.prog 58 [encTParcel r, dI left] (Tab.of []) (dI (szP r left)) (Tab.of []) := by
  obtain ⟨r_From, r_To, r_Things, r_At⟩ := r
  refine pco_of_run [] (E := ⟨[c51], [], []⟩) (m := false) (base := 0) (Env.ok_cons c51_ok Env.ok_nil) G_ok mix 300 6 Try.func58 (by kernel_rfl) rfl (by kernel_rfl) (by kernel_rfl) rfl ?_
  simp [Try.f58]
  simp at hpre
  repeat' (first | omega | refine And.intro ?_ ?_ | intro _)
  all_goals (simp only [szP]; first | done | ((repeat' split) <;> omega))
theorem c58_ok : c58.ok Try.prog := mkCon_ok fun ⟨r, left⟩ hpre => c58_pc r left hpre
/-- loop.example/g03007/impl.IsParcel -/
noncomputable def c88 : Con := mkCon 88 false (α := TParcel) (fun x => (fun (x : TParcel) => [encTParcel x]) x) (fun _ => []) (fun x => (fun (x : TParcel) => smP x) x) (fun x => (fun (x : TParcel) => (dB (mIsParcel x) : D)) x) (fun x => (fun (x : TParcel) => []) x)
@[simp] theorem c88_f : c88.f = 88 := rfl
@[simp] theorem c88_own : c88.own = false := rfl
theorem c88_inj : ∀ u_ v_ : TParcel, ((fun x => (fun (x : TParcel) => [encTParcel x]) x) u_).map nz = ((fun x => (fun (x : TParcel) => [encTParcel x]) x) v_).map nz → u_ = v_ := by
  intro u_ v_ h
  obtain ⟨x_From, x_To, x_Things, x_At⟩ := u_
  obtain ⟨x_From', x_To', x_Things', x_At'⟩ := v_
  simp [nz_lit, nz1_lit, nz_agg, nz_sl, nz1_sl, encLI, encTParcel] at h
  first | (simp [h]; done) | (obtain ⟨⟩ := h; simp_all; done) | simp_all
@[simp] theorem c88_fn (x_From : Int) (x_To : Int) (x_Things : List Int) (x_At : Int) : c88.fn [.agg [.lit (.int .i64 x_From), .lit (.int .i64 x_To), .sl false 1 (.lit (.int .i64 0)) (ML dI x_Things), .lit (.int .i64 x_At)]] [] = some ((fun (x : TParcel) => smP x) ⟨x_From, x_To, x_Things, x_At⟩, (fun (x : TParcel) => (dB (mIsParcel x) : D)) ⟨x_From, x_To, x_Things, x_At⟩, (fun (x : TParcel) => []) ⟨x_From, x_To, x_Things, x_At⟩) :=
  mkCon_fn (fun x y h _ => c88_inj x y h) (⟨x_From, x_To, x_Things, x_At⟩ : TParcel) (by simp [nz, nz1, ML_nil, encLI, encTParcel]) rfl
theorem c88_pc (x : TParcel) (hpre : smP x) : PCo Try.prog 88 [encTParcel x] (Tab.of []) (dB (mIsParcel x)) (Tab.of []) := by
  obtain ⟨x_From, x_To, x_Things, x_At⟩ := x
  refine pco_of_run [] (E := ⟨[c102, c103, c115], [], []⟩) (m := false) (base := 0) (Env.ok_cons c102_ok (Env.ok_cons c103_ok (Env.ok_cons c115_ok Env.ok_nil))) G_ok mix 300 6 Try.func88 (by kernel_rfl) rfl (by kernel_rfl) (by kernel_rfl) rfl ?_
  simp [Try.f88]
  simp at hpre
  simp [mIsParcel]
  first | exact ⟨fun _ _ _ _ => hpre, rfl⟩ | exact fun _ _ _ _ => hpre
theorem c88_ok : c88.ok Try.prog := mkCon_ok fun x hpre => c88_pc x hpre
/-- loop.example/g03007/spec.IsParcel -/
noncomputable def c84 : Con := mkCon 84 false (α := TParcel) (fun x => (fun (x : TParcel) => [encTParcel x]) x) (fun _ => []) (fun x => (fun (x : TParcel) => smP x) x) (fun x => (fun (x : TParcel) => (dB (mIsParcel x) : D)) x) (fun x => (fun (x : TParcel) => []) x)
@[simp] theorem c84_f : c84.f = 84 := rfl
@[simp] theorem c84_own : c84.own = false := rfl
theorem c84_inj : ∀ u_ v_ : TParcel, ((fun x => (fun (x : TParcel) => [encTParcel x]) x) u_).map nz = ((fun x => (fun (x : TParcel) => [encTParcel x]) x) v_).map nz → u_ = v_ := by
  intro u_ v_ h
  obtain ⟨x_From, x_To, x_Things, x_At⟩ := u_
  obtain ⟨x_From', x_To', x_Things', x_At'⟩ := v_
  simp [nz_lit, nz1_lit, nz_agg, nz_sl, nz1_sl, encLI, encTParcel] at h
  first | (simp [h]; done) | (obtain ⟨⟩ := h; simp_all; done) | simp_all
@[simp] theorem c84_fn (x_From : Int) (x_To : Int) (x_Things : List Int) (x_At : Int) : c84.fn [.agg [.lit (.int .i64 x_From), .lit (.int .i64 x_To), .sl false 1 (.lit (.int .i64 0)) (ML dI x_Things), .lit (.int .i64 x_At)]] [] = some ((fun (x : TParcel) => smP x) ⟨x_From, x_To, x_Things, x_At⟩, (fun (x : TParcel) => (dB (mIsParcel x) : D)) ⟨x_From, x_To, x_Things, x_At⟩, (fun (x : TParcel) => []) ⟨x_From, x_To, x_Things, x_At⟩) :=
  mkCon_fn (fun x y h _ => c84_inj x y h) (⟨x_From, x_To, x_Things, x_At⟩ : TParcel) (by simp [nz, nz1, ML_nil, encLI, encTParcel]) rfl
theorem c84_pc (x : TParcel) (hpre : smP x) : PCo Try.prog 84 [encTParcel x] (Tab.of []) (dB (mIsParcel x)) (Tab.of []) := by
  obtain ⟨x_From, x_To, x_Things, x_At⟩ := x
  refine pco_of_run [] (E := ⟨[c99, c100], [], []⟩) (m := false) (base := 0) (Env.ok_cons c99_ok (Env.ok_cons c100_ok Env.ok_nil)) G_ok mix 300 6 Try.func84 (by kernel_rfl) rfl (by kernel_rfl) (by kernel_rfl) rfl ?_
  simp [Try.f84]
  simp at hpre
  simp [mIsParcel]
  first | exact ⟨fun _ _ _ _ => hpre, rfl⟩ | exact fun _ _ _ _ => hpre
theorem c84_ok : c84.ok Try.prog := mkCon_ok fun x hpre => c84_pc x hpre
theorem wfP_len {r : TParcel} (h : wfTParcel r) : r.Things.length ≤ maxLen := h.2.2.1.1
theorem szP_len {r : TParcel} {left : Int} (h : 0 ≤ szP r left) : r.Things.length ≤ left ∧ szP r left ≤ left := by
  simp only [szP] at h ⊢
  split at h
  · omega
  · rename_i h2; rw [if_neg h2]; omega
end Go.Proofs.Ytnghehfdclhfdaa
