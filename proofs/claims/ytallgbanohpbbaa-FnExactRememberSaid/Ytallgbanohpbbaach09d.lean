/- Contracts of the functions that the laws run. -/
import Derived.Test.Ytallgbanohpbbaach07
import Derived.Test.YtallgbanohpbbaahelpA
import Derived.Test.YtallgbanohpbbaaEngB
namespace Go.Proofs.Ytallgbanohpbbaa
open Go Go.Eng
set_option linter.unusedSimpArgs false
set_option linter.unusedVariables false
set_option maxRecDepth 10000
set_option maxHeartbeats 1000000
def mIsDoubt (d : TDoubt) : Bool := ascW 7 0 d.Colours && mIn d.Size 0 50 && decide (d.Places.length ≤ 9) && ascW 30 1 d.Places && mIn d.Hours 0 1000
@[simp] def smD (r : TDoubt) : Prop := r.Colours.length ≤ 1099511627776 ∧ r.Places.length ≤ 1099511627776
@[simp] def smDM (r : TDoubt) : Prop := r.Colours.length ≤ maxLen ∧ r.Places.length ≤ maxLen
/-- loop.example/g03007/spec.IsDoubt -/
noncomputable def c21 : Con := mkCon 21 false (α := TDoubt) (fun x => (fun (d : TDoubt) => [encTDoubt d]) x) (fun _ => []) (fun x => (fun (d : TDoubt) => smD d) x) (fun x => (fun (d : TDoubt) => (dB (mIsDoubt d) : D)) x) (fun x => (fun (d : TDoubt) => []) x)
@[simp] theorem c21_f : c21.f = 21 := rfl
@[simp] theorem c21_own : c21.own = false := rfl
theorem c21_inj : ∀ u_ v_ : TDoubt, ((fun x => (fun (d : TDoubt) => [encTDoubt d]) x) u_).map nz = ((fun x => (fun (d : TDoubt) => [encTDoubt d]) x) v_).map nz → u_ = v_ := by
  intro u_ v_ h
  obtain ⟨d_Colours, d_Size, d_Places, d_Hours⟩ := u_
  obtain ⟨d_Colours', d_Size', d_Places', d_Hours'⟩ := v_
  simp [nz_lit, nz1_lit, nz_agg, nz_sl, nz1_sl, encLI, encTDoubt] at h
  first | (simp [h]; done) | (obtain ⟨⟩ := h; simp_all; done) | simp_all
@[simp] theorem c21_fn (d_Colours : List Int) (d_Size : Int) (d_Places : List Int) (d_Hours : Int) : c21.fn [.agg [.sl false 1 (.lit (.int .i64 0)) (ML dI d_Colours), .lit (.int .i64 d_Size), .sl false 1 (.lit (.int .i64 0)) (ML dI d_Places), .lit (.int .i64 d_Hours)]] [] = some ((fun (d : TDoubt) => smD d) ⟨d_Colours, d_Size, d_Places, d_Hours⟩, (fun (d : TDoubt) => (dB (mIsDoubt d) : D)) ⟨d_Colours, d_Size, d_Places, d_Hours⟩, (fun (d : TDoubt) => []) ⟨d_Colours, d_Size, d_Places, d_Hours⟩) :=
  mkCon_fn (fun x y h _ => c21_inj x y h) (⟨d_Colours, d_Size, d_Places, d_Hours⟩ : TDoubt) (by simp [nz, nz1, ML_nil, encLI, encTDoubt]) rfl
theorem c21_pc (d : TDoubt) (hpre : smD d) : PCo Try.prog 21 [encTDoubt d] (Tab.of []) (dB (mIsDoubt d)) (Tab.of []) := by
  obtain ⟨d_Colours, d_Size, d_Places, d_Hours⟩ := d
  refine pco_of_run [] (E := ⟨[c47, c48], [], []⟩) (m := false) (base := 0) (Env.ok_cons c47_ok (Env.ok_cons c48_ok Env.ok_nil)) G_ok mix 300 6 Try.func21 (by kernel_rfl) rfl (by kernel_rfl) (by kernel_rfl) rfl ?_
  simp [Try.f21]
  simp at hpre
  simp [mIsDoubt, hpre]
  first | rfl | omega | (rw [Bool.eq_iff_iff]; simp; done) | (rw [Bool.eq_iff_iff]; simp; omega) | (rw [Bool.eq_iff_iff]; simp; grind) | grind
theorem c21_ok : c21.ok Try.prog := mkCon_ok fun d hpre => c21_pc d hpre
/-- loop.example/g03007/impl.IsDoubt -/
noncomputable def c29 : Con := mkCon 29 false (α := TDoubt) (fun x => (fun (d : TDoubt) => [encTDoubt d]) x) (fun _ => []) (fun x => (fun (d : TDoubt) => smD d) x) (fun x => (fun (d : TDoubt) => (dB (mIsDoubt d) : D)) x) (fun x => (fun (d : TDoubt) => []) x)
@[simp] theorem c29_f : c29.f = 29 := rfl
@[simp] theorem c29_own : c29.own = false := rfl
theorem c29_inj : ∀ u_ v_ : TDoubt, ((fun x => (fun (d : TDoubt) => [encTDoubt d]) x) u_).map nz = ((fun x => (fun (d : TDoubt) => [encTDoubt d]) x) v_).map nz → u_ = v_ := by
  intro u_ v_ h
  obtain ⟨d_Colours, d_Size, d_Places, d_Hours⟩ := u_
  obtain ⟨d_Colours', d_Size', d_Places', d_Hours'⟩ := v_
  simp [nz_lit, nz1_lit, nz_agg, nz_sl, nz1_sl, encLI, encTDoubt] at h
  first | (simp [h]; done) | (obtain ⟨⟩ := h; simp_all; done) | simp_all
@[simp] theorem c29_fn (d_Colours : List Int) (d_Size : Int) (d_Places : List Int) (d_Hours : Int) : c29.fn [.agg [.sl false 1 (.lit (.int .i64 0)) (ML dI d_Colours), .lit (.int .i64 d_Size), .sl false 1 (.lit (.int .i64 0)) (ML dI d_Places), .lit (.int .i64 d_Hours)]] [] = some ((fun (d : TDoubt) => smD d) ⟨d_Colours, d_Size, d_Places, d_Hours⟩, (fun (d : TDoubt) => (dB (mIsDoubt d) : D)) ⟨d_Colours, d_Size, d_Places, d_Hours⟩, (fun (d : TDoubt) => []) ⟨d_Colours, d_Size, d_Places, d_Hours⟩) :=
  mkCon_fn (fun x y h _ => c29_inj x y h) (⟨d_Colours, d_Size, d_Places, d_Hours⟩ : TDoubt) (by simp [nz, nz1, ML_nil, encLI, encTDoubt]) rfl
theorem c29_pc (d : TDoubt) (hpre : smD d) : PCo Try.prog 29 [encTDoubt d] (Tab.of []) (dB (mIsDoubt d)) (Tab.of []) := by
  obtain ⟨d_Colours, d_Size, d_Places, d_Hours⟩ := d
  refine pco_of_run [] (E := ⟨[c51, c52], [], []⟩) (m := false) (base := 0) (Env.ok_cons c51_ok (Env.ok_cons c52_ok Env.ok_nil)) G_ok mix 300 6 Try.func29 (by kernel_rfl) rfl (by kernel_rfl) (by kernel_rfl) rfl ?_
  simp [Try.f29]
  simp at hpre
  simp [mIsDoubt, hpre]
  first | rfl | omega | (rw [Bool.eq_iff_iff]; simp; done) | (rw [Bool.eq_iff_iff]; simp; omega) | (rw [Bool.eq_iff_iff]; simp; grind) | grind
theorem c29_ok : c29.ok Try.prog := mkCon_ok fun d hpre => c29_pc d hpre
def szD (r : TDoubt) (left : Int) : Int := if left - r.Colours.length < 0 ∨ left - r.Colours.length - r.Places.length < 0 then -1 else left - r.Colours.length - r.Places.length
/-- loop.example/g03007/laws.toDoubt -/
noncomputable def c8 : Con := mkCon 8 false (α := TDoubt) (fun x => (fun (r : TDoubt) => [encTDoubt r]) x) (fun _ => []) (fun x => (fun (r : TDoubt) => smD r) x) (fun x => (fun (r : TDoubt) => (encTDoubt r : D)) x) (fun x => (fun (r : TDoubt) => []) x)
@[simp] theorem c8_f : c8.f = 8 := rfl
@[simp] theorem c8_own : c8.own = false := rfl
theorem c8_inj : ∀ u_ v_ : TDoubt, ((fun x => (fun (r : TDoubt) => [encTDoubt r]) x) u_).map nz = ((fun x => (fun (r : TDoubt) => [encTDoubt r]) x) v_).map nz → u_ = v_ := by
  intro u_ v_ h
  obtain ⟨r_Colours, r_Size, r_Places, r_Hours⟩ := u_
  obtain ⟨r_Colours', r_Size', r_Places', r_Hours'⟩ := v_
  simp [nz_lit, nz1_lit, nz_agg, nz_sl, nz1_sl, encLI, encTDoubt] at h
  first | (simp [h]; done) | (obtain ⟨⟩ := h; simp_all; done) | simp_all
@[simp] theorem c8_fn (r_Colours : List Int) (r_Size : Int) (r_Places : List Int) (r_Hours : Int) : c8.fn [.agg [.sl false 1 (.lit (.int .i64 0)) (ML dI r_Colours), .lit (.int .i64 r_Size), .sl false 1 (.lit (.int .i64 0)) (ML dI r_Places), .lit (.int .i64 r_Hours)]] [] = some ((fun (r : TDoubt) => smD r) ⟨r_Colours, r_Size, r_Places, r_Hours⟩, (fun (r : TDoubt) => (encTDoubt r : D)) ⟨r_Colours, r_Size, r_Places, r_Hours⟩, (fun (r : TDoubt) => []) ⟨r_Colours, r_Size, r_Places, r_Hours⟩) :=
  mkCon_fn (fun x y h _ => c8_inj x y h) (⟨r_Colours, r_Size, r_Places, r_Hours⟩ : TDoubt) (by simp [nz, nz1, ML_nil, encLI, encTDoubt]) rfl
theorem c8_pc (r : TDoubt) (hpre : smD r) : PCo Try.prog 8 [encTDoubt r] (Tab.of []) (encTDoubt r) (Tab.of []) := by
  obtain ⟨r_Colours, r_Size, r_Places, r_Hours⟩ := r
  refine pco_of_run [] (E := ⟨[c27], [], []⟩) (m := false) (base := 0) (Env.ok_cons c27_ok Env.ok_nil) G_ok mix 300 6 Try.func8 (by kernel_rfl) rfl (by kernel_rfl) (by kernel_rfl) rfl ?_
  simp [Try.f8]
  simp at hpre
  exact hpre
theorem c8_ok : c8.ok Try.prog := mkCon_ok fun r hpre => c8_pc r hpre
/-- loop.example/g03007/laws.eqDoubt -/
noncomputable def c11 : Con := mkCon 11 false (α := TDoubt × TDoubt) (fun x => (fun (a : TDoubt) (b : TDoubt) => [encTDoubt a, encTDoubt b]) x.1 x.2) (fun _ => []) (fun x => (fun (a : TDoubt) (b : TDoubt) => smD a ∧ smD b) x.1 x.2) (fun x => (fun (a : TDoubt) (b : TDoubt) => (dB (decide (a = b)) : D)) x.1 x.2) (fun x => (fun (a : TDoubt) (b : TDoubt) => []) x.1 x.2)
@[simp] theorem c11_f : c11.f = 11 := rfl
@[simp] theorem c11_own : c11.own = false := rfl
theorem c11_inj : ∀ u_ v_ : TDoubt × TDoubt, ((fun x => (fun (a : TDoubt) (b : TDoubt) => [encTDoubt a, encTDoubt b]) x.1 x.2) u_).map nz = ((fun x => (fun (a : TDoubt) (b : TDoubt) => [encTDoubt a, encTDoubt b]) x.1 x.2) v_).map nz → u_ = v_ := by
  intro u_ v_ h
  obtain ⟨⟨a_Colours, a_Size, a_Places, a_Hours⟩, ⟨b_Colours, b_Size, b_Places, b_Hours⟩⟩ := u_
  obtain ⟨⟨a_Colours', a_Size', a_Places', a_Hours'⟩, ⟨b_Colours', b_Size', b_Places', b_Hours'⟩⟩ := v_
  simp [nz_lit, nz1_lit, nz_agg, nz_sl, nz1_sl, encLI, encTDoubt] at h
  first | (simp [h]; done) | (obtain ⟨⟩ := h; simp_all; done) | simp_all
@[simp] theorem c11_fn (a_Colours : List Int) (a_Size : Int) (a_Places : List Int) (a_Hours : Int) (b_Colours : List Int) (b_Size : Int) (b_Places : List Int) (b_Hours : Int) : c11.fn [.agg [.sl false 1 (.lit (.int .i64 0)) (ML dI a_Colours), .lit (.int .i64 a_Size), .sl false 1 (.lit (.int .i64 0)) (ML dI a_Places), .lit (.int .i64 a_Hours)], .agg [.sl false 1 (.lit (.int .i64 0)) (ML dI b_Colours), .lit (.int .i64 b_Size), .sl false 1 (.lit (.int .i64 0)) (ML dI b_Places), .lit (.int .i64 b_Hours)]] [] = some ((fun (a : TDoubt) (b : TDoubt) => smD a ∧ smD b) ⟨a_Colours, a_Size, a_Places, a_Hours⟩ ⟨b_Colours, b_Size, b_Places, b_Hours⟩, (fun (a : TDoubt) (b : TDoubt) => (dB (decide (a = b)) : D)) ⟨a_Colours, a_Size, a_Places, a_Hours⟩ ⟨b_Colours, b_Size, b_Places, b_Hours⟩, (fun (a : TDoubt) (b : TDoubt) => []) ⟨a_Colours, a_Size, a_Places, a_Hours⟩ ⟨b_Colours, b_Size, b_Places, b_Hours⟩) :=
  mkCon_fn (fun x y h _ => c11_inj x y h) ((⟨a_Colours, a_Size, a_Places, a_Hours⟩, ⟨b_Colours, b_Size, b_Places, b_Hours⟩) : TDoubt × TDoubt) (by simp [nz, nz1, ML_nil, encLI, encTDoubt]) rfl
theorem c11_pc (a : TDoubt) (b : TDoubt) (hpre : smD a ∧ smD b) : PCo Try.prog 11 [encTDoubt a, encTDoubt b] (Tab.of []) (dB (decide (a = b))) (Tab.of []) := by
  obtain ⟨a_Colours, a_Size, a_Places, a_Hours⟩ := a
  obtain ⟨b_Colours, b_Size, b_Places, b_Hours⟩ := b
  refine pco_of_run [] (E := ⟨[c39], [], []⟩) (m := false) (base := 0) (Env.ok_cons c39_ok Env.ok_nil) G_ok mix 300 6 Try.func11 (by kernel_rfl) rfl (by kernel_rfl) (by kernel_rfl) rfl ?_
  simp [Try.f11]
  simp at hpre
  repeat' (first | omega | refine And.intro ?_ ?_ | intro _)
  all_goals grind
theorem c11_ok : c11.ok Try.prog := mkCon_ok fun ⟨a, b⟩ hpre => c11_pc a b hpre
/-- loop.example/g03007/laws.szDoubt -/
noncomputable def c5 : Con := mkCon 5 false (α := TDoubt × Int) (fun x => (fun (r : TDoubt) (left : Int) => [encTDoubt r, dI left]) x.1 x.2) (fun _ => []) (fun x => (fun (r : TDoubt) (left : Int) => smDM r ∧ 0 ≤ left ∧ left ≤ 1099511627776) x.1 x.2) (fun x => (fun (r : TDoubt) (left : Int) => (dI (szD r left) : D)) x.1 x.2) (fun x => (fun (r : TDoubt) (left : Int) => []) x.1 x.2)
@[simp] theorem c5_f : c5.f = 5 := rfl
@[simp] theorem c5_own : c5.own = false := rfl
theorem c5_inj : ∀ u_ v_ : TDoubt × Int, ((fun x => (fun (r : TDoubt) (left : Int) => [encTDoubt r, dI left]) x.1 x.2) u_).map nz = ((fun x => (fun (r : TDoubt) (left : Int) => [encTDoubt r, dI left]) x.1 x.2) v_).map nz → u_ = v_ := by
  intro u_ v_ h
  obtain ⟨⟨r_Colours, r_Size, r_Places, r_Hours⟩, left⟩ := u_
  obtain ⟨⟨r_Colours', r_Size', r_Places', r_Hours'⟩, left'⟩ := v_
  simp [nz_lit, nz1_lit, nz_agg, nz_sl, nz1_sl, encLI, encTDoubt] at h
  first | (simp [h]; done) | (obtain ⟨⟩ := h; simp_all; done) | simp_all
@[simp] theorem c5_fn (r_Colours : List Int) (r_Size : Int) (r_Places : List Int) (r_Hours : Int) (left : Int) : c5.fn [.agg [.sl false 1 (.lit (.int .i64 0)) (ML dI r_Colours), .lit (.int .i64 r_Size), .sl false 1 (.lit (.int .i64 0)) (ML dI r_Places), .lit (.int .i64 r_Hours)], .lit (.int .i64 left)] [] = some ((fun (r : TDoubt) (left : Int) => smDM r ∧ 0 ≤ left ∧ left ≤ 1099511627776) ⟨r_Colours, r_Size, r_Places, r_Hours⟩ left, (fun (r : TDoubt) (left : Int) => (dI (szD r left) : D)) ⟨r_Colours, r_Size, r_Places, r_Hours⟩ left, (fun (r : TDoubt) (left : Int) => []) ⟨r_Colours, r_Size, r_Places, r_Hours⟩ left) :=
  mkCon_fn (fun x y h _ => c5_inj x y h) ((⟨r_Colours, r_Size, r_Places, r_Hours⟩, left) : TDoubt × Int) (by simp [nz, nz1, ML_nil, encLI, encTDoubt]) rfl
theorem c5_pc (r : TDoubt) (left : Int) (hpre : smDM r ∧ 0 ≤ left ∧ left ≤ 1099511627776) : PCo Try.prog 5 [encTDoubt r, dI left] (Tab.of []) (dI (szD r left)) (Tab.of []) := by
  obtain ⟨r_Colours, r_Size, r_Places, r_Hours⟩ := r
  refine pco_of_run [] (E := ⟨[c19], [], []⟩) (m := false) (base := 0) (Env.ok_cons c19_ok Env.ok_nil) G_ok mix 300 6 Try.func5 (by kernel_rfl) rfl (by kernel_rfl) (by kernel_rfl) rfl ?_
  simp [Try.f5]
  simp at hpre
  repeat' (first | omega | refine And.intro ?_ ?_ | intro _)
  all_goals (simp only [szD]; (repeat' split) <;> omega)
theorem c5_ok : c5.ok Try.prog := mkCon_ok fun ⟨r, left⟩ hpre => c5_pc r left hpre
theorem wfD_len {r : TDoubt} (h : wfTDoubt r) : r.Colours.length ≤ maxLen ∧ r.Places.length ≤ maxLen := ⟨h.1.1, h.2.2.1.1⟩
theorem szD_len {r : TDoubt} {left : Int} (h : 0 ≤ szD r left) : r.Colours.length ≤ left ∧ r.Places.length ≤ left ∧ szD r left ≤ left := by
  simp only [szD] at h ⊢
  split at h
  · omega
  · rename_i h2; rw [if_neg h2]; omega

end Go.Proofs.Ytallgbanohpbbaa
