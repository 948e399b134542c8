/- Contracts of the functions that the laws run. -/
import Derived.Test.YtbpcabaaniiggaaDoorhelpA
import Derived.Test.YtbpcabaaniiggaaDoorEngB
namespace Go.Proofs.YtbpcabaaniiggaaDoor
open Go Go.Eng
set_option linter.unusedSimpArgs false
set_option linter.unusedVariables false
set_option maxRecDepth 10000
set_option maxHeartbeats 1000000
def mEqB (a b : List Int) : Bool := a.map (fun n => UInt8.ofNat n.toNat) == b.map (fun n => UInt8.ofNat n.toNat)
def kindNames : List ByteArray := [⟨#[]⟩, ⟨#[98, 97, 103]⟩, ⟨#[99, 111, 97, 116]⟩, ⟨#[107, 101, 121, 115]⟩, ⟨#[109, 111, 110, 101, 121]⟩, ⟨#[112, 104, 111, 110, 101]⟩, ⟨#[117, 109, 98, 114, 101, 108, 108, 97]⟩, ⟨#[102, 111, 111, 100]⟩, ⟨#[111, 116, 104, 101, 114]⟩]
def mTextAt (i : Int) (l : List ByteArray) : ByteArray := if mIn i 0 (l.length - 1) then l[i.toNat]?.getD ⟨#[]⟩ else ⟨#[]⟩
/-- loop.example/g03007/impl.textAt -/
noncomputable def c100 : Con := mkCon 100 false (α := Int × (List ByteArray)) (fun x => (fun (i : Int) (l : List ByteArray) => [dI i, encLS l]) x.1 x.2) (fun _ => []) (fun x => (fun (i : Int) (l : List ByteArray) => l.length ≤ 1099511627776) x.1 x.2) (fun x => (fun (i : Int) (l : List ByteArray) => (dS (mTextAt i l) : D)) x.1 x.2) (fun x => (fun (i : Int) (l : List ByteArray) => []) x.1 x.2)
@[simp] theorem c100_f : c100.f = 100 := rfl
@[simp] theorem c100_own : c100.own = false := rfl
theorem c100_inj : ∀ u_ v_ : Int × (List ByteArray), ((fun x => (fun (i : Int) (l : List ByteArray) => [dI i, encLS l]) x.1 x.2) u_).map nz = ((fun x => (fun (i : Int) (l : List ByteArray) => [dI i, encLS l]) x.1 x.2) v_).map nz → u_ = v_ := by
  intro u_ v_ h
  obtain ⟨i, l⟩ := u_
  obtain ⟨i', l'⟩ := v_
  simp [nz_lit, nz1_lit, nz_agg, nz_sl, nz1_sl, encLS] at h
  first | (simp [h]; done) | (obtain ⟨⟩ := h; simp_all; done) | simp_all
@[simp] theorem c100_fn (i : Int) (l : List ByteArray) : c100.fn [.lit (.int .i64 i), .sl false 1 (.lit (.string ⟨#[]⟩)) (ML dS l)] [] = some ((fun (i : Int) (l : List ByteArray) => l.length ≤ 1099511627776) i l, (fun (i : Int) (l : List ByteArray) => (dS (mTextAt i l) : D)) i l, (fun (i : Int) (l : List ByteArray) => []) i l) :=
  mkCon_fn (fun x y h _ => c100_inj x y h) ((i, l) : Int × (List ByteArray)) (by simp [nz, nz1, ML_nil, encLS]) rfl
@[simp] theorem c100_fn1 (i : Int) (s_l : Nat) (z_l : D) : c100.fn [.lit (.int .i64 i), .sl false s_l z_l []] [] = some ((fun (i : Int) (l : List ByteArray) => l.length ≤ 1099511627776) i [], (fun (i : Int) (l : List ByteArray) => (dS (mTextAt i l) : D)) i [], (fun (i : Int) (l : List ByteArray) => []) i []) :=
  mkCon_fn (fun x y h _ => c100_inj x y h) ((i, []) : Int × (List ByteArray)) (by simp [nz, nz1, ML_nil, encLS]) rfl
theorem c100_pc (i : Int) (l : List ByteArray) (hpre : l.length ≤ 1099511627776) : PCo Tryd.prog 100 [dI i, encLS l] (Tab.of []) (dS (mTextAt i l)) (Tab.of []) := by
  refine pco_of_run [] (E := ⟨[c75], []⟩) (m := false) (base := 0) (Env.ok_cons c75_ok Env.ok_nil) G_ok mix 300 6 Tryd.func100 (by kernel_rfl) rfl (by kernel_rfl) (by kernel_rfl) rfl ?_
  simp [Tryd.f100]
  refine ⟨by omega, fun h => by simp [mTextAt, h], fun h => ?_⟩
  have h2 := mIn_iff.1 h
  exact ⟨by omega, by simp [mTextAt, h]⟩
theorem c100_ok : c100.ok Tryd.prog := mkCon_ok fun ⟨i, l⟩ hpre => c100_pc i l hpre
def mKind (i : Int) : ByteArray := mTextAt i kindNames
@[simp] theorem c100_kind (i : Int) : c100.fn [.lit (.int .i64 i), .sl false 1 (.lit (.string ⟨#[]⟩)) [.lit (.string ⟨#[]⟩), .lit (.string ⟨#[98, 97, 103]⟩), .lit (.string ⟨#[99, 111, 97, 116]⟩), .lit (.string ⟨#[107, 101, 121, 115]⟩), .lit (.string ⟨#[109, 111, 110, 101, 121]⟩), .lit (.string ⟨#[112, 104, 111, 110, 101]⟩), .lit (.string ⟨#[117, 109, 98, 114, 101, 108, 108, 97]⟩), .lit (.string ⟨#[102, 111, 111, 100]⟩), .lit (.string ⟨#[111, 116, 104, 101, 114]⟩)]] [] = some (True, dS (mKind i), []) :=
  (c100_fn i kindNames).trans (by simp [mKind, kindNames])
/-- loop.example/g03007/impl.KindText -/
noncomputable def c65 : Con := mkCon 65 false (α := Int) (fun x => (fun (i : Int) => [dI i]) x) (fun _ => []) (fun x => (fun (i : Int) => True) x) (fun x => (fun (i : Int) => (dS (mKind i) : D)) x) (fun x => (fun (i : Int) => []) x)
@[simp] theorem c65_f : c65.f = 65 := rfl
@[simp] theorem c65_own : c65.own = false := rfl
theorem c65_inj : ∀ u_ v_ : Int, ((fun x => (fun (i : Int) => [dI i]) x) u_).map nz = ((fun x => (fun (i : Int) => [dI i]) x) v_).map nz → u_ = v_ := by
  intro u_ v_ h
  obtain i := u_
  obtain i' := v_
  simp [nz_lit, nz1_lit, nz_agg, nz_sl, nz1_sl] at h
  first | (simp [h]; done) | (obtain ⟨⟩ := h; simp_all; done) | simp_all
@[simp] theorem c65_fn (i : Int) : c65.fn [.lit (.int .i64 i)] [] = some ((fun (i : Int) => True) i, (fun (i : Int) => (dS (mKind i) : D)) i, (fun (i : Int) => []) i) :=
  mkCon_fn (fun x y h _ => c65_inj x y h) (i : Int) (by simp [nz, nz1, ML_nil]) rfl
theorem c65_pc (i : Int) : PCo Tryd.prog 65 [dI i] (Tab.of []) (dS (mKind i)) (Tab.of []) := by
  refine pco_of_run [] (E := ⟨[c100], []⟩) (m := false) (base := 0) (Env.ok_cons c100_ok Env.ok_nil) G_ok mix 300 6 Tryd.func65 (by kernel_rfl) rfl (by kernel_rfl) (by kernel_rfl) rfl ?_
  simp [Tryd.f65]
  all_goals first | omega | (rw [Bool.eq_iff_iff]; simp; omega) | grind
theorem c65_ok : c65.ok Tryd.prog := mkCon_ok fun i hpre => c65_pc i
/-- loop.example/g03007/spec.KindText -/
noncomputable def c56 : Con := mkCon 56 false (α := Int) (fun x => (fun (i : Int) => [dI i]) x) (fun _ => []) (fun x => (fun (i : Int) => True) x) (fun x => (fun (i : Int) => (dS (mKind i) : D)) x) (fun x => (fun (i : Int) => []) x)
@[simp] theorem c56_f : c56.f = 56 := rfl
@[simp] theorem c56_own : c56.own = false := rfl
theorem c56_inj : ∀ u_ v_ : Int, ((fun x => (fun (i : Int) => [dI i]) x) u_).map nz = ((fun x => (fun (i : Int) => [dI i]) x) v_).map nz → u_ = v_ := by
  intro u_ v_ h
  obtain i := u_
  obtain i' := v_
  simp [nz_lit, nz1_lit, nz_agg, nz_sl, nz1_sl] at h
  first | (simp [h]; done) | (obtain ⟨⟩ := h; simp_all; done) | simp_all
@[simp] theorem c56_fn (i : Int) : c56.fn [.lit (.int .i64 i)] [] = some ((fun (i : Int) => True) i, (fun (i : Int) => (dS (mKind i) : D)) i, (fun (i : Int) => []) i) :=
  mkCon_fn (fun x y h _ => c56_inj x y h) (i : Int) (by simp [nz, nz1, ML_nil]) rfl
theorem c56_pc (i : Int) : PCo Tryd.prog 56 [dI i] (Tab.of []) (dS (mKind i)) (Tab.of []) := by
  refine pco_of_run [] (E := ⟨[c74], []⟩) (m := false) (base := 0) (Env.ok_cons c74_ok Env.ok_nil) G_ok mix 300 6 Tryd.func56 (by kernel_rfl) rfl (by kernel_rfl) (by kernel_rfl) rfl ?_
  by_cases h : mIn i 1 8 = true
  · have h2 := mIn_iff.1 h
    obtain rfl | rfl | rfl | rfl | rfl | rfl | rfl | rfl : i = 1 ∨ i = 2 ∨ i = 3 ∨ i = 4 ∨ i = 5 ∨ i = 6 ∨ i = 7 ∨ i = 8 := by omega
    all_goals simp [Tryd.f56, mKind, mTextAt, kindNames, mIn]
  · simp only [Bool.not_eq_true] at h
    simp [Tryd.f56, h]
    by_cases h0 : i = 0
    · subst h0; rfl
    · have : mIn i 0 8 = false := by
        rw [← Bool.not_eq_true, mIn_iff] at h ⊢; omega
      simp [mKind, mTextAt, kindNames, this]
theorem c56_ok : c56.ok Tryd.prog := mkCon_ok fun i hpre => c56_pc i
def colourNames : List ByteArray := [⟨#[98, 108, 97, 99, 107]⟩, ⟨#[119, 104, 105, 116, 101]⟩, ⟨#[114, 101, 100]⟩, ⟨#[103, 114, 101, 101, 110]⟩, ⟨#[98, 108, 117, 101]⟩, ⟨#[121, 101, 108, 108, 111, 119]⟩, ⟨#[98, 114, 111, 119, 110]⟩, ⟨#[103, 114, 101, 121]⟩]
def mColour (i : Int) : ByteArray := mTextAt i colourNames
@[simp] theorem c100_colour (i : Int) : c100.fn [.lit (.int .i64 i), .sl false 1 (.lit (.string ⟨#[]⟩)) [.lit (.string ⟨#[98, 108, 97, 99, 107]⟩), .lit (.string ⟨#[119, 104, 105, 116, 101]⟩), .lit (.string ⟨#[114, 101, 100]⟩), .lit (.string ⟨#[103, 114, 101, 101, 110]⟩), .lit (.string ⟨#[98, 108, 117, 101]⟩), .lit (.string ⟨#[121, 101, 108, 108, 111, 119]⟩), .lit (.string ⟨#[98, 114, 111, 119, 110]⟩), .lit (.string ⟨#[103, 114, 101, 121]⟩)]] [] = some (True, dS (mColour i), []) :=
  (c100_fn i colourNames).trans (by simp [mColour, colourNames])
/-- loop.example/g03007/impl.ColourText -/
noncomputable def c92 : Con := mkCon 92 false (α := Int) (fun x => (fun (i : Int) => [dI i]) x) (fun _ => []) (fun x => (fun (i : Int) => True) x) (fun x => (fun (i : Int) => (dS (mColour i) : D)) x) (fun x => (fun (i : Int) => []) x)
@[simp] theorem c92_f : c92.f = 92 := rfl
@[simp] theorem c92_own : c92.own = false := rfl
theorem c92_inj : ∀ u_ v_ : Int, ((fun x => (fun (i : Int) => [dI i]) x) u_).map nz = ((fun x => (fun (i : Int) => [dI i]) x) v_).map nz → u_ = v_ := by
  intro u_ v_ h
  obtain i := u_
  obtain i' := v_
  simp [nz_lit, nz1_lit, nz_agg, nz_sl, nz1_sl] at h
  first | (simp [h]; done) | (obtain ⟨⟩ := h; simp_all; done) | simp_all
@[simp] theorem c92_fn (i : Int) : c92.fn [.lit (.int .i64 i)] [] = some ((fun (i : Int) => True) i, (fun (i : Int) => (dS (mColour i) : D)) i, (fun (i : Int) => []) i) :=
  mkCon_fn (fun x y h _ => c92_inj x y h) (i : Int) (by simp [nz, nz1, ML_nil]) rfl
theorem c92_pc (i : Int) : PCo Tryd.prog 92 [dI i] (Tab.of []) (dS (mColour i)) (Tab.of []) := by
  refine pco_of_run [] (E := ⟨[c100], []⟩) (m := false) (base := 0) (Env.ok_cons c100_ok Env.ok_nil) G_ok mix 300 6 Tryd.func92 (by kernel_rfl) rfl (by kernel_rfl) (by kernel_rfl) rfl ?_
  simp [Tryd.f92]
  all_goals first | omega | (rw [Bool.eq_iff_iff]; simp; omega) | grind
theorem c92_ok : c92.ok Tryd.prog := mkCon_ok fun i hpre => c92_pc i
/-- loop.example/g03007/spec.ColourText -/
noncomputable def c55 : Con := mkCon 55 false (α := Int) (fun x => (fun (i : Int) => [dI i]) x) (fun _ => []) (fun x => (fun (i : Int) => True) x) (fun x => (fun (i : Int) => (dS (mColour i) : D)) x) (fun x => (fun (i : Int) => []) x)
@[simp] theorem c55_f : c55.f = 55 := rfl
@[simp] theorem c55_own : c55.own = false := rfl
theorem c55_inj : ∀ u_ v_ : Int, ((fun x => (fun (i : Int) => [dI i]) x) u_).map nz = ((fun x => (fun (i : Int) => [dI i]) x) v_).map nz → u_ = v_ := by
  intro u_ v_ h
  obtain i := u_
  obtain i' := v_
  simp [nz_lit, nz1_lit, nz_agg, nz_sl, nz1_sl] at h
  first | (simp [h]; done) | (obtain ⟨⟩ := h; simp_all; done) | simp_all
@[simp] theorem c55_fn (i : Int) : c55.fn [.lit (.int .i64 i)] [] = some ((fun (i : Int) => True) i, (fun (i : Int) => (dS (mColour i) : D)) i, (fun (i : Int) => []) i) :=
  mkCon_fn (fun x y h _ => c55_inj x y h) (i : Int) (by simp [nz, nz1, ML_nil]) rfl
theorem c55_pc (i : Int) : PCo Tryd.prog 55 [dI i] (Tab.of []) (dS (mColour i)) (Tab.of []) := by
  refine pco_of_run [] (E := ⟨[c74], []⟩) (m := false) (base := 0) (Env.ok_cons c74_ok Env.ok_nil) G_ok mix 300 6 Tryd.func55 (by kernel_rfl) rfl (by kernel_rfl) (by kernel_rfl) rfl ?_
  by_cases h : mIn i 0 7 = true
  · have h2 := mIn_iff.1 h
    obtain rfl | rfl | rfl | rfl | rfl | rfl | rfl | rfl : i = 0 ∨ i = 1 ∨ i = 2 ∨ i = 3 ∨ i = 4 ∨ i = 5 ∨ i = 6 ∨ i = 7 := by omega
    all_goals simp [Tryd.f55, mColour, mTextAt, colourNames, mIn]
  · simp only [Bool.not_eq_true] at h
    simp [Tryd.f55, h]
    simp [mColour, mTextAt, colourNames, h]
theorem c55_ok : c55.ok Tryd.prog := mkCon_ok fun i hpre => c55_pc i
end Go.Proofs.YtbpcabaaniiggaaDoor
