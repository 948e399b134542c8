/- Contracts of the functions that the laws run. -/
import Derived.Test.Ytnghehfdclhfdaach01a
import Derived.Test.YtnghehfdclhfdaaEngB
namespace Go.Proofs.Ytnghehfdclhfdaa
open Go Go.Eng
set_option linter.unusedSimpArgs false
set_option linter.unusedVariables false
set_option maxRecDepth 10000
set_option maxHeartbeats 1000000
theorem tmod_cases {n m : Int} (h : 0 < m) : n.tmod m = n % m ∨ (n.tmod m = n % m - m ∧ n % m ≠ 0) := by
  rw [Int.tmod_eq_emod]
  split
  · left; omega
  · rename_i hn
    right
    refine ⟨by omega, fun h0 => hn (.inr (Int.dvd_of_emod_eq_zero h0))⟩
theorem emod_bd (n : Int) {m : Int} (h : 0 < m) : 0 ≤ n % m ∧ n % m < m := ⟨Int.emod_nonneg n (by omega), Int.emod_lt_of_pos n h⟩
theorem mod_spec {n m : Int} (h : 0 < m) : (n.tmod m + m).tmod m = n % m := by
  have h1 := emod_bd n h
  rcases tmod_cases (n := n) h with e | ⟨e, _⟩
  · rw [e, Int.tmod_eq_emod_of_nonneg (by omega)]; simp
  · rw [e, Int.tmod_eq_emod_of_nonneg (by omega)]; simp
theorem tdiv_bd {x b : Int} (hx : 0 ≤ x) (hb : 0 < b) : 0 ≤ x.tdiv b ∧ x.tdiv b ≤ x := by
  rw [Int.tdiv_eq_ediv_of_nonneg hx]
  exact ⟨Int.ediv_nonneg hx (by omega), Int.ediv_le_self _ hx⟩
theorem mIn_iff {x y z : Int} : mIn x y z = true ↔ y ≤ x ∧ x ≤ z := by simp [mIn]
def mCeilDiv (a b : Int) : Int := if mIn a 0 1000000000000 && mIn b 1 1000000000000 then (a + b - 1).tdiv b else 0
def mMod (n m : Int) : Int := if mIn m 1 1000000000000 then n % m else 0
/-- loop.example/g03007/spec.Mod -/
noncomputable def c160 : Con := mkCon 160 false (α := Int × Int) (fun x => (fun (n : Int) (m : Int) => [dI n, dI m]) x.1 x.2) (fun _ => []) (fun x => (fun (n : Int) (m : Int) => True) x.1 x.2) (fun x => (fun (n : Int) (m : Int) => (dI (mMod n m) : D)) x.1 x.2) (fun x => (fun (n : Int) (m : Int) => []) x.1 x.2)
@[simp] theorem c160_f : c160.f = 160 := rfl
@[simp] theorem c160_own : c160.own = false := rfl
theorem c160_inj : ∀ u_ v_ : Int × Int, ((fun x => (fun (n : Int) (m : Int) => [dI n, dI m]) x.1 x.2) u_).map nz = ((fun x => (fun (n : Int) (m : Int) => [dI n, dI m]) x.1 x.2) v_).map nz → u_ = v_ := by
  intro u_ v_ h
  obtain ⟨n, m⟩ := u_
  obtain ⟨n', m'⟩ := v_
  simp [nz_lit, nz1_lit, nz_agg, nz_sl, nz1_sl] at h
  first | (simp [h]; done) | (obtain ⟨⟩ := h; simp_all; done) | simp_all
@[simp] theorem c160_fn (n : Int) (m : Int) : c160.fn [.lit (.int .i64 n), .lit (.int .i64 m)] [] = some ((fun (n : Int) (m : Int) => True) n m, (fun (n : Int) (m : Int) => (dI (mMod n m) : D)) n m, (fun (n : Int) (m : Int) => []) n m) :=
  mkCon_fn (fun x y h _ => c160_inj x y h) ((n, m) : Int × Int) (by simp [nz, nz1, ML_nil]) rfl
theorem c160_pc (n : Int) (m : Int) : PCo Try.prog 160 [dI n, dI m] (Tab.of []) (dI (mMod n m)) (Tab.of []) := by
  refine pco_of_run [] (E := ⟨[c99], [], []⟩) (m := false) (base := 0) (Env.ok_cons c99_ok Env.ok_nil) G_ok mix 300 6 Try.func160 (by kernel_rfl) rfl (by kernel_rfl) (by kernel_rfl) rfl ?_
  simp [Try.f160]
  refine ⟨fun h => by simp [mMod, h], fun h => ?_⟩
  have e : mMod n m = n % m := by simp [mMod, h]
  rw [mIn_iff] at h
  have h1 := emod_bd n (show 0 < m by omega)
  have h2 := mod_spec (n := n) (show 0 < m by omega)
  rcases tmod_cases (n := n) (show 0 < m by omega) with h3 | ⟨h3, _⟩ <;> omega
theorem c160_ok : c160.ok Try.prog := mkCon_ok fun ⟨n, m⟩ hpre => c160_pc n m
/-- loop.example/g03007/impl.Mod -/
noncomputable def c163 : Con := mkCon 163 false (α := Int × Int) (fun x => (fun (n : Int) (m : Int) => [dI n, dI m]) x.1 x.2) (fun _ => []) (fun x => (fun (n : Int) (m : Int) => True) x.1 x.2) (fun x => (fun (n : Int) (m : Int) => (dI (mMod n m) : D)) x.1 x.2) (fun x => (fun (n : Int) (m : Int) => []) x.1 x.2)
@[simp] theorem c163_f : c163.f = 163 := rfl
@[simp] theorem c163_own : c163.own = false := rfl
theorem c163_inj : ∀ u_ v_ : Int × Int, ((fun x => (fun (n : Int) (m : Int) => [dI n, dI m]) x.1 x.2) u_).map nz = ((fun x => (fun (n : Int) (m : Int) => [dI n, dI m]) x.1 x.2) v_).map nz → u_ = v_ := by
  intro u_ v_ h
  obtain ⟨n, m⟩ := u_
  obtain ⟨n', m'⟩ := v_
  simp [nz_lit, nz1_lit, nz_agg, nz_sl, nz1_sl] at h
  first | (simp [h]; done) | (obtain ⟨⟩ := h; simp_all; done) | simp_all
@[simp] theorem c163_fn (n : Int) (m : Int) : c163.fn [.lit (.int .i64 n), .lit (.int .i64 m)] [] = some ((fun (n : Int) (m : Int) => True) n m, (fun (n : Int) (m : Int) => (dI (mMod n m) : D)) n m, (fun (n : Int) (m : Int) => []) n m) :=
  mkCon_fn (fun x y h _ => c163_inj x y h) ((n, m) : Int × Int) (by simp [nz, nz1, ML_nil]) rfl
theorem c163_pc (n : Int) (m : Int) : PCo Try.prog 163 [dI n, dI m] (Tab.of []) (dI (mMod n m)) (Tab.of []) := by
  refine pco_of_run [] (E := ⟨[c102], [], []⟩) (m := false) (base := 0) (Env.ok_cons c102_ok Env.ok_nil) G_ok mix 300 6 Try.func163 (by kernel_rfl) rfl (by kernel_rfl) (by kernel_rfl) rfl ?_
  simp [Try.f163]
  refine ⟨fun h => by simp [mMod, h], fun h => ?_⟩
  have e : mMod n m = n % m := by simp [mMod, h]
  rw [mIn_iff] at h
  have h1 := emod_bd n (show 0 < m by omega)
  rcases tmod_cases (n := n) (show 0 < m by omega) with h3 | ⟨h3, _⟩ <;> omega
theorem c163_ok : c163.ok Try.prog := mkCon_ok fun ⟨n, m⟩ hpre => c163_pc n m
end Go.Proofs.Ytnghehfdclhfdaa
