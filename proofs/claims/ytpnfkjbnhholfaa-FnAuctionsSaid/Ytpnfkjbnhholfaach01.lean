/- Contracts of the functions that the laws run. -/
import Derived.Test.Ytpnfkjbnhholfaach01a
import Derived.Test.YtpnfkjbnhholfaaEngB
namespace Go.Proofs.Ytpnfkjbnhholfaa
open Go Go.Eng
set_option linter.unusedSimpArgs false
set_option linter.unusedVariables false
set_option maxRecDepth 10000
set_option maxHeartbeats 1000000
theorem tmod_cases {n m : Int} (h : 0 < m) : n.tmod m = n % m ∨ (n.tmod m = n % m - m ∧ n % m ≠ 0) := by
  rw [Int.tmod_eq_emod]
  split
  · left; omega
  · rename_i hn
    right
    refine ⟨by omega, fun h0 => hn (.inr (Int.dvd_of_emod_eq_zero h0))⟩
theorem emod_bd (n : Int) {m : Int} (h : 0 < m) : 0 ≤ n % m ∧ n % m < m := ⟨Int.emod_nonneg n (by omega), Int.emod_lt_of_pos n h⟩
theorem mod_spec {n m : Int} (h : 0 < m) : (n.tmod m + m).tmod m = n % m := by
  have h1 := emod_bd n h
  rcases tmod_cases (n := n) h with e | ⟨e, _⟩
  · rw [e, Int.tmod_eq_emod_of_nonneg (by omega)]; simp
  · rw [e, Int.tmod_eq_emod_of_nonneg (by omega)]; simp
theorem tdiv_bd {x b : Int} (hx : 0 ≤ x) (hb : 0 < b) : 0 ≤ x.tdiv b ∧ x.tdiv b ≤ x := by
  rw [Int.tdiv_eq_ediv_of_nonneg hx]
  exact ⟨Int.ediv_nonneg hx (by omega), Int.ediv_le_self _ hx⟩
theorem mIn_iff {x y z : Int} : mIn x y z = true ↔ y ≤ x ∧ x ≤ z := by simp [mIn]
def mCeilDiv (a b : Int) : Int := if mIn a 0 1000000000000 && mIn b 1 1000000000000 then (a + b - 1).tdiv b else 0
def mMod (n m : Int) : Int := if mIn m 1 1000000000000 then n % m else 0
/-- loop.example/g03007/spec.Mod -/
noncomputable def c196 : Con := mkCon 196 false (α := Int × Int) (fun x => (fun (n : Int) (m : Int) => [dI n, dI m]) x.1 x.2) (fun _ => []) (fun x => (fun (n : Int) (m : Int) => True) x.1 x.2) (fun x => (fun (n : Int) (m : Int) => (dI (mMod n m) : D)) x.1 x.2) (fun x => (fun (n : Int) (m : Int) => []) x.1 x.2)
@[simp] theorem c196_f : c196.f = 196 := rfl
@[simp] theorem c196_own : c196.own = false := rfl
theorem c196_inj : ∀ u_ v_ : Int × Int, ((fun x => (fun (n : Int) (m : Int) => [dI n, dI m]) x.1 x.2) u_).map nz = ((fun x => (fun (n : Int) (m : Int) => [dI n, dI m]) x.1 x.2) v_).map nz → u_ = v_ := by
  intro u_ v_ h
  obtain ⟨n, m⟩ := u_
  obtain ⟨n', m'⟩ := v_
  simp [nz_lit, nz1_lit, nz_agg, nz_sl, nz1_sl] at h
  first | (simp [h]; done) | (obtain ⟨⟩ := h; simp_all; done) | simp_all
@[simp] theorem c196_fn (n : Int) (m : Int) : c196.fn [.lit (.int .i64 n), .lit (.int .i64 m)] [] = some ((fun (n : Int) (m : Int) => True) n m, (fun (n : Int) (m : Int) => (dI (mMod n m) : D)) n m, (fun (n : Int) (m : Int) => []) n m) :=
  mkCon_fn (fun x y h _ => c196_inj x y h) ((n, m) : Int × Int) (by simp [nz, nz1, ML_nil]) rfl
theorem c196_pc (n : Int) (m : Int) : PCo Try.prog 196 [dI n, dI m] (Tab.of []) (dI (mMod n m)) (Tab.of []) := by
  refine pco_of_run [] (E := ⟨[c108], [], []⟩) (m := false) (base := 0) (Env.ok_cons c108_ok Env.ok_nil) G_ok mix 300 6 Try.func196 (by kernel_rfl) rfl (by kernel_rfl) (by kernel_rfl) rfl ?_
  simp [Try.f196]
  refine ⟨fun h => by simp [mMod, h], fun h => ?_⟩
  have e : mMod n m = n % m := by simp [mMod, h]
  rw [mIn_iff] at h
  have h1 := emod_bd n (show 0 < m by omega)
  have h2 := mod_spec (n := n) (show 0 < m by omega)
  rcases tmod_cases (n := n) (show 0 < m by omega) with h3 | ⟨h3, _⟩ <;> omega
theorem c196_ok : c196.ok Try.prog := mkCon_ok fun ⟨n, m⟩ hpre => c196_pc n m
/-- loop.example/g03007/impl.Mod -/
noncomputable def c153 : Con := mkCon 153 false (α := Int × Int) (fun x => (fun (n : Int) (m : Int) => [dI n, dI m]) x.1 x.2) (fun _ => []) (fun x => (fun (n : Int) (m : Int) => True) x.1 x.2) (fun x => (fun (n : Int) (m : Int) => (dI (mMod n m) : D)) x.1 x.2) (fun x => (fun (n : Int) (m : Int) => []) x.1 x.2)
@[simp] theorem c153_f : c153.f = 153 := rfl
@[simp] theorem c153_own : c153.own = false := rfl
theorem c153_inj : ∀ u_ v_ : Int × Int, ((fun x => (fun (n : Int) (m : Int) => [dI n, dI m]) x.1 x.2) u_).map nz = ((fun x => (fun (n : Int) (m : Int) => [dI n, dI m]) x.1 x.2) v_).map nz → u_ = v_ := by
  intro u_ v_ h
  obtain ⟨n, m⟩ := u_
  obtain ⟨n', m'⟩ := v_
  simp [nz_lit, nz1_lit, nz_agg, nz_sl, nz1_sl] at h
  first | (simp [h]; done) | (obtain ⟨⟩ := h; simp_all; done) | simp_all
@[simp] theorem c153_fn (n : Int) (m : Int) : c153.fn [.lit (.int .i64 n), .lit (.int .i64 m)] [] = some ((fun (n : Int) (m : Int) => True) n m, (fun (n : Int) (m : Int) => (dI (mMod n m) : D)) n m, (fun (n : Int) (m : Int) => []) n m) :=
  mkCon_fn (fun x y h _ => c153_inj x y h) ((n, m) : Int × Int) (by simp [nz, nz1, ML_nil]) rfl
theorem c153_pc (n : Int) (m : Int) : PCo Try.prog 153 [dI n, dI m] (Tab.of []) (dI (mMod n m)) (Tab.of []) := by
  refine pco_of_run [] (E := ⟨[c84], [], []⟩) (m := false) (base := 0) (Env.ok_cons c84_ok Env.ok_nil) G_ok mix 300 6 Try.func153 (by kernel_rfl) rfl (by kernel_rfl) (by kernel_rfl) rfl ?_
  simp [Try.f153]
  refine ⟨fun h => by simp [mMod, h], fun h => ?_⟩
  have e : mMod n m = n % m := by simp [mMod, h]
  rw [mIn_iff] at h
  have h1 := emod_bd n (show 0 < m by omega)
  rcases tmod_cases (n := n) (show 0 < m by omega) with h3 | ⟨h3, _⟩ <;> omega
theorem c153_ok : c153.ok Try.prog := mkCon_ok fun ⟨n, m⟩ hpre => c153_pc n m
end Go.Proofs.Ytpnfkjbnhholfaa
