/- Contracts of the functions that the laws run. -/
import Derived.Test.YtpnfkjbnhholfaaDoorch01a
import Derived.Test.YtpnfkjbnhholfaaDoorEngB
namespace Go.Proofs.YtpnfkjbnhholfaaDoor
open Go Go.Eng
set_option linter.unusedSimpArgs false
set_option linter.unusedVariables false
set_option maxRecDepth 10000
set_option maxHeartbeats 1000000
theorem tmod_cases {n m : Int} (h : 0 < m) : n.tmod m = n % m ∨ (n.tmod m = n % m - m ∧ n % m ≠ 0) := by
  rw [Int.tmod_eq_emod]
  split
  · left; omega
  · rename_i hn
    right
    refine ⟨by omega, fun h0 => hn (.inr (Int.dvd_of_emod_eq_zero h0))⟩
theorem emod_bd (n : Int) {m : Int} (h : 0 < m) : 0 ≤ n % m ∧ n % m < m := ⟨Int.emod_nonneg n (by omega), Int.emod_lt_of_pos n h⟩
theorem mod_spec {n m : Int} (h : 0 < m) : (n.tmod m + m).tmod m = n % m := by
  have h1 := emod_bd n h
  rcases tmod_cases (n := n) h with e | ⟨e, _⟩
  · rw [e, Int.tmod_eq_emod_of_nonneg (by omega)]; simp
  · rw [e, Int.tmod_eq_emod_of_nonneg (by omega)]; simp
theorem tdiv_bd {x b : Int} (hx : 0 ≤ x) (hb : 0 < b) : 0 ≤ x.tdiv b ∧ x.tdiv b ≤ x := by
  rw [Int.tdiv_eq_ediv_of_nonneg hx]
  exact ⟨Int.ediv_nonneg hx (by omega), Int.ediv_le_self _ hx⟩
theorem mIn_iff {x y z : Int} : mIn x y z = true ↔ y ≤ x ∧ x ≤ z := by simp [mIn]
def mCeilDiv (a b : Int) : Int := if mIn a 0 1000000000000 && mIn b 1 1000000000000 then (a + b - 1).tdiv b else 0
def mMod (n m : Int) : Int := if mIn m 1 1000000000000 then n % m else 0
/-- loop.example/g03007/impl.CeilDiv -/
noncomputable def c30 : Con := mkCon 30 false (α := Int × Int) (fun x => (fun (a : Int) (b : Int) => [dI a, dI b]) x.1 x.2) (fun _ => []) (fun x => (fun (a : Int) (b : Int) => True) x.1 x.2) (fun x => (fun (a : Int) (b : Int) => (dI (mCeilDiv a b) : D)) x.1 x.2) (fun x => (fun (a : Int) (b : Int) => []) x.1 x.2)
@[simp] theorem c30_f : c30.f = 30 := rfl
@[simp] theorem c30_own : c30.own = false := rfl
theorem c30_inj : ∀ u_ v_ : Int × Int, ((fun x => (fun (a : Int) (b : Int) => [dI a, dI b]) x.1 x.2) u_).map nz = ((fun x => (fun (a : Int) (b : Int) => [dI a, dI b]) x.1 x.2) v_).map nz → u_ = v_ := by
  intro u_ v_ h
  obtain ⟨a, b⟩ := u_
  obtain ⟨a', b'⟩ := v_
  simp [nz_lit, nz1_lit, nz_agg, nz_sl, nz1_sl] at h
  first | (simp [h]; done) | (obtain ⟨⟩ := h; simp_all; done) | simp_all
@[simp] theorem c30_fn (a : Int) (b : Int) : c30.fn [.lit (.int .i64 a), .lit (.int .i64 b)] [] = some ((fun (a : Int) (b : Int) => True) a b, (fun (a : Int) (b : Int) => (dI (mCeilDiv a b) : D)) a b, (fun (a : Int) (b : Int) => []) a b) :=
  mkCon_fn (fun x y h _ => c30_inj x y h) ((a, b) : Int × Int) (by simp [nz, nz1, ML_nil]) rfl
theorem c30_pc (a : Int) (b : Int) : PCo Tryd.prog 30 [dI a, dI b] (Tab.of []) (dI (mCeilDiv a b)) (Tab.of []) := by
  refine pco_of_run [] (E := ⟨[c29], [], []⟩) (m := false) (base := 0) (Env.ok_cons c29_ok Env.ok_nil) G_ok mix 300 6 Tryd.func30 (by kernel_rfl) rfl (by kernel_rfl) (by kernel_rfl) rfl ?_
  simp [Tryd.f30]
  refine ⟨fun h => by rcases h with h | h <;> simp [mCeilDiv, h], fun h1 h2 => ?_⟩
  have e : mCeilDiv a b = (a + b - 1).tdiv b := by simp [mCeilDiv, h1, h2]
  rw [mIn_iff] at h1 h2
  have h3 := tdiv_bd (x := a + b - 1) (b := b) (by omega) (by omega)
  omega
theorem c30_ok : c30.ok Tryd.prog := mkCon_ok fun ⟨a, b⟩ hpre => c30_pc a b
end Go.Proofs.YtpnfkjbnhholfaaDoor
