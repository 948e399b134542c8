/- Contracts of the functions that the laws run. -/
import Derived.Test.YtobofamoagbacaaDoorch01a
import Derived.Test.YtobofamoagbacaaDoorEngB
namespace Go.Proofs.YtobofamoagbacaaDoor
open Go Go.Eng
set_option linter.unusedSimpArgs false
set_option linter.unusedVariables false
set_option maxRecDepth 10000
set_option maxHeartbeats 1000000
theorem tmod_cases {n m : Int} (h : 0 < m) : n.tmod m = n % m ∨ (n.tmod m = n % m - m ∧ n % m ≠ 0) := by
  rw [Int.tmod_eq_emod]
  split
  · left; omega
  · rename_i hn
    right
    refine ⟨by omega, fun h0 => hn (.inr (Int.dvd_of_emod_eq_zero h0))⟩
theorem emod_bd (n : Int) {m : Int} (h : 0 < m) : 0 ≤ n % m ∧ n % m < m := ⟨Int.emod_nonneg n (by omega), Int.emod_lt_of_pos n h⟩
theorem mod_spec {n m : Int} (h : 0 < m) : (n.tmod m + m).tmod m = n % m := by
  have h1 := emod_bd n h
  rcases tmod_cases (n := n) h with e | ⟨e, _⟩
  · rw [e, Int.tmod_eq_emod_of_nonneg (by omega)]; simp
  · rw [e, Int.tmod_eq_emod_of_nonneg (by omega)]; simp
theorem tdiv_bd {x b : Int} (hx : 0 ≤ x) (hb : 0 < b) : 0 ≤ x.tdiv b ∧ x.tdiv b ≤ x := by
  rw [Int.tdiv_eq_ediv_of_nonneg hx]
  exact ⟨Int.ediv_nonneg hx (by omega), Int.ediv_le_self _ hx⟩
theorem mIn_iff {x y z : Int} : mIn x y z = true ↔ y ≤ x ∧ x ≤ z := by simp [mIn]
def mCeilDiv (a b : Int) : Int := if mIn a 0 1000000000000 && mIn b 1 1000000000000 then (a + b - 1).tdiv b else 0
def mMod (n m : Int) : Int := if mIn m 1 1000000000000 then n % m else 0
/-- loop.example/g03007/spec.CeilDiv -/
noncomputable def c72 : Con := mkCon 72 false (α := Int × Int) (fun x => (fun (a : Int) (b : Int) => [dI a, dI b]) x.1 x.2) (fun _ => []) (fun x => (fun (a : Int) (b : Int) => True) x.1 x.2) (fun x => (fun (a : Int) (b : Int) => (dI (mCeilDiv a b) : D)) x.1 x.2) (fun x => (fun (a : Int) (b : Int) => []) x.1 x.2)
@[simp] theorem c72_f : c72.f = 72 := rfl
@[simp] theorem c72_own : c72.own = false := rfl
theorem c72_inj : ∀ u_ v_ : Int × Int, ((fun x => (fun (a : Int) (b : Int) => [dI a, dI b]) x.1 x.2) u_).map nz = ((fun x => (fun (a : Int) (b : Int) => [dI a, dI b]) x.1 x.2) v_).map nz → u_ = v_ := by
  intro u_ v_ h
  obtain ⟨a, b⟩ := u_
  obtain ⟨a', b'⟩ := v_
  simp [nz_lit, nz1_lit, nz_agg, nz_sl, nz1_sl] at h
  first | (simp [h]; done) | (obtain ⟨⟩ := h; simp_all; done) | simp_all
@[simp] theorem c72_fn (a : Int) (b : Int) : c72.fn [.lit (.int .i64 a), .lit (.int .i64 b)] [] = some ((fun (a : Int) (b : Int) => True) a b, (fun (a : Int) (b : Int) => (dI (mCeilDiv a b) : D)) a b, (fun (a : Int) (b : Int) => []) a b) :=
  mkCon_fn (fun x y h _ => c72_inj x y h) ((a, b) : Int × Int) (by simp [nz, nz1, ML_nil]) rfl
theorem c72_pc (a : Int) (b : Int) : PCo Tryd.prog 72 [dI a, dI b] (Tab.of []) (dI (mCeilDiv a b)) (Tab.of []) := by
  refine pco_of_run [] (E := ⟨[c64], []⟩) (m := false) (base := 0) (Env.ok_cons c64_ok Env.ok_nil) G_ok mix 300 6 Tryd.func72 (by kernel_rfl) rfl (by kernel_rfl) (by kernel_rfl) rfl ?_
  simp [Tryd.f72]
  refine ⟨fun h => by rcases h with h | h <;> simp [mCeilDiv, h], fun h1 h2 => ?_⟩
  have e : mCeilDiv a b = (a + b - 1).tdiv b := by simp [mCeilDiv, h1, h2]
  rw [mIn_iff] at h1 h2
  have h3 := tdiv_bd (x := a + b - 1) (b := b) (by omega) (by omega)
  omega
theorem c72_ok : c72.ok Tryd.prog := mkCon_ok fun ⟨a, b⟩ hpre => c72_pc a b
/-- loop.example/g03007/impl.CeilDiv -/
noncomputable def c73 : Con := mkCon 73 false (α := Int × Int) (fun x => (fun (a : Int) (b : Int) => [dI a, dI b]) x.1 x.2) (fun _ => []) (fun x => (fun (a : Int) (b : Int) => True) x.1 x.2) (fun x => (fun (a : Int) (b : Int) => (dI (mCeilDiv a b) : D)) x.1 x.2) (fun x => (fun (a : Int) (b : Int) => []) x.1 x.2)
@[simp] theorem c73_f : c73.f = 73 := rfl
@[simp] theorem c73_own : c73.own = false := rfl
theorem c73_inj : ∀ u_ v_ : Int × Int, ((fun x => (fun (a : Int) (b : Int) => [dI a, dI b]) x.1 x.2) u_).map nz = ((fun x => (fun (a : Int) (b : Int) => [dI a, dI b]) x.1 x.2) v_).map nz → u_ = v_ := by
  intro u_ v_ h
  obtain ⟨a, b⟩ := u_
  obtain ⟨a', b'⟩ := v_
  simp [nz_lit, nz1_lit, nz_agg, nz_sl, nz1_sl] at h
  first | (simp [h]; done) | (obtain ⟨⟩ := h; simp_all; done) | simp_all
@[simp] theorem c73_fn (a : Int) (b : Int) : c73.fn [.lit (.int .i64 a), .lit (.int .i64 b)] [] = some ((fun (a : Int) (b : Int) => True) a b, (fun (a : Int) (b : Int) => (dI (mCeilDiv a b) : D)) a b, (fun (a : Int) (b : Int) => []) a b) :=
  mkCon_fn (fun x y h _ => c73_inj x y h) ((a, b) : Int × Int) (by simp [nz, nz1, ML_nil]) rfl
theorem c73_pc (a : Int) (b : Int) : PCo Tryd.prog 73 [dI a, dI b] (Tab.of []) (dI (mCeilDiv a b)) (Tab.of []) := by
  refine pco_of_run [] (E := ⟨[c65], []⟩) (m := false) (base := 0) (Env.ok_cons c65_ok Env.ok_nil) G_ok mix 300 6 Tryd.func73 (by kernel_rfl) rfl (by kernel_rfl) (by kernel_rfl) rfl ?_
  simp [Tryd.f73]
  refine ⟨fun h => by rcases h with h | h <;> simp [mCeilDiv, h], fun h1 h2 => ?_⟩
  have e : mCeilDiv a b = (a + b - 1).tdiv b := by simp [mCeilDiv, h1, h2]
  rw [mIn_iff] at h1 h2
  have h3 := tdiv_bd (x := a + b - 1) (b := b) (by omega) (by omega)
  omega
theorem c73_ok : c73.ok Tryd.prog := mkCon_ok fun ⟨a, b⟩ hpre => c73_pc a b
/-- loop.example/g03007/spec.Mod -/
noncomputable def c125 : Con := mkCon 125 false (α := Int × Int) (fun x => (fun (n : Int) (m : Int) => [dI n, dI m]) x.1 x.2) (fun _ => []) (fun x => (fun (n : Int) (m : Int) => True) x.1 x.2) (fun x => (fun (n : Int) (m : Int) => (dI (mMod n m) : D)) x.1 x.2) (fun x => (fun (n : Int) (m : Int) => []) x.1 x.2)
@[simp] theorem c125_f : c125.f = 125 := rfl
@[simp] theorem c125_own : c125.own = false := rfl
theorem c125_inj : ∀ u_ v_ : Int × Int, ((fun x => (fun (n : Int) (m : Int) => [dI n, dI m]) x.1 x.2) u_).map nz = ((fun x => (fun (n : Int) (m : Int) => [dI n, dI m]) x.1 x.2) v_).map nz → u_ = v_ := by
  intro u_ v_ h
  obtain ⟨n, m⟩ := u_
  obtain ⟨n', m'⟩ := v_
  simp [nz_lit, nz1_lit, nz_agg, nz_sl, nz1_sl] at h
  first | (simp [h]; done) | (obtain ⟨⟩ := h; simp_all; done) | simp_all
@[simp] theorem c125_fn (n : Int) (m : Int) : c125.fn [.lit (.int .i64 n), .lit (.int .i64 m)] [] = some ((fun (n : Int) (m : Int) => True) n m, (fun (n : Int) (m : Int) => (dI (mMod n m) : D)) n m, (fun (n : Int) (m : Int) => []) n m) :=
  mkCon_fn (fun x y h _ => c125_inj x y h) ((n, m) : Int × Int) (by simp [nz, nz1, ML_nil]) rfl
theorem c125_pc (n : Int) (m : Int) : PCo Tryd.prog 125 [dI n, dI m] (Tab.of []) (dI (mMod n m)) (Tab.of []) := by
  refine pco_of_run [] (E := ⟨[c64], []⟩) (m := false) (base := 0) (Env.ok_cons c64_ok Env.ok_nil) G_ok mix 300 6 Tryd.func125 (by kernel_rfl) rfl (by kernel_rfl) (by kernel_rfl) rfl ?_
  simp [Tryd.f125]
  refine ⟨fun h => by simp [mMod, h], fun h => ?_⟩
  have e : mMod n m = n % m := by simp [mMod, h]
  rw [mIn_iff] at h
  have h1 := emod_bd n (show 0 < m by omega)
  have h2 := mod_spec (n := n) (show 0 < m by omega)
  rcases tmod_cases (n := n) (show 0 < m by omega) with h3 | ⟨h3, _⟩ <;> omega
theorem c125_ok : c125.ok Tryd.prog := mkCon_ok fun ⟨n, m⟩ hpre => c125_pc n m
/-- loop.example/g03007/impl.Mod -/
noncomputable def c135 : Con := mkCon 135 false (α := Int × Int) (fun x => (fun (n : Int) (m : Int) => [dI n, dI m]) x.1 x.2) (fun _ => []) (fun x => (fun (n : Int) (m : Int) => True) x.1 x.2) (fun x => (fun (n : Int) (m : Int) => (dI (mMod n m) : D)) x.1 x.2) (fun x => (fun (n : Int) (m : Int) => []) x.1 x.2)
@[simp] theorem c135_f : c135.f = 135 := rfl
@[simp] theorem c135_own : c135.own = false := rfl
theorem c135_inj : ∀ u_ v_ : Int × Int, ((fun x => (fun (n : Int) (m : Int) => [dI n, dI m]) x.1 x.2) u_).map nz = ((fun x => (fun (n : Int) (m : Int) => [dI n, dI m]) x.1 x.2) v_).map nz → u_ = v_ := by
  intro u_ v_ h
  obtain ⟨n, m⟩ := u_
  obtain ⟨n', m'⟩ := v_
  simp [nz_lit, nz1_lit, nz_agg, nz_sl, nz1_sl] at h
  first | (simp [h]; done) | (obtain ⟨⟩ := h; simp_all; done) | simp_all
@[simp] theorem c135_fn (n : Int) (m : Int) : c135.fn [.lit (.int .i64 n), .lit (.int .i64 m)] [] = some ((fun (n : Int) (m : Int) => True) n m, (fun (n : Int) (m : Int) => (dI (mMod n m) : D)) n m, (fun (n : Int) (m : Int) => []) n m) :=
  mkCon_fn (fun x y h _ => c135_inj x y h) ((n, m) : Int × Int) (by simp [nz, nz1, ML_nil]) rfl
theorem c135_pc (n : Int) (m : Int) : PCo Tryd.prog 135 [dI n, dI m] (Tab.of []) (dI (mMod n m)) (Tab.of []) := by
  refine pco_of_run [] (E := ⟨[c65], []⟩) (m := false) (base := 0) (Env.ok_cons c65_ok Env.ok_nil) G_ok mix 300 6 Tryd.func135 (by kernel_rfl) rfl (by kernel_rfl) (by kernel_rfl) rfl ?_
  simp [Tryd.f135]
  refine ⟨fun h => by simp [mMod, h], fun h => ?_⟩
  have e : mMod n m = n % m := by simp [mMod, h]
  rw [mIn_iff] at h
  have h1 := emod_bd n (show 0 < m by omega)
  rcases tmod_cases (n := n) (show 0 < m by omega) with h3 | ⟨h3, _⟩ <;> omega
theorem c135_ok : c135.ok Tryd.prog := mkCon_ok fun ⟨n, m⟩ hpre => c135_pc n m
end Go.Proofs.YtobofamoagbacaaDoor
