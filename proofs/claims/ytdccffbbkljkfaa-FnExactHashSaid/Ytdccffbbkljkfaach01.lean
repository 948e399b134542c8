/- Contracts of the functions that the laws run. -/
import Derived.Test.Ytdccffbbkljkfaach01a
namespace Go.Proofs.Ytdccffbbkljkfaa
open Go Go.Eng
set_option linter.unusedSimpArgs false
set_option linter.unusedVariables false
set_option maxRecDepth 10000
theorem tmod_cases {n m : Int} (h : 0 < m) : n.tmod m = n % m ∨ (n.tmod m = n % m - m ∧ n % m ≠ 0) := by
  rw [Int.tmod_eq_emod]
  split
  · left; omega
  · rename_i hn
    right
    refine ⟨by omega, fun h0 => hn (.inr (Int.dvd_of_emod_eq_zero h0))⟩
theorem emod_bd (n : Int) {m : Int} (h : 0 < m) : 0 ≤ n % m ∧ n % m < m := ⟨Int.emod_nonneg n (by omega), Int.emod_lt_of_pos n h⟩
theorem mod_spec {n m : Int} (h : 0 < m) : (n.tmod m + m).tmod m = n % m := by
  have h1 := emod_bd n h
  rcases tmod_cases (n := n) h with e | ⟨e, _⟩
  · rw [e, Int.tmod_eq_emod_of_nonneg (by omega)]; simp
  · rw [e, Int.tmod_eq_emod_of_nonneg (by omega)]; simp
theorem tdiv_bd {x b : Int} (hx : 0 ≤ x) (hb : 0 < b) : 0 ≤ x.tdiv b ∧ x.tdiv b ≤ x := by
  rw [Int.tdiv_eq_ediv_of_nonneg hx]
  exact ⟨Int.ediv_nonneg hx (by omega), Int.ediv_le_self _ hx⟩
theorem mIn_iff {x y z : Int} : mIn x y z = true ↔ y ≤ x ∧ x ≤ z := by simp [mIn]
def mCeilDiv (a b : Int) : Int := if mIn a 0 1000000000000 && mIn b 1 1000000000000 then (a + b - 1).tdiv b else 0
def mMod (n m : Int) : Int := if mIn m 1 1000000000000 then n % m else 0
/-- loop.example/g03007/spec.CeilDiv -/
noncomputable def c41 : Con := mkCon 41 false (α := Int × Int) (fun x => (fun (a : Int) (b : Int) => [dI a, dI b]) x.1 x.2) (fun _ => []) (fun x => (fun (a : Int) (b : Int) => True) x.1 x.2) (fun x => (fun (a : Int) (b : Int) => (dI (mCeilDiv a b) : D)) x.1 x.2) (fun x => (fun (a : Int) (b : Int) => []) x.1 x.2)
@[simp] theorem c41_f : c41.f = 41 := rfl
@[simp] theorem c41_own : c41.own = false := rfl
theorem c41_inj : ∀ u_ v_ : Int × Int, ((fun x => (fun (a : Int) (b : Int) => [dI a, dI b]) x.1 x.2) u_).map nz = ((fun x => (fun (a : Int) (b : Int) => [dI a, dI b]) x.1 x.2) v_).map nz → u_ = v_ := by
  intro u_ v_ h
  obtain ⟨a, b⟩ := u_
  obtain ⟨a', b'⟩ := v_
  simp [nz_lit, nz1_lit, nz_agg, nz_sl, nz1_sl] at h
  first | (simp [h]; done) | (obtain ⟨⟩ := h; simp_all; done) | simp_all
@[simp] theorem c41_fn (a : Int) (b : Int) : c41.fn [.lit (.int .i64 a), .lit (.int .i64 b)] [] = some ((fun (a : Int) (b : Int) => True) a b, (fun (a : Int) (b : Int) => (dI (mCeilDiv a b) : D)) a b, (fun (a : Int) (b : Int) => []) a b) :=
  mkCon_fn (fun x y h _ => c41_inj x y h) ((a, b) : Int × Int) (by simp [nz, nz1, ML_nil]) rfl
theorem c41_pc (a : Int) (b : Int) : PCo Try.prog 41 [dI a, dI b] (Tab.of []) (dI (mCeilDiv a b)) (Tab.of []) := by
  refine pco_of_run [] (E := ⟨[c113], []⟩) (m := false) (base := 0) (Env.ok_cons c113_ok Env.ok_nil) G_ok mix 300 6 Try.func41 (by kernel_rfl) rfl (by kernel_rfl) (by kernel_rfl) rfl ?_
  simp [Try.f41]
  refine ⟨fun h => by rcases h with h | h <;> simp [mCeilDiv, h], fun h1 h2 => ?_⟩
  have e : mCeilDiv a b = (a + b - 1).tdiv b := by simp [mCeilDiv, h1, h2]
  rw [mIn_iff] at h1 h2
  have h3 := tdiv_bd (x := a + b - 1) (b := b) (by omega) (by omega)
  omega
theorem c41_ok : c41.ok Try.prog := mkCon_ok fun ⟨a, b⟩ hpre => c41_pc a b
/-- loop.example/g03007/impl.CeilDiv -/
noncomputable def c42 : Con := mkCon 42 false (α := Int × Int) (fun x => (fun (a : Int) (b : Int) => [dI a, dI b]) x.1 x.2) (fun _ => []) (fun x => (fun (a : Int) (b : Int) => True) x.1 x.2) (fun x => (fun (a : Int) (b : Int) => (dI (mCeilDiv a b) : D)) x.1 x.2) (fun x => (fun (a : Int) (b : Int) => []) x.1 x.2)
@[simp] theorem c42_f : c42.f = 42 := rfl
@[simp] theorem c42_own : c42.own = false := rfl
theorem c42_inj : ∀ u_ v_ : Int × Int, ((fun x => (fun (a : Int) (b : Int) => [dI a, dI b]) x.1 x.2) u_).map nz = ((fun x => (fun (a : Int) (b : Int) => [dI a, dI b]) x.1 x.2) v_).map nz → u_ = v_ := by
  intro u_ v_ h
  obtain ⟨a, b⟩ := u_
  obtain ⟨a', b'⟩ := v_
  simp [nz_lit, nz1_lit, nz_agg, nz_sl, nz1_sl] at h
  first | (simp [h]; done) | (obtain ⟨⟩ := h; simp_all; done) | simp_all
@[simp] theorem c42_fn (a : Int) (b : Int) : c42.fn [.lit (.int .i64 a), .lit (.int .i64 b)] [] = some ((fun (a : Int) (b : Int) => True) a b, (fun (a : Int) (b : Int) => (dI (mCeilDiv a b) : D)) a b, (fun (a : Int) (b : Int) => []) a b) :=
  mkCon_fn (fun x y h _ => c42_inj x y h) ((a, b) : Int × Int) (by simp [nz, nz1, ML_nil]) rfl
theorem c42_pc (a : Int) (b : Int) : PCo Try.prog 42 [dI a, dI b] (Tab.of []) (dI (mCeilDiv a b)) (Tab.of []) := by
  refine pco_of_run [] (E := ⟨[c46], []⟩) (m := false) (base := 0) (Env.ok_cons c46_ok Env.ok_nil) G_ok mix 300 6 Try.func42 (by kernel_rfl) rfl (by kernel_rfl) (by kernel_rfl) rfl ?_
  simp [Try.f42]
  refine ⟨fun h => by rcases h with h | h <;> simp [mCeilDiv, h], fun h1 h2 => ?_⟩
  have e : mCeilDiv a b = (a + b - 1).tdiv b := by simp [mCeilDiv, h1, h2]
  rw [mIn_iff] at h1 h2
  have h3 := tdiv_bd (x := a + b - 1) (b := b) (by omega) (by omega)
  omega
theorem c42_ok : c42.ok Try.prog := mkCon_ok fun ⟨a, b⟩ hpre => c42_pc a b
/-- loop.example/g03007/spec.Mod -/
noncomputable def c43 : Con := mkCon 43 false (α := Int × Int) (fun x => (fun (n : Int) (m : Int) => [dI n, dI m]) x.1 x.2) (fun _ => []) (fun x => (fun (n : Int) (m : Int) => True) x.1 x.2) (fun x => (fun (n : Int) (m : Int) => (dI (mMod n m) : D)) x.1 x.2) (fun x => (fun (n : Int) (m : Int) => []) x.1 x.2)
@[simp] theorem c43_f : c43.f = 43 := rfl
@[simp] theorem c43_own : c43.own = false := rfl
theorem c43_inj : ∀ u_ v_ : Int × Int, ((fun x => (fun (n : Int) (m : Int) => [dI n, dI m]) x.1 x.2) u_).map nz = ((fun x => (fun (n : Int) (m : Int) => [dI n, dI m]) x.1 x.2) v_).map nz → u_ = v_ := by
  intro u_ v_ h
  obtain ⟨n, m⟩ := u_
  obtain ⟨n', m'⟩ := v_
  simp [nz_lit, nz1_lit, nz_agg, nz_sl, nz1_sl] at h
  first | (simp [h]; done) | (obtain ⟨⟩ := h; simp_all; done) | simp_all
@[simp] theorem c43_fn (n : Int) (m : Int) : c43.fn [.lit (.int .i64 n), .lit (.int .i64 m)] [] = some ((fun (n : Int) (m : Int) => True) n m, (fun (n : Int) (m : Int) => (dI (mMod n m) : D)) n m, (fun (n : Int) (m : Int) => []) n m) :=
  mkCon_fn (fun x y h _ => c43_inj x y h) ((n, m) : Int × Int) (by simp [nz, nz1, ML_nil]) rfl
theorem c43_pc (n : Int) (m : Int) : PCo Try.prog 43 [dI n, dI m] (Tab.of []) (dI (mMod n m)) (Tab.of []) := by
  refine pco_of_run [] (E := ⟨[c113], []⟩) (m := false) (base := 0) (Env.ok_cons c113_ok Env.ok_nil) G_ok mix 300 6 Try.func43 (by kernel_rfl) rfl (by kernel_rfl) (by kernel_rfl) rfl ?_
  simp [Try.f43]
  refine ⟨fun h => by simp [mMod, h], fun h => ?_⟩
  have e : mMod n m = n % m := by simp [mMod, h]
  rw [mIn_iff] at h
  have h1 := emod_bd n (show 0 < m by omega)
  have h2 := mod_spec (n := n) (show 0 < m by omega)
  rcases tmod_cases (n := n) (show 0 < m by omega) with h3 | ⟨h3, _⟩ <;> omega
theorem c43_ok : c43.ok Try.prog := mkCon_ok fun ⟨n, m⟩ hpre => c43_pc n m
/-- loop.example/g03007/impl.Mod -/
noncomputable def c44 : Con := mkCon 44 false (α := Int × Int) (fun x => (fun (n : Int) (m : Int) => [dI n, dI m]) x.1 x.2) (fun _ => []) (fun x => (fun (n : Int) (m : Int) => True) x.1 x.2) (fun x => (fun (n : Int) (m : Int) => (dI (mMod n m) : D)) x.1 x.2) (fun x => (fun (n : Int) (m : Int) => []) x.1 x.2)
@[simp] theorem c44_f : c44.f = 44 := rfl
@[simp] theorem c44_own : c44.own = false := rfl
theorem c44_inj : ∀ u_ v_ : Int × Int, ((fun x => (fun (n : Int) (m : Int) => [dI n, dI m]) x.1 x.2) u_).map nz = ((fun x => (fun (n : Int) (m : Int) => [dI n, dI m]) x.1 x.2) v_).map nz → u_ = v_ := by
  intro u_ v_ h
  obtain ⟨n, m⟩ := u_
  obtain ⟨n', m'⟩ := v_
  simp [nz_lit, nz1_lit, nz_agg, nz_sl, nz1_sl] at h
  first | (simp [h]; done) | (obtain ⟨⟩ := h; simp_all; done) | simp_all
@[simp] theorem c44_fn (n : Int) (m : Int) : c44.fn [.lit (.int .i64 n), .lit (.int .i64 m)] [] = some ((fun (n : Int) (m : Int) => True) n m, (fun (n : Int) (m : Int) => (dI (mMod n m) : D)) n m, (fun (n : Int) (m : Int) => []) n m) :=
  mkCon_fn (fun x y h _ => c44_inj x y h) ((n, m) : Int × Int) (by simp [nz, nz1, ML_nil]) rfl
theorem c44_pc (n : Int) (m : Int) : PCo Try.prog 44 [dI n, dI m] (Tab.of []) (dI (mMod n m)) (Tab.of []) := by
  refine pco_of_run [] (E := ⟨[c46], []⟩) (m := false) (base := 0) (Env.ok_cons c46_ok Env.ok_nil) G_ok mix 300 6 Try.func44 (by kernel_rfl) rfl (by kernel_rfl) (by kernel_rfl) rfl ?_
  simp [Try.f44]
  refine ⟨fun h => by simp [mMod, h], fun h => ?_⟩
  have e : mMod n m = n % m := by simp [mMod, h]
  rw [mIn_iff] at h
  have h1 := emod_bd n (show 0 < m by omega)
  rcases tmod_cases (n := n) (show 0 < m by omega) with h3 | ⟨h3, _⟩ <;> omega
theorem c44_ok : c44.ok Try.prog := mkCon_ok fun ⟨n, m⟩ hpre => c44_pc n m
/-- loop.example/g03007/spec.InRange -/
noncomputable def c45 : Con := mkCon 45 false (α := Int × Int × Int) (fun x => (fun (x : Int) (y : Int) (z : Int) => [dI x, dI y, dI z]) x.1 x.2.1 x.2.2) (fun _ => []) (fun x => (fun (x : Int) (y : Int) (z : Int) => True) x.1 x.2.1 x.2.2) (fun x => (fun (x : Int) (y : Int) (z : Int) => (dB (mIn x y z) : D)) x.1 x.2.1 x.2.2) (fun x => (fun (x : Int) (y : Int) (z : Int) => []) x.1 x.2.1 x.2.2)
@[simp] theorem c45_f : c45.f = 45 := rfl
@[simp] theorem c45_own : c45.own = false := rfl
theorem c45_inj : ∀ u_ v_ : Int × Int × Int, ((fun x => (fun (x : Int) (y : Int) (z : Int) => [dI x, dI y, dI z]) x.1 x.2.1 x.2.2) u_).map nz = ((fun x => (fun (x : Int) (y : Int) (z : Int) => [dI x, dI y, dI z]) x.1 x.2.1 x.2.2) v_).map nz → u_ = v_ := by
  intro u_ v_ h
  obtain ⟨x, y, z⟩ := u_
  obtain ⟨x', y', z'⟩ := v_
  simp [nz_lit, nz1_lit, nz_agg, nz_sl, nz1_sl] at h
  first | (simp [h]; done) | (obtain ⟨⟩ := h; simp_all; done) | simp_all
@[simp] theorem c45_fn (x : Int) (y : Int) (z : Int) : c45.fn [.lit (.int .i64 x), .lit (.int .i64 y), .lit (.int .i64 z)] [] = some ((fun (x : Int) (y : Int) (z : Int) => True) x y z, (fun (x : Int) (y : Int) (z : Int) => (dB (mIn x y z) : D)) x y z, (fun (x : Int) (y : Int) (z : Int) => []) x y z) :=
  mkCon_fn (fun x y h _ => c45_inj x y h) ((x, y, z) : Int × Int × Int) (by simp [nz, nz1, ML_nil]) rfl
theorem c45_pc (x : Int) (y : Int) (z : Int) : PCo Try.prog 45 [dI x, dI y, dI z] (Tab.of []) (dB (mIn x y z)) (Tab.of []) := by
  refine pco_of_run [] (E := ⟨[], []⟩) (m := false) (base := 0) Env.ok_nil G_ok mix 300 6 Try.func45 (by kernel_rfl) rfl (by kernel_rfl) (by kernel_rfl) rfl ?_
  simp [Try.f45]
  simp [mIn]
theorem c45_ok : c45.ok Try.prog := mkCon_ok fun ⟨x, y, z⟩ hpre => c45_pc x y z
/-- loop.example/g03007/laws.FnExactMin -/
theorem law4 (a : Int) (wa : inR .i64 a) (b : Int) (wb : inR .i64 b) : PCo Try.prog 4 [dI a, dI b] (Tab.of []) (dB true) (Tab.of []) := by
  refine pco_of_run [] (E := ⟨[c37, c38], []⟩) (m := false) (base := 0) (Env.ok_cons c37_ok (Env.ok_cons c38_ok Env.ok_nil)) G_ok mix 400 6 Try.func4 (by kernel_rfl) rfl (by kernel_rfl) (by kernel_rfl) rfl ?_
  simp [Try.f4]
  all_goals first | omega | grind
theorem law4_pc (D0 : D) (h0 : Sh G 9 3 D0) (D1 : D) (h1 : Sh G 9 3 D1) : PC Try.prog 4 [D0, D1] (dB true) [] := by
  obtain ⟨a, rfl, wa⟩ := sh3 (n := 8) h0
  obtain ⟨b, rfl, wb⟩ := sh3 (n := 8) h1
  exact law4 a wa b wb
/-- loop.example/g03007/laws.FnExactMax -/
theorem law5 (a : Int) (wa : inR .i64 a) (b : Int) (wb : inR .i64 b) : PCo Try.prog 5 [dI a, dI b] (Tab.of []) (dB true) (Tab.of []) := by
  refine pco_of_run [] (E := ⟨[c39, c40], []⟩) (m := false) (base := 0) (Env.ok_cons c39_ok (Env.ok_cons c40_ok Env.ok_nil)) G_ok mix 400 6 Try.func5 (by kernel_rfl) rfl (by kernel_rfl) (by kernel_rfl) rfl ?_
  simp [Try.f5]
  all_goals first | omega | grind
theorem law5_pc (D0 : D) (h0 : Sh G 9 3 D0) (D1 : D) (h1 : Sh G 9 3 D1) : PC Try.prog 5 [D0, D1] (dB true) [] := by
  obtain ⟨a, rfl, wa⟩ := sh3 (n := 8) h0
  obtain ⟨b, rfl, wb⟩ := sh3 (n := 8) h1
  exact law5 a wa b wb
/-- loop.example/g03007/laws.FnExactCeilDiv -/
theorem law6 (a : Int) (wa : inR .i64 a) (b : Int) (wb : inR .i64 b) : PCo Try.prog 6 [dI a, dI b] (Tab.of []) (dB true) (Tab.of []) := by
  refine pco_of_run [] (E := ⟨[c41, c42], []⟩) (m := false) (base := 0) (Env.ok_cons c41_ok (Env.ok_cons c42_ok Env.ok_nil)) G_ok mix 400 6 Try.func6 (by kernel_rfl) rfl (by kernel_rfl) (by kernel_rfl) rfl ?_
  simp [Try.f6]
  all_goals first | omega | grind
theorem law6_pc (D0 : D) (h0 : Sh G 9 3 D0) (D1 : D) (h1 : Sh G 9 3 D1) : PC Try.prog 6 [D0, D1] (dB true) [] := by
  obtain ⟨a, rfl, wa⟩ := sh3 (n := 8) h0
  obtain ⟨b, rfl, wb⟩ := sh3 (n := 8) h1
  exact law6 a wa b wb
/-- loop.example/g03007/laws.FnExactMod -/
theorem law7 (a : Int) (wa : inR .i64 a) (b : Int) (wb : inR .i64 b) : PCo Try.prog 7 [dI a, dI b] (Tab.of []) (dB true) (Tab.of []) := by
  refine pco_of_run [] (E := ⟨[c43, c44], []⟩) (m := false) (base := 0) (Env.ok_cons c43_ok (Env.ok_cons c44_ok Env.ok_nil)) G_ok mix 400 6 Try.func7 (by kernel_rfl) rfl (by kernel_rfl) (by kernel_rfl) rfl ?_
  simp [Try.f7]
  all_goals first | omega | grind
theorem law7_pc (D0 : D) (h0 : Sh G 9 3 D0) (D1 : D) (h1 : Sh G 9 3 D1) : PC Try.prog 7 [D0, D1] (dB true) [] := by
  obtain ⟨a, rfl, wa⟩ := sh3 (n := 8) h0
  obtain ⟨b, rfl, wb⟩ := sh3 (n := 8) h1
  exact law7 a wa b wb
/-- loop.example/g03007/laws.FnExactInRange -/
theorem law8 (a : Int) (wa : inR .i64 a) (b : Int) (wb : inR .i64 b) (c : Int) (wc : inR .i64 c) : PCo Try.prog 8 [dI a, dI b, dI c] (Tab.of []) (dB true) (Tab.of []) := by
  refine pco_of_run [] (E := ⟨[c45, c46], []⟩) (m := false) (base := 0) (Env.ok_cons c45_ok (Env.ok_cons c46_ok Env.ok_nil)) G_ok mix 400 6 Try.func8 (by kernel_rfl) rfl (by kernel_rfl) (by kernel_rfl) rfl ?_
  simp [Try.f8]
  all_goals first | omega | grind
theorem law8_pc (D0 : D) (h0 : Sh G 9 3 D0) (D1 : D) (h1 : Sh G 9 3 D1) (D2 : D) (h2 : Sh G 9 3 D2) : PC Try.prog 8 [D0, D1, D2] (dB true) [] := by
  obtain ⟨a, rfl, wa⟩ := sh3 (n := 8) h0
  obtain ⟨b, rfl, wb⟩ := sh3 (n := 8) h1
  obtain ⟨c, rfl, wc⟩ := sh3 (n := 8) h2
  exact law8 a wa b wb c wc

end Go.Proofs.Ytdccffbbkljkfaa
