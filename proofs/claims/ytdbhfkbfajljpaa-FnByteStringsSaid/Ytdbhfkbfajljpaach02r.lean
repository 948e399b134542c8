/- Contracts of the functions that the laws run. -/
import Derived.Test.Ytdbhfkbfajljpaach02
import Derived.Test.YtdbhfkbfajljpaaEngB
namespace Go.Proofs.Ytdbhfkbfajljpaa
open Go Go.Eng
set_option linter.unusedSimpArgs false
set_option linter.unusedVariables false
set_option maxRecDepth 10000
set_option maxHeartbeats 1000000
theorem and0 : ∀ n : Fin 256, 0 ≤ (IntKind.i64.wrap (BitVec.ofInt IntKind.i64.bits ((n.val : Nat) : Int) &&& BitVec.ofInt IntKind.i64.bits 127).toNat) ∧ (IntKind.i64.wrap (BitVec.ofInt IntKind.i64.bits ((n.val : Nat) : Int) &&& BitVec.ofInt IntKind.i64.bits 127).toNat) ≤ 127 := by decide +kernel
theorem and_bd {x : Int} (h : 0 ≤ x ∧ x ≤ 255) : 0 ≤ andK .i64 x 127 ∧ andK .i64 x 127 ≤ 127 := by
  have := and0 ⟨x.toNat, by omega⟩
  simp only [Int.toNat_of_nonneg h.1] at this
  rw [andK_eq]; exact this
theorem shl_eq {a : Int} {k : Nat} (h : 0 ≤ a ∧ a ≤ 127) (hk : k < 6) : shlK .i64 a (7 * (k : Int)) = a * 2 ^ (7 * k) := by
  have e : min (7 * (k : Int)).toNat IntKind.i64.bits = 7 * k := by
    have : IntKind.i64.bits = 64 := rfl
    omega
  rw [shlK_eq, e]
  refine wrap_inR ?_
  have h2 : (2 : Int) ^ (7 * k) ≤ 2 ^ 35 := by
    have : 7 * k ≤ 35 := by omega
    exact_mod_cast Nat.pow_le_pow_right (by omega : 0 < 2) this
  have h1 : (0 : Int) < 2 ^ (7 * k) := Int.pow_pos (by omega)
  have h3 : 0 ≤ a * 2 ^ (7 * k) := Int.mul_nonneg h.1 (by omega)
  have h4 : a * 2 ^ (7 * k) ≤ 127 * 2 ^ 35 := Int.mul_le_mul h.2 h2 (by omega) (by omega)
  have h5 : (127 : Int) * 2 ^ 35 ≤ 9223372036854775807 := by decide
  exact ⟨by omega, by omega⟩
theorem or_bd {n y : Int} {e : Nat} (he : e ≤ 42) (hn : 0 ≤ n ∧ n < 2 ^ e) (hy : 0 ≤ y ∧ y < 2 ^ e) : 0 ≤ orK .i64 n y ∧ orK .i64 n y < 2 ^ e := by
  have hb : IntKind.i64.bits = 64 := rfl
  have h42 : (2 : Int) ^ e ≤ 2 ^ 42 := by exact_mod_cast Nat.pow_le_pow_right (by omega : 0 < 2) he
  have hc : (2 : Int) ^ 42 = 4398046511104 := by decide
  have t : ∀ x : Int, 0 ≤ x → x < 2 ^ e → (BitVec.ofInt IntKind.i64.bits x).toNat = x.toNat ∧ x.toNat < 2 ^ e := by
    intro x h0 h1
    constructor
    · rw [BitVec.toNat_ofInt, hb]
      have h64 : ((2 ^ 64 : Nat) : Int) = 18446744073709551616 := by decide
      have h65 : x % ((2 ^ 64 : Nat) : Int) = x := Int.emod_eq_of_lt h0 (by rw [h64]; omega)
      rw [h65]
    · have : ((2 ^ e : Nat) : Int) = 2 ^ e := by push_cast; rfl
      omega
  have h1 := t n hn.1 hn.2
  have h2 := t y hy.1 hy.2
  have h3 := Nat.or_lt_two_pow h1.2 h2.2
  rw [orK_eq, BitVec.toNat_or, h1.1, h2.1]
  have h4 : (((n.toNat ||| y.toNat : Nat) : Int)) < 2 ^ e := by exact_mod_cast h3
  rw [wrap_inR (show inR .i64 ((n.toNat ||| y.toNat : Nat) : Int) from ⟨by omega, by omega⟩)]
  omega
theorem step_bd {n x : Int} {k : Nat} (hk : k < 6) (hn : 0 ≤ n ∧ n < 2 ^ (7 * k)) (hx : 0 ≤ x ∧ x ≤ 255) : 0 ≤ stepU n x k ∧ stepU n x k < 2 ^ (7 * (k + 1)) := by
  have ha := and_bd hx
  have hp : (0 : Int) < 2 ^ (7 * k) := Int.pow_pos (by omega)
  have e : (2 : Int) ^ (7 * (k + 1)) = 128 * 2 ^ (7 * k) := by rw [Nat.mul_add, Int.pow_add, Int.mul_comm]; rfl
  rw [stepU, shl_eq ha hk]
  refine or_bd (by omega) ⟨hn.1, by omega⟩ ⟨Int.mul_nonneg ha.1 (by omega), ?_⟩
  have : andK .i64 x 127 * 2 ^ (7 * k) ≤ 127 * 2 ^ (7 * k) := Int.mul_le_mul_of_nonneg_right ha.2 (by omega)
  omega
theorem rdU_bd {b : List Int} {at_ : Int} (hb : ∀ x ∈ b, 0 ≤ x ∧ x ≤ 255) (hat : 0 ≤ at_) : ∀ (f k : Nat) (n m nx : Int), f + k = 6 → 0 ≤ n ∧ n < 2 ^ (7 * k) → rdU b at_ f k n = some (m, nx) → 0 ≤ m ∧ m ≤ 1000000000000 ∧ at_ < nx ∧ nx ≤ b.length
  | 0, _, _, _, _, _, _, h => by simp [rdU] at h
  | f + 1, k, n, m, nx, hf, hn, h => by
    simp only [rdU] at h
    split at h
    · cases h
    · rename_i hlt
      have hx := hb _ (getD_mem (d := 0) (show (at_ + (k : Int)).toNat < b.length by omega))
      have hs := step_bd (n := n) (by omega : k < 6) hn hx
      split at h
      · split at h
        · cases h
        · rename_i hne
          simp only [Option.some.injEq, Prod.mk.injEq] at h
          obtain ⟨rfl, rfl⟩ := h
          have : ¬ 1000000000000 < stepU n (b[(at_ + (k : Int)).toNat]?.getD 0) k := fun h2 => hne (.inr h2)
          omega
      · exact rdU_bd hb hat f (k + 1) _ m nx (by omega) hs h
theorem mRead_bd {b : List Int} {at_ m nx : Int} (hb : ∀ x ∈ b, 0 ≤ x ∧ x ≤ 255) (h : mRead b at_ = some (m, nx)) : 0 ≤ m ∧ m ≤ 1000000000000 ∧ 0 ≤ at_ ∧ at_ < nx ∧ nx ≤ b.length := by
  simp only [mRead] at h
  split at h
  · cases h
  · have := rdU_bd hb (by omega) 6 0 0 m nx rfl (by simp) h
    omega
noncomputable def mRB (b : List Int) (at_ most : Int) : Option (List Int × Int) := match mRead b at_ with
  | none => none
  | some (n, next) => if most < n ∨ b.length - next < n then none else some ((b.drop next.toNat).take n.toNat, next + n)
theorem mRB_none {b : List Int} {at_ most : Int} (h : mRead b at_ = none) : mRB b at_ most = none := by rw [mRB, h]
theorem mRB_some {b : List Int} {at_ most n next : Int} (h : mRead b at_ = some (n, next)) : mRB b at_ most = if most < n ∨ b.length - next < n then none else some ((b.drop next.toNat).take n.toNat, next + n) := by rw [mRB, h]
/-- loop.example/g03007/impl.ReadBytes -/
noncomputable def c15 : Con := mkCon 15 false (α := (List Int) × Int × Int) (fun x => (fun (b : List Int) (at_ : Int) (most : Int) => [encLU b, dI at_, dI most]) x.1 x.2.1 x.2.2) (fun _ => []) (fun x => (fun (b : List Int) (at_ : Int) (most : Int) => b.length ≤ 1073741823 ∧ ∀ x ∈ b, 0 ≤ x ∧ x ≤ 255) x.1 x.2.1 x.2.2) (fun x => (fun (b : List Int) (at_ : Int) (most : Int) => (.tup [.own (0, 1) 1 0 ((mRB b at_ most).getD ([], 0)).1.length, dI ((mRB b at_ most).getD ([], 0)).2, dB (mRB b at_ most).isSome] : D)) x.1 x.2.1 x.2.2) (fun x => (fun (b : List Int) (at_ : Int) (most : Int) => [((0, 1), .arr false 1 (dU 0) (ML dU ((mRB b at_ most).getD ([], 0)).1))]) x.1 x.2.1 x.2.2)
@[simp] theorem c15_f : c15.f = 15 := rfl
@[simp] theorem c15_own : c15.own = false := rfl
theorem c15_inj : ∀ u_ v_ : (List Int) × Int × Int, ((fun x => (fun (b : List Int) (at_ : Int) (most : Int) => [encLU b, dI at_, dI most]) x.1 x.2.1 x.2.2) u_).map nz = ((fun x => (fun (b : List Int) (at_ : Int) (most : Int) => [encLU b, dI at_, dI most]) x.1 x.2.1 x.2.2) v_).map nz → u_ = v_ := by
  intro u_ v_ h
  obtain ⟨b, at_, most⟩ := u_
  obtain ⟨b', at_', most'⟩ := v_
  simp [nz_lit, nz1_lit, nz_agg, nz_sl, nz1_sl, encLU] at h
  first | (simp [h]; done) | (obtain ⟨⟩ := h; simp_all; done) | simp_all
@[simp] theorem c15_fn (b : List Int) (at_ : Int) (most : Int) : c15.fn [.sl false 1 (.lit (.int .u8 0)) (ML dU b), .lit (.int .i64 at_), .lit (.int .i64 most)] [] = some ((fun (b : List Int) (at_ : Int) (most : Int) => b.length ≤ 1073741823 ∧ ∀ x ∈ b, 0 ≤ x ∧ x ≤ 255) b at_ most, (fun (b : List Int) (at_ : Int) (most : Int) => (.tup [.own (0, 1) 1 0 ((mRB b at_ most).getD ([], 0)).1.length, dI ((mRB b at_ most).getD ([], 0)).2, dB (mRB b at_ most).isSome] : D)) b at_ most, (fun (b : List Int) (at_ : Int) (most : Int) => [((0, 1), .arr false 1 (dU 0) (ML dU ((mRB b at_ most).getD ([], 0)).1))]) b at_ most) :=
  mkCon_fn (fun x y h _ => c15_inj x y h) ((b, at_, most) : (List Int) × Int × Int) (by simp [nz, nz1, ML_nil, encLU]) rfl
@[simp] theorem c15_fn1 (s_b : Nat) (z_b : D) (at_ : Int) (most : Int) : c15.fn [.sl false s_b z_b [], .lit (.int .i64 at_), .lit (.int .i64 most)] [] = some ((fun (b : List Int) (at_ : Int) (most : Int) => b.length ≤ 1073741823 ∧ ∀ x ∈ b, 0 ≤ x ∧ x ≤ 255) [] at_ most, (fun (b : List Int) (at_ : Int) (most : Int) => (.tup [.own (0, 1) 1 0 ((mRB b at_ most).getD ([], 0)).1.length, dI ((mRB b at_ most).getD ([], 0)).2, dB (mRB b at_ most).isSome] : D)) [] at_ most, (fun (b : List Int) (at_ : Int) (most : Int) => [((0, 1), .arr false 1 (dU 0) (ML dU ((mRB b at_ most).getD ([], 0)).1))]) [] at_ most) :=
  mkCon_fn (fun x y h _ => c15_inj x y h) (([], at_, most) : (List Int) × Int × Int) (by simp [nz, nz1, ML_nil, encLU]) rfl
theorem c15_pc (b : List Int) (at_ : Int) (most : Int) (hpre : b.length ≤ 1073741823 ∧ ∀ x ∈ b, 0 ≤ x ∧ x ≤ 255) : PCo Try.prog 15 [encLU b, dI at_, dI most] (Tab.of []) (.tup [.own (0, 1) 1 0 ((mRB b at_ most).getD ([], 0)).1.length, dI ((mRB b at_ most).getD ([], 0)).2, dB (mRB b at_ most).isSome]) (Tab.of [((0, 1), .arr false 1 (dU 0) (ML dU ((mRB b at_ most).getD ([], 0)).1))]) := by
  refine pco_of_run [] (E := ⟨[c9, c35], [], []⟩) (m := false) (base := 0) (Env.ok_cons c9_ok (Env.ok_cons c35_ok Env.ok_nil)) G_ok mix 300 6 Try.func15 (by kernel_rfl) rfl (by kernel_rfl) (by kernel_rfl) rfl ?_
  obtain ⟨hp, hx⟩ := hpre
  cases h : mRead b at_ with
  | none =>
    have hm := mRB_none (most := most) h
    simp [Try.f15, h, hm]
    exact ⟨by omega, hx⟩
  | some r =>
    obtain ⟨n, next⟩ := r
    have hm := mRB_some (most := most) h
    have hb := mRead_bd hx h
    by_cases hc : most < n ∨ b.length - next < n
    · rw [if_pos hc] at hm
      simp [Try.f15, h, hm]
      repeat' (first | exact hx | omega | refine And.intro ?_ ?_ | intro _)
    · rw [if_neg hc] at hm
      have e : (next + n).toNat - next.toNat = n.toNat := by omega
      simp [Try.f15, h, hm, e]
      repeat' (first | exact hx | omega | refine And.intro ?_ ?_ | intro _)
      all_goals trace_state
theorem c15_ok : c15.ok Try.prog := mkCon_ok fun ⟨b, at_, most⟩ hpre => c15_pc b at_ most hpre

end Go.Proofs.Ytdbhfkbfajljpaa
