/- Contracts of the functions that the laws run. -/
import Derived.Test.YtdbhfkbfajljpaaEngB
import Derived.Test.YtdbhfkbfajljpaaEngB
import Derived.Test.YtdbhfkbfajljpaaEngB
import Derived.Test.Ytdbhfkbfajljpaach02
import Derived.Test.Ytdbhfkbfajljpaadr0
import Derived.Test.YtdbhfkbfajljpaaEngB
namespace Go.Proofs.Ytdbhfkbfajljpaa
open Go Go.Eng
set_option linter.unusedSimpArgs false
set_option linter.unusedVariables false
set_option maxRecDepth 10000
set_option maxHeartbeats 1000000
theorem bv_nat {a : Int} (h : 0 ≤ a) (h2 : a < 18446744073709551616) : (BitVec.ofInt (IntKind.bits .i64) a).toNat = a.toNat := by
  rw [BitVec.toNat_ofInt]
  have e : IntKind.bits .i64 = 64 := rfl
  rw [e]
  have : a % ((2 ^ 64 : Nat) : Int) = a := Int.emod_eq_of_lt h (by simpa using h2)
  rw [this]
theorem wrap_id {n : Int} (h : -9223372036854775808 ≤ n ∧ n ≤ 9223372036854775807) : IntKind.wrap .i64 n = n := by
  simp [IntKind.wrap, IntKind.signed, IntKind.bits]; omega
theorem and127 {m : Int} (h : 0 ≤ m) (h2 : m < 9223372036854775808) : andK .i64 m 127 = m % 128 := by
  rw [andK_eq, BitVec.toNat_and, bv_nat h (by omega), bv_nat (by omega) (by omega)]
  have e : (127 : Int).toNat = 2 ^ 7 - 1 := rfl
  rw [e, Nat.and_two_pow_sub_one_eq_mod, wrap_id (by omega)]
  omega
theorem or_add {n a : Int} {k : Nat} (hn : 0 ≤ n) (hn2 : n < 2 ^ k) (ha : 0 ≤ a) (hs : a * 2 ^ k + n < 9223372036854775808) : orK .i64 n (a * 2 ^ k) = n + a * 2 ^ k := by
  have hp : (0 : Int) < 2 ^ k := Int.pow_pos (by omega)
  have hak : 0 ≤ a * 2 ^ k := Int.mul_nonneg ha (by omega)
  rw [orK_eq, BitVec.toNat_or, bv_nat hn (by omega), bv_nat hak (by omega)]
  have e : (a * 2 ^ k).toNat = 2 ^ k * a.toNat := by
    have : ((2 ^ k * a.toNat : Nat) : Int) = a * 2 ^ k := by
      push_cast
      rw [Int.toNat_of_nonneg ha, Int.mul_comm]
    omega
  have hlt : n.toNat < 2 ^ k := by
    have : ((2 ^ k : Nat) : Int) = (2 : Int) ^ k := by push_cast; rfl
    omega
  rw [e, Nat.or_comm, ← Nat.two_pow_add_eq_or_of_lt hlt, wrap_id]
  · push_cast
    rw [Int.toNat_of_nonneg ha, Int.toNat_of_nonneg hn, Int.mul_comm, Int.add_comm]
  · push_cast
    rw [Int.toNat_of_nonneg ha, Int.toNat_of_nonneg hn, Int.mul_comm]
    omega

end Go.Proofs.Ytdbhfkbfajljpaa
