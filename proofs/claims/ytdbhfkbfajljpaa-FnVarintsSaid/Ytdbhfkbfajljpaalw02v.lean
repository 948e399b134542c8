/- Contracts of the functions that the laws run. -/
import Derived.Test.YtdbhfkbfajljpaaEngB
import Derived.Test.YtdbhfkbfajljpaaEngB
import Derived.Test.YtdbhfkbfajljpaaEngB
import Derived.Test.Ytdbhfkbfajljpaalw02m
import Derived.Test.Ytdbhfkbfajljpaadr2
import Derived.Test.YtdbhfkbfajljpaaEngB
namespace Go.Proofs.Ytdbhfkbfajljpaa
open Go Go.Eng
set_option linter.unusedSimpArgs false
set_option linter.unusedVariables false
set_option maxRecDepth 10000
set_option maxHeartbeats 1000000
theorem hiB_eq {m : Int} (h : 0 ≤ m) (h2 : m < 9223372036854775808) : hiB m = m % 128 + 128 := by
  rw [hiB, and127 h h2]
  have := or_add (n := m % 128) (a := 1) (k := 7) (by omega) (by omega) (by omega) (by omega)
  rw [show (1 : Int) * 2 ^ 7 = 128 by rfl] at this
  rw [this]
  simp [IntKind.wrap, IntKind.signed, IntKind.bits]; omega
theorem u8_id {m : Int} (h : 0 ≤ m) (h2 : m ≤ 255) : IntKind.wrap .u8 m = m := by
  simp [IntKind.wrap, IntKind.signed, IntKind.bits]; omega
theorem step_eq {n x : Int} {k : Nat} (hn : 0 ≤ n) (hn2 : n < 2 ^ (7 * k)) (hx : 0 ≤ x) (hx2 : x ≤ 255) (hk : k ≤ 6) (hs : x % 128 * 2 ^ (7 * k) + n < 9223372036854775808) : stepU n x k = n + x % 128 * 2 ^ (7 * k) := by
  rw [stepU, and127 hx (by omega), shlK_eq]
  have e : min ((7 * (k : Int)).toNat) (IntKind.bits .i64) = 7 * k := by
    have : IntKind.bits .i64 = 64 := rfl
    rw [this]; omega
  have hp : (0 : Int) < 2 ^ (7 * k) := Int.pow_pos (by omega)
  have h0 : 0 ≤ x % 128 * 2 ^ (7 * k) := Int.mul_nonneg (by omega) (by omega)
  rw [e, wrap_id (by omega)]
  exact or_add hn hn2 (by omega) hs
theorem pow_succ7 (k : Nat) : (2 : Int) ^ (7 * (k + 1)) = 128 * 2 ^ (7 * k) := by
  rw [show 7 * (k + 1) = 7 * k + 7 by omega, Int.pow_add, Int.mul_comm]; rfl
theorem pow_le {k : Nat} (hk : k ≤ 6) : (1 : Int) ≤ 2 ^ (7 * k) ∧ (2 : Int) ^ (7 * k) ≤ 4398046511104 := by
  obtain rfl | rfl | rfl | rfl | rfl | rfl | rfl : k = 0 ∨ k = 1 ∨ k = 2 ∨ k = 3 ∨ k = 4 ∨ k = 5 ∨ k = 6 := by omega
  all_goals decide
theorem drop_get {b : List Int} {P : Nat} {x : Int} {r : List Int} (h : b.drop P = x :: r) : b[P]?.getD 0 = x ∧ P < b.length ∧ b.drop (P + 1) = r := by
  have h1 : P < b.length := by
    rcases Nat.lt_or_ge P b.length with h2 | h2
    · exact h2
    · rw [List.drop_eq_nil_of_le h2] at h; cases h
  have h2 := drop_at (d := 0) h1
  rw [h] at h2
  injection h2 with a b
  exact ⟨a.symm, h1, b.symm⟩
theorem mod_le_mul {m T : Int} (hm : 0 ≤ m) (hT : 0 ≤ T) : m % 128 * T ≤ m * T := Int.mul_le_mul_of_nonneg_right (by omega) hT
theorem rd_last {b : List Int} {at_ : Int} {m n : Int} {k f : Nat} {R : List Int} (h0 : 0 ≤ at_) (hd : b.drop (at_ + k).toNat = m :: R) (hm : 0 ≤ m) (hm2 : m < 128) (hn : 0 ≤ n) (hn2 : n < 2 ^ (7 * k)) (hs : n + m * 2 ^ (7 * k) ≤ 1000000000000) (hz : m = 0 → k = 0) (hk : k ≤ 6) :
    rdU b at_ (f + 1) k n = some (n + m * 2 ^ (7 * k), at_ + k + 1) := by
  obtain ⟨e1, e2, _⟩ := drop_get hd
  have hp := pow_le hk
  have hml := mod_le_mul (T := 2 ^ (7 * k)) hm (by omega)
  have hst := step_eq (x := m) hn hn2 hm (by omega) hk (by omega)
  have hmm : m % 128 = m := by omega
  rw [hmm] at hst
  rw [rdU, if_neg (by omega), e1, if_pos hm2, hst, if_neg]
  rintro (⟨a, c⟩ | a)
  · exact c (hz a)
  · omega
/-- what is encoded is decoded -/
theorem rd_uv (b : List Int) (at_ : Int) (R : List Int) (h0 : 0 ≤ at_) : ∀ (f : Nat) (m n : Int) (k f' : Nat), b.drop (at_ + k).toNat = uv f m ++ R → 0 ≤ m → m < 128 ^ (f + 1) → 0 ≤ n → n < 2 ^ (7 * k) → n + m * 2 ^ (7 * k) ≤ 1000000000000 → (m = 0 → k = 0) → f + 1 ≤ f' → k + f' ≤ 6 →
    rdU b at_ f' k n = some (n + m * 2 ^ (7 * k), at_ + k + (uv f m).length) := by
  intro f
  induction f with
  | zero =>
    intro m n k f' hd hm hm2 hn hn2 hs hz hf hk
    obtain ⟨f', rfl⟩ : ∃ g, f' = g + 1 := ⟨f' - 1, by omega⟩
    have hm3 : m < 128 := by simpa using hm2
    have hu : uv 0 m = [m] := by rw [uv, u8_id hm (by omega)]
    rw [hu] at hd ⊢
    exact rd_last h0 hd hm hm3 hn hn2 hs hz (by omega)
  | succ f ih =>
    intro m n k f' hd hm hm2 hn hn2 hs hz hf hk
    obtain ⟨f', rfl⟩ : ∃ g, f' = g + 1 := ⟨f' - 1, by omega⟩
    by_cases h7 : 127 < m
    · have hp := pow_le (k := k) (by omega)
      have hml := mod_le_mul (T := 2 ^ (7 * k)) hm (by omega)
      have hmT : m * 1 ≤ m * 2 ^ (7 * k) := Int.mul_le_mul_of_nonneg_left (by omega) hm
      have hfd : m.fdiv 128 = m / 128 := Int.fdiv_eq_ediv_of_nonneg _ (by omega)
      have hu : uv (f + 1) m = (m % 128 + 128) :: uv f (m / 128) := by rw [uv, if_pos h7, hiB_eq hm (by omega), hfd]
      rw [hu] at hd ⊢
      obtain ⟨e1, e2, e3⟩ := drop_get hd
      have hx : (m % 128 + 128) % 128 = m % 128 := by omega
      have hst := step_eq (x := m % 128 + 128) hn hn2 (by omega) (by omega) (by omega) (by rw [hx]; omega)
      rw [hx] at hst
      have hp7 := pow_succ7 k
      have hr0 : 0 ≤ m % 128 * 2 ^ (7 * k) := Int.mul_nonneg (by omega) (by omega)
      have hr1 : m % 128 * 2 ^ (7 * k) ≤ 127 * 2 ^ (7 * k) := Int.mul_le_mul_of_nonneg_right (by omega) (by omega)
      have hsum : n + m % 128 * 2 ^ (7 * k) + m / 128 * 2 ^ (7 * (k + 1)) = n + m * 2 ^ (7 * k) := by
        rw [hp7]
        have e := Int.emod_add_mul_ediv m 128
        generalize (2 : Int) ^ (7 * k) = T at *
        generalize m % 128 = r at *
        generalize m / 128 = q at *
        subst e
        grind
      have hpos : (at_ + ((k + 1 : Nat) : Int)).toNat = (at_ + k).toNat + 1 := by omega
      have hm' : m / 128 < 128 ^ (f + 1) := by
        have h1 := fdiv_bd (f := f) hm hm2
        rw [hfd] at h1; exact h1.2
      have := ih (m / 128) (n + m % 128 * 2 ^ (7 * k)) (k + 1) f' (by rw [hpos]; exact e3) (by omega) hm' (by omega) (by rw [hp7]; omega) (by rw [hsum]; exact hs) (by omega) (by omega) (by omega)
      rw [rdU, if_neg (by omega), e1, if_neg (by omega), hst, this, hsum]
      simp only [List.length_cons]
      push_cast
      congr 2
      omega
    · have hu : uv (f + 1) m = [m] := by rw [uv, if_neg h7, u8_id hm (by omega)]
      rw [hu] at hd ⊢
      exact rd_last h0 hd hm (by omega) hn hn2 hs hz (by omega)
/-- what is decoded was encoded -/
theorem uv_rd (b : List Int) (at_ : Int) (h0 : 0 ≤ at_) (hb : okBy b) : ∀ (f k : Nat) (n v e : Int), k + f ≤ 6 → 0 ≤ n → n < 2 ^ (7 * k) → rdU b at_ f k n = some (v, e) →
    v ≤ 1000000000000 ∧ at_ + k < e ∧ e ≤ b.length ∧ ∃ m, 0 ≤ m ∧ v = n + m * 2 ^ (7 * k) ∧ (¬ k = 0 → ¬ m = 0) ∧ (b.drop (at_ + k).toNat).take (e - (at_ + k)).toNat = uv (f - 1) m := by
  intro f
  induction f with
  | zero => intro k n v e _ _ _ h; simp [rdU] at h
  | succ f ih =>
    intro k n v e hk hn hn2 h
    rw [rdU] at h
    by_cases h1 : (b.length : Int) ≤ at_ + k
    · rw [if_pos h1] at h; cases h
    · rw [if_neg h1] at h
      have hlt : (at_ + k).toNat < b.length := by omega
      have hx := hb _ (getD_mem (d := 0) hlt)
      have hdr := drop_at (d := 0) hlt
      generalize b[(at_ + k).toNat]?.getD 0 = x at *
      have hp := pow_le (k := k) (by omega)
      have hp7 := pow_succ7 k
      have hml := mod_le_mul (m := x) (T := 2 ^ (7 * k)) (by omega) (by omega)
      have hr0 : 0 ≤ x % 128 * 2 ^ (7 * k) := Int.mul_nonneg (by omega) (by omega)
      have hr1 : x % 128 * 2 ^ (7 * k) ≤ 127 * 2 ^ (7 * k) := Int.mul_le_mul_of_nonneg_right (by omega) (by omega)
      have hst := step_eq (x := x) hn hn2 hx.1 hx.2 (by omega) (by omega)
      by_cases h2 : x < 128
      · rw [if_pos h2] at h
        have hmm : x % 128 = x := by omega
        rw [hmm] at hst hr0
        split at h
        · cases h
        · rename_i hno
          rw [hst] at h hno
          simp only [Option.some.injEq, Prod.mk.injEq] at h
          obtain ⟨rfl, rfl⟩ := h
          rw [not_or] at hno
          refine ⟨by omega, by omega, by omega, x, by omega, rfl, fun hk0 hx0 => hno.1 ⟨hx0, hk0⟩, ?_⟩
          have e1 : (at_ + k + 1 - (at_ + k)).toNat = 1 := by omega
          rw [e1, hdr]
          have : uv (f + 1 - 1) x = [x] := by
            cases f with
            | zero => simp [uv, u8_id hx.1 hx.2]
            | succ f => simp only [Nat.add_sub_cancel]; rw [uv, if_neg (by omega), u8_id hx.1 hx.2]
          rw [this]; simp
      · rw [if_neg h2, hst] at h
        cases f with
        | zero => simp [rdU] at h
        | succ f =>
          have hmm : x % 128 = x - 128 := by omega
          obtain ⟨g1, g2, g3, m, g4, g5, g6, g7⟩ := ih (k + 1) _ v e (by omega) (by omega) (by rw [hp7]; omega) h
          have hm0 := g6 (by omega)
          refine ⟨g1, by push_cast at g2; omega, g3, x % 128 + 128 * m, by omega, ?_, fun _ => by omega, ?_⟩
          · rw [g5, hp7]
            generalize (2 : Int) ^ (7 * k) = T at *
            generalize x % 128 = r at *
            grind
          · have hpos : (at_ + ((k + 1 : Nat) : Int)).toNat = (at_ + k).toNat + 1 := by omega
            have e1 : (e - (at_ + k)).toNat = (e - (at_ + ((k + 1 : Nat) : Int))).toNat + 1 := by omega
            rw [hpos] at g7
            rw [e1, hdr, List.take_succ_cons, g7]
            have hfd : (x % 128 + 128 * m).fdiv 128 = m := by rw [Int.fdiv_eq_ediv_of_nonneg _ (by omega)]; omega
            simp only [Nat.add_sub_cancel]
            have hbig : x % 128 + 128 * m < 9223372036854775808 := by
              have q : m * 1 ≤ m * 2 ^ (7 * (k + 1)) := Int.mul_le_mul_of_nonneg_left (by omega) g4
              omega
            rw [uv, if_pos (by omega), hiB_eq (by omega) hbig, hfd]
            congr 1
            omega

end Go.Proofs.Ytdbhfkbfajljpaa
