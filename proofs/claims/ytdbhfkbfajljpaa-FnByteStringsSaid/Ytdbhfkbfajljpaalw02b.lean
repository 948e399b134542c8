/- Contracts of the functions that the laws run. -/
import Derived.Test.YtdbhfkbfajljpaaEngB
import Derived.Test.YtdbhfkbfajljpaaEngB
import Derived.Test.YtdbhfkbfajljpaaEngB
import Derived.Test.Ytdbhfkbfajljpaalw02v
import Derived.Test.Ytdbhfkbfajljpaalawb
import Derived.Test.Ytdbhfkbfajljpaach02d
import Derived.Test.YtdbhfkbfajljpaaEngB
namespace Go.Proofs.Ytdbhfkbfajljpaa
open Go Go.Eng
set_option linter.unusedSimpArgs false
set_option linter.unusedVariables false
set_option maxRecDepth 10000
set_option maxHeartbeats 1000000
theorem rd_at {A R : List Int} {n : Int} (h : 0 ≤ n ∧ n ≤ 1000000000000) : mRead (A ++ (uv 5 n ++ R)) A.length = some (n, (A.length : Int) + (uv 5 n).length) := by
  rw [mRead, if_neg (by omega)]
  have hd : (A ++ (uv 5 n ++ R)).drop ((A.length : Int) + ((0 : Nat) : Int)).toNat = uv 5 n ++ R := by
    have : ((A.length : Int) + ((0 : Nat) : Int)).toNat = A.length := by omega
    rw [this]; simp
  have hpw : n < 128 ^ (5 + 1) := by
    have e : (128 : Int) ^ (5 + 1) = 4398046511104 := by decide
    rw [e]; omega
  have := rd_uv (A ++ (uv 5 n ++ R)) A.length R (by omega) 5 n 0 0 6 hd h.1 hpw (by omega) (by simp) (by simpa using h.2) (fun _ => rfl) (by omega) (by omega)
  rw [this]
  simp
theorem rb_app {b d : List Int} (h : d.length ≤ 1000000) : mRB (mAppB b d) b.length d.length = some (d, ((mAppB b d).length : Int)) ∧ mRB (mAppB b d) b.length ((d.length : Int) - 1) = none := by
  have hin : mIn (d.length : Int) 0 1000000000000 = true := mIn_iff.2 (by omega)
  have e : mAppB b d = b ++ (uv 5 d.length ++ d) := by rw [mAppB, mPutU, if_pos hin, List.append_assoc]
  have hr := rd_at (A := b) (R := d) (n := d.length) (by omega)
  rw [← e] at hr
  have hlen : ((mAppB b d).length : Int) = b.length + (uv 5 d.length).length + d.length := by rw [e]; simp; omega
  rw [mRB_some hr, mRB_some hr]
  constructor
  · rw [if_neg (by omega)]
    have hn : ((b.length : Int) + ((uv 5 d.length).length : Int)).toNat = (b ++ uv 5 d.length).length := by simp; omega
    rw [hn, e, ← List.append_assoc, List.drop_left]
    simp
    omega
  · rw [if_pos (by omega)]
def okN (l : List Int) : Prop := ∀ x ∈ l, 0 ≤ x ∧ x ≤ 1000000000000
noncomputable def flatU (l : List Int) : List Int := l.flatMap (uv 5)
theorem enc_flat : ∀ {l : List Int}, okN l → ∀ A, l.foldl mPutU A = A ++ flatU l
  | [], _, A => by simp [flatU]
  | x :: l, h, A => by
    have hx : mIn x 0 1000000000000 = true := mIn_iff.2 (h x (by simp))
    rw [List.foldl_cons, enc_flat (l := l) fun y hy => h y (by simp [hy])]
    rw [mPutU, if_pos hx]
    simp [flatU]
theorem dec_flat : ∀ {l : List Int}, okN l → ∀ A, decF (A ++ flatU l) l.length A.length = some (l, ((A ++ flatU l).length : Int)) ∧ decF (A ++ flatU l) (l.length + 1) A.length = none
  | [], _, A => by
    refine ⟨by simp [decF, flatU], decF_no ?_⟩
    rw [mRead, if_neg (by omega)]
    exact rdU_end _ _ _ _ _ (by simp [flatU])
  | x :: l, h, A => by
    have hx := h x (by simp)
    have e : A ++ flatU (x :: l) = (A ++ uv 5 x) ++ flatU l := by simp [flatU]
    have hr := rd_at (A := A) (R := flatU l) hx
    rw [← List.append_assoc, ← e] at hr
    obtain ⟨i1, i2⟩ := dec_flat (l := l) (fun y hy => h y (by simp [hy])) (A ++ uv 5 x)
    rw [← e] at i1 i2
    have hc : (A.length : Int) + ((uv 5 x).length : Int) = ((A ++ uv 5 x).length : Int) := by simp
    rw [hc] at hr
    refine ⟨?_, ?_⟩
    · rw [List.length_cons, decF, hr]
      simp only [i1, Option.map_some]
    · rw [List.length_cons, decF, hr]
      simp only [i2, Option.map_none]
theorem dec_enc_all {l : List Int} (h : okN l) (hl : l.length ≤ 50) : mDecI (encAll l) 0 l.length = some (l, ((encAll l).length : Int)) ∧ mDecI (encAll l) 0 ((l.length : Int) + 1) = none := by
  have e : encAll l = [] ++ flatU l := enc_flat h []
  obtain ⟨i1, i2⟩ := dec_flat h []
  rw [← e] at i1 i2
  have h1 : (mIn (l.length : Int) 0 100 && mIn 0 0 ((encAll l).length : Int)) = true := by
    rw [Bool.and_eq_true]; exact ⟨mIn_iff.2 (by omega), mIn_iff.2 (by omega)⟩
  have h2 : (mIn ((l.length : Int) + 1) 0 100 && mIn 0 0 ((encAll l).length : Int)) = true := by
    rw [Bool.and_eq_true]; exact ⟨mIn_iff.2 (by omega), mIn_iff.2 (by omega)⟩
  rw [mDecI, if_pos h1, mDecI, if_pos h2]
  have t1 : (l.length : Int).toNat = l.length := by omega
  have t2 : ((l.length : Int) + 1).toNat = l.length + 1 := by omega
  rw [t1, t2]
  exact ⟨i1, i2⟩

end Go.Proofs.Ytdbhfkbfajljpaa
