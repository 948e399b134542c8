/- Contracts of the functions that the laws run. -/
import Derived.Test.YtpnfkjbnhholfaaEngB
import Derived.Test.YtpnfkjbnhholfaaEngB
import Derived.Test.YtpnfkjbnhholfaaEngB
import Derived.Test.Ytpnfkjbnhholfaadr19
import Derived.Test.Ytpnfkjbnhholfaalawx
import Derived.Test.Ytpnfkjbnhholfaach19e
import Derived.Test.Ytpnfkjbnhholfaacut
import Derived.Test.YtpnfkjbnhholfaaEngB
namespace Go.Proofs.Ytpnfkjbnhholfaa
open Go Go.Eng
set_option linter.unusedSimpArgs false
set_option linter.unusedVariables false
set_option maxRecDepth 10000
set_option maxHeartbeats 1000000
theorem cutF_spec (x : TBid) (P : List TBid) : ∀ m, (∀ i, cutF ltB default x P m ≤ i → i < m → ltB x (P[i]?.getD default) = true) ∧ (0 < cutF ltB default x P m → ltB x (P[cutF ltB default x P m - 1]?.getD default) = false)
  | 0 => by simp [cutF]
  | m + 1 => by
    obtain ⟨h1, h2⟩ := cutF_spec x P m
    by_cases h : ltB x (P[m]?.getD default) = true
    · have e : cutF ltB default x P (m + 1) = cutF ltB default x P m := by rw [cutF, if_pos h]
      rw [e]
      refine ⟨fun i hi hm => ?_, h2⟩
      rcases Nat.lt_or_ge i m with hlt | hge
      · exact h1 i hi hlt
      · have : i = m := by omega
        subst this; exact h
    · have e : cutF ltB default x P (m + 1) = m + 1 := by rw [cutF, if_neg h]
      rw [e]
      exact ⟨fun i hi hm => by omega, fun _ => by simpa using h⟩
theorem insK_perm (x : TBid) (P : List TBid) : (insK ltB default x P).Perm (x :: P) := by
  rw [insK]
  refine List.perm_middle.trans ?_
  rw [List.take_append_drop]
theorem sortK_perm (l : List TBid) : ∀ p, p ≤ l.length → (sortB l p).Perm (l.take p)
  | 0, _ => by simp [sortK]
  | p + 1, h => by
    rw [show sortB l (p + 1) = insK ltB default (l[p]?.getD default) (sortB l p) from rfl, take_at (d := default) (by omega : p < l.length)]
    exact (insK_perm _ _).trans ((List.Perm.cons _ (sortK_perm l p (by omega))).trans (List.perm_append_comm (l₁ := [l[p]?.getD default]) (l₂ := l.take p)))
theorem insK_desc {x : TBid} {P : List TBid} (h : P.Pairwise (fun a b => b.Cents ≤ a.Cents)) : (insK ltB default x P).Pairwise (fun a b => b.Cents ≤ a.Cents) := by
  obtain ⟨h1, h2⟩ := cutF_spec x P P.length
  have hle := cutF_le (lt := ltB) (d := default) x P P.length
  rw [insK]
  generalize cutF ltB default x P P.length = j at *
  have hA : ∀ a ∈ P.take j, x.Cents ≤ a.Cents := fun a ha => by
    obtain ⟨i, hi, e⟩ := List.mem_iff_getElem.1 ha
    have hi2 : i < j ∧ i < P.length := by simp at hi; omega
    have hj := h2 (by omega)
    rw [List.getElem?_eq_getElem (by omega)] at hj
    simp [ltB] at hj
    have e2 : a = P[i] := by rw [← e]; simp
    rcases Nat.lt_or_ge i (j - 1) with hlt | hge
    · have := List.pairwise_iff_getElem.1 h i (j - 1) hi2.2 (by omega) hlt
      rw [e2]; omega
    · have e3 : i = j - 1 := by omega
      subst e3; rw [e2]; exact hj
  have hB : ∀ b ∈ P.drop j, b.Cents ≤ x.Cents := fun b hb => by
    obtain ⟨i, hi, e⟩ := List.mem_iff_getElem.1 hb
    have hi2 : j + i < P.length := by simp at hi; omega
    have := h1 (j + i) (by omega) hi2
    rw [List.getElem?_eq_getElem hi2] at this
    simp [ltB] at this
    have e2 : b = P[j + i] := by rw [← e]; simp
    rw [e2]; omega
  have hs := h
  rw [← List.take_append_drop j P, List.pairwise_append] at hs
  rw [List.pairwise_append, List.pairwise_cons]
  refine ⟨hs.1, ⟨hB, hs.2.1⟩, fun a ha b hb => ?_⟩
  rcases List.mem_cons.1 hb with rfl | hb
  · exact hA a ha
  · exact hs.2.2 a ha b hb
theorem sortK_desc (l : List TBid) : ∀ p, (sortB l p).Pairwise (fun a b => b.Cents ≤ a.Cents)
  | 0 => by simp [sortK]
  | p + 1 => by rw [show sortB l (p + 1) = insK ltB default (l[p]?.getD default) (sortB l p) from rfl]; exact insK_desc (sortK_desc l p)
theorem dup_nodup : ∀ {l : List Int}, dup l = false ↔ l.Nodup
  | [] => by simp [dup]
  | x :: r => by simp [dup, dup_nodup (l := r)]
def stepM (m : Int) (x : TBid) : Int := if m < x.Cents then x.Cents else m
theorem fold_max {M : Int} : ∀ (R : List TBid) (m : Int), (∀ x ∈ R, x.Cents ≤ M) → m ≤ M → (m = M ∨ ∃ x ∈ R, x.Cents = M) → R.foldl stepM m = M
  | [], m, _, _, h => by
    rcases h with h | ⟨x, hx, _⟩
    · exact h
    · simp at hx
  | y :: R, m, h1, h2, h3 => by
    rw [List.foldl_cons]
    have hy := h1 y (by simp)
    refine fold_max R (stepM m y) (fun x hx => h1 x (by simp [hx])) ?_ ?_
    · simp only [stepM]; split <;> omega
    · rcases h3 with h3 | ⟨x, hx, hxM⟩
      · left; simp only [stepM]; split <;> omega
      · rcases List.mem_cons.1 hx with rfl | hx
        · left; simp only [stepM]; split <;> omega
        · exact .inr ⟨x, hx, hxM⟩
theorem win_all {l : List TBid} (h : mAreBids l = true) (hl : 0 < l.length) : ¬ (mWin l).1 = 0 ∧ whoAt l 0 = (mWin l).1 ∧ (∀ x ∈ l, x.Who = (mWin l).1 → (mWin l).2 ≤ x.Cents) ∧ (∀ x ∈ l, ¬ x.Who = (mWin l).1 → x.Cents ≤ (mWin l).2) ∧ (mWithout l (mWin l).1).length + 1 = l.length ∧
    (0 < (mWithout l (mWin l).1).length → (mWin l).2 = (mWithout l (mWin l).1).foldl stepM 0) ∧ ((mWithout l (mWin l).1).length = 0 → (mWin l).2 = 1) := by
  have hw := win_at h hl
  have hp : (sortB l l.length).Perm l := by have := sortK_perm l l.length (Nat.le_refl _); rwa [List.take_length] at this
  have hd := sortK_desc l l.length
  have hlen : (sortB l l.length).length = l.length := sortK_len l _
  have hwho : whoAt l 0 = ((sortB l l.length)[0]?.getD default).Who := rfl
  rw [hwho]
  simp only [mAreBids, Bool.and_eq_true, Bool.not_eq_true', allBid, List.all_eq_true] at h
  obtain ⟨⟨_, hv⟩, hnd⟩ := h
  have hnd2 : (whos (sortB l l.length)).Nodup := (hp.map TBid.Who).nodup_iff.2 (dup_nodup.1 hnd)
  generalize sortB l l.length = S at *
  cases S with
  | nil => simp at hlen; omega
  | cons a T =>
    simp only [List.getElem?_cons_zero, Option.getD_some, List.getElem?_cons_succ] at hw ⊢
    have ha : a ∈ l := hp.subset (by simp)
    have hva := hv a ha
    simp only [mIsBid, Bool.and_eq_true, mIn_iff] at hva
    simp only [whos, List.map_cons, List.nodup_cons, List.mem_map, not_exists, not_and] at hnd2
    have hT : ∀ x ∈ l, ¬ x.Who = a.Who → x ∈ T := fun x hx hne => by
      rcases List.mem_cons.1 (hp.symm.subset hx) with rfl | hx
      · exact absurd rfl hne
      · exact hx
    have heq : ∀ x ∈ l, x.Who = a.Who → x = a := fun x hx he => by
      rcases List.mem_cons.1 (hp.symm.subset hx) with rfl | hx
      · rfl
      · exact absurd he (hnd2.1 x hx)
    have hwo : (mWithout l a.Who).Perm T := by
      have h1 : (mWithout l a.Who).Perm ((a :: T).filter (whoNot a.Who)) := (hp.filter _).symm
      have h2 : (a :: T).filter (whoNot a.Who) = T := by
        rw [List.filter_cons_of_neg (by simp [whoNot, whoIs])]
        rw [List.filter_eq_self]
        intro x hx
        have := hnd2.1 x hx
        simp [whoNot, whoIs, this]
      rw [h2] at h1; exact h1
    rw [List.pairwise_cons] at hd
    have hwl := hwo.length_eq
    simp only [List.length_cons] at hlen
    cases T with
    | nil =>
      have e := hw.1 (by simp at hlen; omega)
      simp only [e]
      simp only [List.length_nil] at hwl hlen
      refine ⟨by omega, trivial, fun x hx he => ?_, fun x hx hne => ?_, by omega, fun h0 => by omega, fun _ => trivial⟩
      · rw [heq x hx he]; omega
      · have := hT x hx hne; simp at this
    | cons b U =>
      have e := hw.2 (by simp at hlen; omega)
      simp only [List.getElem?_cons_zero, Option.getD_some] at e
      simp only [e]
      simp only [List.length_cons] at hwl hlen
      rw [List.pairwise_cons] at hd
      have hb0 : b ∈ l := hp.subset (by simp)
      have hvb := hv b hb0
      simp only [mIsBid, Bool.and_eq_true, mIn_iff] at hvb
      have hbU : ∀ x ∈ b :: U, x.Cents ≤ b.Cents := fun x hx => by
        rcases List.mem_cons.1 hx with rfl | hx
        · omega
        · exact hd.2.1 x hx
      refine ⟨by omega, trivial, fun x hx he => ?_, fun x hx hne => hbU x (hT x hx hne), by omega, fun _ => ?_, fun h0 => by omega⟩
      · rw [heq x hx he]; exact hd.1 b (by simp)
      · exact (fold_max _ 0 (fun x hx => hbU x (hwo.subset hx)) (by omega) (.inr ⟨b, hwo.symm.subset (by simp), rfl⟩)).symm

end Go.Proofs.Ytpnfkjbnhholfaa
