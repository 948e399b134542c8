/- Contracts of the functions that the laws run. -/
import Derived.Test.Ytdbhfkbfajljpaach04
import Derived.Test.YtdbhfkbfajljpaahelpA
import Derived.Test.Ytdbhfkbfajljpaagen
import Derived.Test.YtdbhfkbfajljpaaEngB
namespace Go.Proofs.Ytdbhfkbfajljpaa
open Go Go.Eng
set_option linter.unusedSimpArgs false
set_option linter.unusedVariables false
set_option maxRecDepth 10000
set_option maxHeartbeats 1000000
def sumI (l : List Int) : Int := l.foldl (fun s x => s + x) 0
theorem sumI_at {l : List Int} {p : Nat} (h : p < l.length) : sumI (l.take (p + 1)) = sumI (l.take p) + l[p]?.getD 0 := foldl_at h
@[simp] theorem sumI_nil : sumI [] = 0 := rfl
theorem sumI_snoc (l : List Int) (x : Int) : sumI (l ++ [x]) = sumI l + x := by simp [sumI]
def okPs (l : List Int) : Bool := l.all fun x => mIn x 0 1000
theorem okPs_at {l : List Int} {p : Nat} (h : p < l.length) : okPs (l.take (p + 1)) = (okPs (l.take p) && mIn (l[p]?.getD 0) 0 1000) := by
  rw [take_at (d := 0) h]; simp [okPs]
theorem okPs_of {l : List Int} {p : Nat} (h : p < l.length) (h2 : mIn (l[p]?.getD 0) 0 1000 = false) : okPs l = false := by
  rw [← Bool.not_eq_true]; intro h3
  simp only [okPs, List.all_eq_true] at h3
  have := h3 _ (getD_mem (d := 0) h)
  rw [h2] at this; cases this
theorem okPs_get {l : List Int} {p : Nat} (h : okPs l = true) (hp : p < l.length) : 0 ≤ l[p]?.getD 0 ∧ l[p]?.getD 0 ≤ 1000 := by
  simp only [okPs, List.all_eq_true] at h
  exact mIn_iff.1 (h _ (getD_mem (d := 0) hp))
theorem okPs_take {l : List Int} {p : Nat} (h : okPs l = true) : okPs (l.take p) = true := by
  simp only [okPs, List.all_eq_true] at h ⊢
  exact fun x hx => h x (List.mem_of_mem_take hx)
theorem sumI_bd : ∀ (p : Nat) {l : List Int}, okPs (l.take p) = true → p ≤ l.length → 0 ≤ sumI (l.take p) ∧ sumI (l.take p) ≤ 1000 * p
  | 0, l, _, _ => by simp
  | p + 1, l, h, hp => by
    rw [okPs_at (by omega), Bool.and_eq_true] at h
    have h1 := sumI_bd p h.1 (by omega)
    have h2 := mIn_iff.1 h.2
    rw [sumI_at (by omega)]; omega
theorem sumI_mono {l : List Int} (h : okPs l = true) : ∀ (k p : Nat), p + k ≤ l.length → sumI (l.take p) ≤ sumI (l.take (p + k))
  | 0, p, _ => by simp
  | k + 1, p, hp => by
    have h1 := sumI_mono h k p (by omega)
    have h2 := sumI_at (l := l) (p := p + k) (by omega)
    have h3 := okPs_get h (p := p + k) (by omega)
    rw [show p + (k + 1) = p + k + 1 from rfl, h2]; omega
def kSplit (c : Int) (l : List Int) : Bool := mIn c 0 10000000 && okPs l && decide (0 < sumI l) && decide (l.length ≤ 20)
def qAt (c w : Int) (l : List Int) (i : Nat) : Int := c * (l[i]?.getD 0) / w
def rAt (c w : Int) (l : List Int) (i : Nat) : Int := c * (l[i]?.getD 0) % w
def leftP (c : Int) (l : List Int) : Int := c - sumI (gen (qAt c (sumI l) l) l.length)
def sAt (c : Int) (l : List Int) (i : Nat) : Int := qAt c (sumI l) l i + if (i : Int) < leftP c l then 1 else 0
def mSplit (c : Int) (l : List Int) : List Int := if kSplit c l then gen (sAt c l) l.length else []
theorem mSplit_len (c : Int) (l : List Int) : (mSplit c l).length ≤ l.length := by simp only [mSplit]; split <;> simp
theorem sums_eq {c w : Int} {l : List Int} : ∀ (p : Nat), p ≤ l.length → w * sumI (gen (qAt c w l) p) + sumI (gen (rAt c w l) p) = c * sumI (l.take p)
  | 0, _ => by simp
  | p + 1, hp => by
    have h1 := sums_eq (c := c) (w := w) (l := l) p (by omega)
    have h2 : w * qAt c w l p + rAt c w l p = c * (l[p]?.getD 0) := Int.mul_ediv_add_emod _ _
    rw [gen_succ, gen_succ, sumI_snoc, sumI_snoc, sumI_at (by omega), Int.mul_add, Int.mul_add]
    omega
theorem rest_bd {c w : Int} {l : List Int} (hw : 0 < w) : ∀ (p : Nat), 0 ≤ sumI (gen (rAt c w l) p) ∧ sumI (gen (rAt c w l) p) ≤ p * (w - 1)
  | 0 => by simp
  | p + 1 => by
    have h1 := rest_bd (c := c) (l := l) hw p
    have h2 := emod_bd (c * (l[p]?.getD 0)) hw
    rw [gen_succ, sumI_snoc]
    have e : ((p + 1 : Nat) : Int) * (w - 1) = p * (w - 1) + (w - 1) := by push_cast; rw [Int.add_mul, Int.one_mul]
    rw [e]
    simp only [rAt] at h1 ⊢; omega
theorem left_eq {c : Int} {l : List Int} (hw : 0 < sumI l) : sumI (gen (rAt c (sumI l) l) l.length) / sumI l = leftP c l := by
  have h := sums_eq (c := c) (w := sumI l) (l := l) l.length (by omega)
  rw [List.take_length] at h
  have e : sumI (gen (rAt c (sumI l) l) l.length) = leftP c l * sumI l := by
    rw [leftP, Int.sub_mul, Int.mul_comm (sumI (gen (qAt c (sumI l) l) l.length))]
    omega
  rw [e]; exact Int.mul_ediv_cancel _ (by omega)
theorem left_bd {c : Int} {l : List Int} (hw : 0 < sumI l) : 0 ≤ leftP c l ∧ leftP c l ≤ l.length := by
  rw [← left_eq hw]
  have h := rest_bd (c := c) (l := l) hw l.length
  refine ⟨Int.ediv_nonneg h.1 (by omega), ?_⟩
  refine Int.ediv_le_of_le_mul hw ?_
  have : (l.length : Int) * (sumI l - 1) ≤ l.length * sumI l := Int.mul_le_mul_of_nonneg_left (by omega) (by omega)
  omega
theorem q_bd {c w : Int} {l : List Int} {i : Nat} (hc : 0 ≤ c) (hw : 0 < w) (hx : 0 ≤ l[i]?.getD 0) : 0 ≤ qAt c w l i ∧ qAt c w l i ≤ c * (l[i]?.getD 0) := by
  have h : 0 ≤ c * (l[i]?.getD 0) := Int.mul_nonneg hc hx
  exact ⟨Int.ediv_nonneg h (by omega), Int.ediv_le_self _ h⟩
theorem sumq_bd {c : Int} {l : List Int} (h : okPs l = true) (hc : 0 ≤ c ∧ c ≤ 10000000) (hw : 0 < sumI l) : ∀ (p : Nat), p ≤ l.length → 0 ≤ sumI (gen (qAt c (sumI l) l) p) ∧ sumI (gen (qAt c (sumI l) l) p) ≤ 10000000000 * p
  | 0, _ => by simp
  | p + 1, hp => by
    have h1 := sumq_bd h hc hw p (by omega)
    have hx := okPs_get h (p := p) (by omega)
    have hq := q_bd (c := c) (w := sumI l) (l := l) (i := p) hc.1 hw hx.1
    have hcx : c * (l[p]?.getD 0) ≤ 10000000 * 1000 := Int.mul_le_mul hc.2 hx.2 hx.1 (by omega)
    rw [gen_succ, sumI_snoc]; omega
theorem snoc_get {α : Type} {f : Nat → α} {x : α} {p : Nat} (h : p < (gen f p ++ [x]).length) : (gen f p ++ [x])[p]'h = x := by
  rw [List.getElem_append_right (by simp)]; simp
theorem gen_ge {α : Type} {f : Nat → α} {n p : Nat} (h : p < (gen f n).length) : (gen f n)[p]'h = f p := by simp [gen]
theorem ML_ge {α : Type} {e : α → D} {l : List α} {p : Nat} (h : p < (ML e l).length) : (ML e l)[p]'h = e (l[p]'(by simpa using h)) := by simp [ML]
def incAt (f : Nat → Int) (j i : Nat) : Int := f i + if i < j then 1 else 0
theorem incAt_zero (f : Nat → Int) : incAt f 0 = f := by funext i; simp [incAt]
theorem inc_set {f : Nat → Int} {j n : Nat} (h : j < n) : (gen (incAt f j) n).set j (f j + 1) = gen (incAt f (j + 1)) n := by
  refine List.ext_getElem (by simp) fun i h1 h2 => ?_
  rw [List.getElem_set]
  simp only [gen_ge, incAt]
  split
  · rename_i e; subst e; simp
  · rename_i e; congr 1
    have : (i < j) = (i < j + 1) := by rw [eq_iff_iff]; omega
    simp only [this]
/-- loop.example/g03007/spec.SplitMoney -/
noncomputable def c59 : Con := mkCon 59 false (α := Int × (List Int)) (fun x => (fun (c : Int) (l : List Int) => [dI c, encLI l]) x.1 x.2) (fun _ => []) (fun x => (fun (c : Int) (l : List Int) => l.length ≤ 1073741823) x.1 x.2) (fun x => (fun (c : Int) (l : List Int) => (.own (0, 1) 1 0 (mSplit c l).length : D)) x.1 x.2) (fun x => (fun (c : Int) (l : List Int) => [((0, 1), .arr false 1 (dI 0) (ML dI (mSplit c l)))]) x.1 x.2)
@[simp] theorem c59_f : c59.f = 59 := rfl
@[simp] theorem c59_own : c59.own = false := rfl
theorem c59_inj : ∀ u_ v_ : Int × (List Int), ((fun x => (fun (c : Int) (l : List Int) => [dI c, encLI l]) x.1 x.2) u_).map nz = ((fun x => (fun (c : Int) (l : List Int) => [dI c, encLI l]) x.1 x.2) v_).map nz → u_ = v_ := by
  intro u_ v_ h
  obtain ⟨c, l⟩ := u_
  obtain ⟨c', l'⟩ := v_
  simp [nz_lit, nz1_lit, nz_agg, nz_sl, nz1_sl, encLI] at h
  first | (simp [h]; done) | (obtain ⟨⟩ := h; simp_all; done) | simp_all
@[simp] theorem c59_fn (c : Int) (l : List Int) : c59.fn [.lit (.int .i64 c), .sl false 1 (.lit (.int .i64 0)) (ML dI l)] [] = some ((fun (c : Int) (l : List Int) => l.length ≤ 1073741823) c l, (fun (c : Int) (l : List Int) => (.own (0, 1) 1 0 (mSplit c l).length : D)) c l, (fun (c : Int) (l : List Int) => [((0, 1), .arr false 1 (dI 0) (ML dI (mSplit c l)))]) c l) :=
  mkCon_fn (fun x y h _ => c59_inj x y h) ((c, l) : Int × (List Int)) (by simp [nz, nz1, ML_nil, encLI]) rfl
@[simp] theorem c59_fn1 (c : Int) (s_l : Nat) (z_l : D) : c59.fn [.lit (.int .i64 c), .sl false s_l z_l []] [] = some ((fun (c : Int) (l : List Int) => l.length ≤ 1073741823) c [], (fun (c : Int) (l : List Int) => (.own (0, 1) 1 0 (mSplit c l).length : D)) c [], (fun (c : Int) (l : List Int) => [((0, 1), .arr false 1 (dI 0) (ML dI (mSplit c l)))]) c []) :=
  mkCon_fn (fun x y h _ => c59_inj x y h) ((c, []) : Int × (List Int)) (by simp [nz, nz1, ML_nil, encLI]) rfl
theorem c59_pc (c : Int) (l : List Int) (hpre : l.length ≤ 1073741823) : PCo Try.prog 59 [dI c, encLI l] (Tab.of []) (.own (0, 1) 1 0 (mSplit c l).length) (Tab.of [((0, 1), .arr false 1 (dI 0) (ML dI (mSplit c l)))]) := by
  refine pco_of_run [] (E := ⟨[c56], [], []⟩) (m := false) (base := 0) (Env.ok_cons c56_ok Env.ok_nil) G_ok mix 300 6 Try.func59 (by kernel_rfl) rfl (by kernel_rfl) (by kernel_rfl) rfl ?_
  simp [Try.f59]
  refine loop_inv (fun p : Nat => p ≤ l.length ∧ okPs (l.take p) = true) (fun p => [(0, dI c), (1, encLI l), (5, .own (0, 1) 1 0 0), (6, dI (sumI (l.take p))), (7, dI p)]) (fun _ => [((0, 1), .arr false 1 (dI 0) [])]) 2 (fun p => l.length - p) 0 400 (by simp) (by simp [okPs]) (by simp) ?_
  intro p ⟨hp, hi⟩
  simp
  have hb := sumI_bd p hi hp
  refine ⟨fun hlt => ?_, fun hge => ?_⟩
  · have h1 := okPs_at hlt
    have h2 := sumI_at hlt
    refine ⟨by omega, fun h => by simp [mSplit, kSplit, okPs_of hlt h], fun h => ?_⟩
    have h3 := mIn_iff.1 h
    repeat' (first | omega | refine And.intro ?_ ?_ | intro _)
    all_goals exact Again.mk (p + 1) ⟨by omega, by rw [h1, hi, h]; rfl⟩ (by simp [h2]) (by first | omega | (simp; omega))
  · have : p = l.length := by omega
    subst this
    rw [List.take_length] at hi hb ⊢
    cases hk : kSplit c l with
    | false =>
      have hm : mSplit c l = [] := by simp [mSplit, hk]
      have hk2 : ¬ (mIn c 0 10000000 = true ∧ mIn l.length 1 20 = true ∧ ¬ sumI l = 0) := by
        rintro ⟨h1, h2, h3⟩
        have h4 := mIn_iff.1 h2
        have : kSplit c l = true := by
          simp only [kSplit, Bool.and_eq_true, decide_eq_true_eq]
          exact ⟨⟨⟨h1, hi⟩, by omega⟩, by omega⟩
        rw [hk] at this; cases this
      simp [hm]
      repeat' (first | omega | refine And.intro ?_ ?_ | intro _)
      exact absurd ⟨by assumption, by assumption, by assumption⟩ hk2
    | true =>
      have hm : mSplit c l = gen (sAt c l) l.length := by simp [mSplit, hk]
      simp only [kSplit, Bool.and_eq_true, decide_eq_true_eq] at hk
      obtain ⟨⟨⟨hk1, _⟩, hk3⟩, hk4⟩ := hk
      have hc := mIn_iff.1 hk1
      have hlen : mIn (l.length : Int) 1 20 = true := mIn_iff.2 ⟨by cases l with | nil => simp at hk3 | cons => simp; omega, by omega⟩
      have hs0 : ¬ sumI l = 0 := by omega
      simp [hk1, hlen, hs0, hm]
      refine loop_inv (fun p : Nat => p ≤ l.length) (fun p => [(0, dI c), (1, encLI l), (5, .own (0, 1) 1 0 p), (6, dI (sumI l)), (8, dI (c - sumI (gen (qAt c (sumI l) l) p))), (9, dI p)]) (fun p => [((0, 1), .arr false 1 (dI 0) (ML dI (gen (qAt c (sumI l) l) p)))]) 2 (fun p => l.length - p) 0 400 (by simp) (by simp) (by simp) ?_
      intro p hp
      by_cases hlt : p < l.length
      · have hx := okPs_get hi hlt
        have hq := q_bd (c := c) (w := sumI l) (l := l) (i := p) hc.1 (by omega) hx.1
        have hcx : c * (l[p]?.getD 0) ≤ 10000000 * 1000 := Int.mul_le_mul hc.2 hx.2 hx.1 (by omega)
        have hcx0 : 0 ≤ c * (l[p]?.getD 0) := Int.mul_nonneg hc.1 hx.1
        have e1 : (c * (l[p]?.getD 0)).tdiv (sumI l) = qAt c (sumI l) l p := Int.tdiv_eq_ediv_of_nonneg hcx0
        have hsq := sumq_bd (c := c) (l := l) hi hc (by omega) p (by omega)
        simp [snoc_get, ML_ge, e1, ← gen_succ, gen_ge]
        refine ⟨fun _ => ?_, fun h => absurd hlt (by omega)⟩
        repeat' (first | omega | refine And.intro ?_ ?_ | intro _)
        exact Again.mk (p + 1) (by omega) (by simp [gen_succ, sumI_snoc]; omega) (by first | omega | (simp; omega))
      · have : p = l.length := by omega
        subst this
        have hlb := left_bd (c := c) (l := l) (by omega)
        have hl0 : c - sumI (gen (qAt c (sumI l) l) l.length) = leftP c l := rfl
        simp [hl0]
        refine loop_inv (fun j : Nat => (j : Int) ≤ leftP c l) (fun j => [(5, .own (0, 1) 1 0 l.length), (8, dI (leftP c l)), (10, dI j)]) (fun j => [((0, 1), .arr false 1 (dI 0) (ML dI (gen (incAt (qAt c (sumI l) l) j) l.length)))]) 2 (fun j => (leftP c l).toNat - j) 0 400 (by simp) (by simp; omega) (by simp [incAt_zero]) ?_
        intro j hj
        simp
        refine ⟨fun hlt => ?_, fun hge => ?_⟩
        · have hjl : j < l.length := by omega
          have hx := okPs_get hi hjl
          have hq := q_bd (c := c) (w := sumI l) (l := l) (i := j) hc.1 (by omega) hx.1
          have hcx : c * (l[j]?.getD 0) ≤ 10000000 * 1000 := Int.mul_le_mul hc.2 hx.2 hx.1 (by omega)
          have hg : (gen (incAt (qAt c (sumI l) l) j) l.length)[j]?.getD 0 = qAt c (sumI l) l j := by rw [gen_get hjl]; simp [incAt]
          have hs := inc_set (f := qAt c (sumI l) l) hjl
          simp only [hg]
          repeat' (first | omega | refine And.intro ?_ ?_ | intro _)
          exact Again.mk (j + 1) (by omega) (by simp [hs]) (by first | omega | (simp; omega))
        · have hjl : (j : Int) = leftP c l := by omega
          have e : gen (incAt (qAt c (sumI l) l) j) l.length = gen (sAt c l) l.length := by
            simp only [gen]; refine List.map_congr_left fun i _ => ?_
            simp only [incAt, sAt, ← hjl, Int.ofNat_lt]
          simp [e]
theorem c59_ok : c59.ok Try.prog := mkCon_ok fun ⟨c, l⟩ hpre => c59_pc c l hpre

end Go.Proofs.Ytdbhfkbfajljpaa
