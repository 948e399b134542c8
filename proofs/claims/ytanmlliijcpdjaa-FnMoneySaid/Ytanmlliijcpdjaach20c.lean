/- Contracts of the functions that the laws run. -/
import Derived.Test.Ytanmlliijcpdjaach04
import Derived.Test.YtanmlliijcpdjaahelpA
import Derived.Test.Ytanmlliijcpdjaagen
import Derived.Test.YtanmlliijcpdjaaEngB
namespace Go.Proofs.Ytanmlliijcpdjaa
open Go Go.Eng
set_option linter.unusedSimpArgs false
set_option linter.unusedVariables false
set_option maxRecDepth 10000
set_option maxHeartbeats 1000000
def sumI (l : List Int) : Int := l.foldl (fun s x => s + x) 0
theorem sumI_at {l : List Int} {p : Nat} (h : p < l.length) : sumI (l.take (p + 1)) = sumI (l.take p) + l[p]?.getD 0 := foldl_at h
@[simp] theorem sumI_nil : sumI [] = 0 := rfl
theorem sumI_snoc (l : List Int) (x : Int) : sumI (l ++ [x]) = sumI l + x := by simp [sumI]
def okPs (l : List Int) : Bool := l.all fun x => mIn x 0 1000
theorem okPs_at {l : List Int} {p : Nat} (h : p < l.length) : okPs (l.take (p + 1)) = (okPs (l.take p) && mIn (l[p]?.getD 0) 0 1000) := by
  rw [take_at (d := 0) h]; simp [okPs]
theorem okPs_of {l : List Int} {p : Nat} (h : p < l.length) (h2 : mIn (l[p]?.getD 0) 0 1000 = false) : okPs l = false := by
  rw [← Bool.not_eq_true]; intro h3
  simp only [okPs, List.all_eq_true] at h3
  have := h3 _ (getD_mem (d := 0) h)
  rw [h2] at this; cases this
theorem okPs_get {l : List Int} {p : Nat} (h : okPs l = true) (hp : p < l.length) : 0 ≤ l[p]?.getD 0 ∧ l[p]?.getD 0 ≤ 1000 := by
  simp only [okPs, List.all_eq_true] at h
  exact mIn_iff.1 (h _ (getD_mem (d := 0) hp))
theorem okPs_take {l : List Int} {p : Nat} (h : okPs l = true) : okPs (l.take p) = true := by
  simp only [okPs, List.all_eq_true] at h ⊢
  exact fun x hx => h x (List.mem_of_mem_take hx)
theorem sumI_bd : ∀ (p : Nat) {l : List Int}, okPs (l.take p) = true → p ≤ l.length → 0 ≤ sumI (l.take p) ∧ sumI (l.take p) ≤ 1000 * p
  | 0, l, _, _ => by simp
  | p + 1, l, h, hp => by
    rw [okPs_at (by omega), Bool.and_eq_true] at h
    have h1 := sumI_bd p h.1 (by omega)
    have h2 := mIn_iff.1 h.2
    rw [sumI_at (by omega)]; omega
theorem sumI_mono {l : List Int} (h : okPs l = true) : ∀ (k p : Nat), p + k ≤ l.length → sumI (l.take p) ≤ sumI (l.take (p + k))
  | 0, p, _ => by simp
  | k + 1, p, hp => by
    have h1 := sumI_mono h k p (by omega)
    have h2 := sumI_at (l := l) (p := p + k) (by omega)
    have h3 := okPs_get h (p := p + k) (by omega)
    rw [show p + (k + 1) = p + k + 1 from rfl, h2]; omega
def kSplit (c : Int) (l : List Int) : Bool := mIn c 0 10000000 && okPs l && decide (0 < sumI l) && decide (l.length ≤ 20)
def qAt (c w : Int) (l : List Int) (i : Nat) : Int := c * (l[i]?.getD 0) / w
def rAt (c w : Int) (l : List Int) (i : Nat) : Int := c * (l[i]?.getD 0) % w
def leftP (c : Int) (l : List Int) : Int := c - sumI (gen (qAt c (sumI l) l) l.length)
def sAt (c : Int) (l : List Int) (i : Nat) : Int := qAt c (sumI l) l i + if (i : Int) < leftP c l then 1 else 0
def mSplit (c : Int) (l : List Int) : List Int := if kSplit c l then gen (sAt c l) l.length else []
theorem mSplit_len (c : Int) (l : List Int) : (mSplit c l).length ≤ l.length := by simp only [mSplit]; split <;> simp
theorem sums_eq {c w : Int} {l : List Int} : ∀ (p : Nat), p ≤ l.length → w * sumI (gen (qAt c w l) p) + sumI (gen (rAt c w l) p) = c * sumI (l.take p)
  | 0, _ => by simp
  | p + 1, hp => by
    have h1 := sums_eq (c := c) (w := w) (l := l) p (by omega)
    have h2 : w * qAt c w l p + rAt c w l p = c * (l[p]?.getD 0) := Int.mul_ediv_add_emod _ _
    rw [gen_succ, gen_succ, sumI_snoc, sumI_snoc, sumI_at (by omega), Int.mul_add, Int.mul_add]
    omega
theorem rest_bd {c w : Int} {l : List Int} (hw : 0 < w) : ∀ (p : Nat), 0 ≤ sumI (gen (rAt c w l) p) ∧ sumI (gen (rAt c w l) p) ≤ p * (w - 1)
  | 0 => by simp
  | p + 1 => by
    have h1 := rest_bd (c := c) (l := l) hw p
    have h2 := emod_bd (c * (l[p]?.getD 0)) hw
    rw [gen_succ, sumI_snoc]
    have e : ((p + 1 : Nat) : Int) * (w - 1) = p * (w - 1) + (w - 1) := by push_cast; rw [Int.add_mul, Int.one_mul]
    rw [e]
    simp only [rAt] at h1 ⊢; omega
theorem left_eq {c : Int} {l : List Int} (hw : 0 < sumI l) : sumI (gen (rAt c (sumI l) l) l.length) / sumI l = leftP c l := by
  have h := sums_eq (c := c) (w := sumI l) (l := l) l.length (by omega)
  rw [List.take_length] at h
  have e : sumI (gen (rAt c (sumI l) l) l.length) = leftP c l * sumI l := by
    rw [leftP, Int.sub_mul, Int.mul_comm (sumI (gen (qAt c (sumI l) l) l.length))]
    omega
  rw [e]; exact Int.mul_ediv_cancel _ (by omega)
theorem left_bd {c : Int} {l : List Int} (hw : 0 < sumI l) : 0 ≤ leftP c l ∧ leftP c l ≤ l.length := by
  rw [← left_eq hw]
  have h := rest_bd (c := c) (l := l) hw l.length
  refine ⟨Int.ediv_nonneg h.1 (by omega), ?_⟩
  refine Int.ediv_le_of_le_mul hw ?_
  have : (l.length : Int) * (sumI l - 1) ≤ l.length * sumI l := Int.mul_le_mul_of_nonneg_left (by omega) (by omega)
  omega
theorem q_bd {c w : Int} {l : List Int} {i : Nat} (hc : 0 ≤ c) (hw : 0 < w) (hx : 0 ≤ l[i]?.getD 0) : 0 ≤ qAt c w l i ∧ qAt c w l i ≤ c * (l[i]?.getD 0) := by
  have h : 0 ≤ c * (l[i]?.getD 0) := Int.mul_nonneg hc hx
  exact ⟨Int.ediv_nonneg h (by omega), Int.ediv_le_self _ h⟩
theorem sumq_bd {c : Int} {l : List Int} (h : okPs l = true) (hc : 0 ≤ c ∧ c ≤ 10000000) (hw : 0 < sumI l) : ∀ (p : Nat), p ≤ l.length → 0 ≤ sumI (gen (qAt c (sumI l) l) p) ∧ sumI (gen (qAt c (sumI l) l) p) ≤ 10000000000 * p
  | 0, _ => by simp
  | p + 1, hp => by
    have h1 := sumq_bd h hc hw p (by omega)
    have hx := okPs_get h (p := p) (by omega)
    have hq := q_bd (c := c) (w := sumI l) (l := l) (i := p) hc.1 hw hx.1
    have hcx : c * (l[p]?.getD 0) ≤ 10000000 * 1000 := Int.mul_le_mul hc.2 hx.2 hx.1 (by omega)
    rw [gen_succ, sumI_snoc]; omega
theorem snoc_get {α : Type} {f : Nat → α} {x : α} {p : Nat} (h : p < (gen f p ++ [x]).length) : (gen f p ++ [x])[p]'h = x := by
  rw [List.getElem_append_right (by simp)]; simp
theorem gen_ge {α : Type} {f : Nat → α} {n p : Nat} (h : p < (gen f n).length) : (gen f n)[p]'h = f p := by simp [gen]
theorem ML_ge {α : Type} {e : α → D} {l : List α} {p : Nat} (h : p < (ML e l).length) : (ML e l)[p]'h = e (l[p]'(by simpa using h)) := by simp [ML]
def incAt (f : Nat → Int) (j i : Nat) : Int := f i + if i < j then 1 else 0
theorem incAt_zero (f : Nat → Int) : incAt f 0 = f := by funext i; simp [incAt]
theorem inc_set {f : Nat → Int} {j n : Nat} (h : j < n) : (gen (incAt f j) n).set j (f j + 1) = gen (incAt f (j + 1)) n := by
  refine List.ext_getElem (by simp) fun i h1 h2 => ?_
  rw [List.getElem_set]
  simp only [gen_ge, incAt]
  split
  · rename_i e; subst e; simp
  · rename_i e; congr 1
    have : (i < j) = (i < j + 1) := by rw [eq_iff_iff]; omega
    simp only [this]
/-- loop.example/g03007/impl.areParts -/
noncomputable def c20 : Con := mkCon 20 false (α := (List Int)) (fun x => (fun (l : List Int) => [encLI l]) x) (fun _ => []) (fun x => (fun (l : List Int) => l.length ≤ 1073741823) x) (fun x => (fun (l : List Int) => (dB (okPs l && decide (0 < sumI l) && decide (l.length ≤ 20)) : D)) x) (fun x => (fun (l : List Int) => []) x)
@[simp] theorem c20_f : c20.f = 20 := rfl
@[simp] theorem c20_own : c20.own = false := rfl
theorem c20_inj : ∀ u_ v_ : (List Int), ((fun x => (fun (l : List Int) => [encLI l]) x) u_).map nz = ((fun x => (fun (l : List Int) => [encLI l]) x) v_).map nz → u_ = v_ := by
  intro u_ v_ h
  obtain l := u_
  obtain l' := v_
  simp [nz_lit, nz1_lit, nz_agg, nz_sl, nz1_sl, encLI] at h
  first | (simp [h]; done) | (obtain ⟨⟩ := h; simp_all; done) | simp_all
@[simp] theorem c20_fn (l : List Int) : c20.fn [.sl false 1 (.lit (.int .i64 0)) (ML dI l)] [] = some ((fun (l : List Int) => l.length ≤ 1073741823) l, (fun (l : List Int) => (dB (okPs l && decide (0 < sumI l) && decide (l.length ≤ 20)) : D)) l, (fun (l : List Int) => []) l) :=
  mkCon_fn (fun x y h _ => c20_inj x y h) (l : (List Int)) (by simp [nz, nz1, ML_nil, encLI]) rfl
@[simp] theorem c20_fn1 (s_l : Nat) (z_l : D) : c20.fn [.sl false s_l z_l []] [] = some ((fun (l : List Int) => l.length ≤ 1073741823) [], (fun (l : List Int) => (dB (okPs l && decide (0 < sumI l) && decide (l.length ≤ 20)) : D)) [], (fun (l : List Int) => []) []) :=
  mkCon_fn (fun x y h _ => c20_inj x y h) ([] : (List Int)) (by simp [nz, nz1, ML_nil, encLI]) rfl
theorem c20_pc (l : List Int) (hpre : l.length ≤ 1073741823) : PCo Try.prog 20 [encLI l] (Tab.of []) (dB (okPs l && decide (0 < sumI l) && decide (l.length ≤ 20))) (Tab.of []) := by
  refine pco_of_run [] (E := ⟨[c19], [], []⟩) (m := false) (base := 0) (Env.ok_cons c19_ok Env.ok_nil) G_ok mix 300 6 Try.func20 (by kernel_rfl) rfl (by kernel_rfl) (by kernel_rfl) rfl ?_
  simp [Try.f20]
  refine loop_inv (fun p : Nat => p ≤ l.length ∧ okPs (l.take p) = true) (fun p => [(0, encLI l), (3, dB (decide (0 < sumI (l.take p)))), (6, encLI l), (7, dI l.length), (8, dI p)]) (fun _ => []) 1 (fun p => l.length - p) 0 400 (by simp) (by simp [okPs]) (by simp) ?_
  intro p ⟨hp, hi⟩
  simp
  have hb := sumI_bd p hi hp
  refine ⟨fun hlt => ?_, fun hge => ?_⟩
  · have h1 := okPs_at hlt
    have h2 := sumI_at hlt
    refine ⟨by omega, fun h => by rw [okPs_of hlt h]; simp, fun h => ?_⟩
    have h3 := mIn_iff.1 h
    repeat' (first | omega | refine And.intro ?_ ?_ | intro _)
    all_goals exact Again.mk (p + 1) ⟨by omega, by rw [h1, hi, h]; rfl⟩ (by simp [h2]; first | rfl | omega | (rw [Bool.eq_iff_iff]; simp; done) | (rw [Bool.eq_iff_iff]; simp; omega) | (rw [Bool.eq_iff_iff]; simp; grind) | grind) (by first | omega | (simp; omega))
  · have : p = l.length := by omega
    subst this
    rw [List.take_length] at hi hb ⊢
    rw [hi]; simp
    have h4 : ((l.length : Int) ≤ 20) ↔ l.length ≤ 20 := by omega
    simp only [h4]
theorem c20_ok : c20.ok Try.prog := mkCon_ok fun l hpre => c20_pc l hpre
end Go.Proofs.Ytanmlliijcpdjaa
