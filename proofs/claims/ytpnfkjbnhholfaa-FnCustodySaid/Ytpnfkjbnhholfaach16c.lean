/- Contracts of the functions that the laws run. -/
import Derived.Test.Ytpnfkjbnhholfaach16k
import Derived.Test.YtpnfkjbnhholfaaEngB
namespace Go.Proofs.Ytpnfkjbnhholfaa
open Go Go.Eng
set_option linter.unusedSimpArgs false
set_option linter.unusedVariables false
set_option maxRecDepth 10000
set_option maxHeartbeats 1000000
def hIn (x : THand) : Bool := decide (x.Holder = 2)
def headIn (r : List THand) : Bool := match r.getLast? with | none => false | some x => hIn x
def nIn (b : Bool) : Nat := if b then 1 else 0
def cntS : List THand → Nat
  | [] => 0
  | x :: r => nIn (hIn x && !r.any (thH (kHd x))) + cntS r
theorem headIn_cons (x : THand) (r : List THand) : headIn (x :: r) = match r with | [] => hIn x | y :: t => headIn (y :: t) := by
  cases r with
  | nil => rfl
  | cons y t => simp [headIn, List.getLast?_cons_cons]
theorem any_fil {k : Int} : ∀ {r : List THand}, r.any (thH k) = !(r.filter (thH k)).isEmpty
  | [] => rfl
  | x :: t => by
    have := any_fil (k := k) (r := t)
    cases h : thH k x <;> simp [List.filter, h]
    simpa using this
theorem cntS_snoc : ∀ (l : List THand) (x : THand), cntS (l ++ [x]) + nIn (headIn (l.filter (thH (kHd x)))) = cntS l + nIn (hIn x)
  | [], x => by simp [cntS, headIn, nIn]
  | y :: r, x => by
    have ih := cntS_snoc r x
    rw [List.cons_append, cntS, cntS, List.any_append]
    by_cases h : kHd y = kHd x
    · have h1 : thH (kHd x) y = true := by simp only [thH]; exact decide_eq_true h
      have h2 : thH (kHd y) x = true := by simp only [thH]; exact decide_eq_true h.symm
      have h3 : [x].any (thH (kHd y)) = true := by show (thH (kHd y) x || false) = true; rw [h2]; rfl
      rw [h3, h]
      rw [List.filter_cons, if_pos h1]
      have h4 := any_fil (k := kHd x) (r := r)
      cases hf : r.filter (thH (kHd x)) with
      | nil =>
        rw [hf] at ih h4
        simp only [List.isEmpty_nil, Bool.not_true] at h4
        rw [h4]
        have e1 : headIn ([] : List THand) = false := rfl
        have e2 : headIn [y] = hIn y := rfl
        rw [e1] at ih
        rw [e2]
        cases hy : hIn y <;> cases hx : hIn x <;> rw [hx] at ih <;> simp only [nIn, Bool.or_true, Bool.not_true, Bool.and_false, Bool.not_false, Bool.and_true, Bool.false_eq_true, if_false, if_true, Bool.and_self] at ih ⊢ <;> omega
      | cons z t =>
        rw [hf] at ih h4
        simp only [List.isEmpty_cons, Bool.not_false] at h4
        rw [h4]
        rw [headIn_cons]
        simp only [nIn, Bool.or_true, Bool.not_true, Bool.and_false, Bool.false_eq_true, if_false] at ih ⊢
        omega
    · have h1 : thH (kHd x) y = false := by simp only [thH]; exact decide_eq_false h
      have h2 : thH (kHd y) x = false := by simp only [thH]; exact decide_eq_false (fun e => h e.symm)
      have h3 : [x].any (thH (kHd y)) = false := by show (thH (kHd y) x || false) = false; rw [h2]; rfl
      rw [h3, List.filter_cons, if_neg (by rw [h1]; simp), Bool.or_false]
      omega
def cntG (g : Gh) : Nat := g.countP fun p => headIn p.2
theorem cntG_add (g : Gh) (k : Int) (x : THand) : cntG (addG g k x) + nIn (headIn (getG g k)) = cntG g + nIn (hIn x) := by
  induction g with
  | nil => cases h : hIn x <;> simp [addG, cntG, getG, headIn, nIn, h]
  | cons p t ih =>
    obtain ⟨q, r⟩ := p
    have h0 : headIn (r ++ [x]) = hIn x := by simp [headIn]
    by_cases h : k = q
    · subst h
      simp only [addG, if_true, getG, cntG, List.countP_cons, h0]
      cases headIn r <;> cases hIn x <;> simp [nIn]
    · simp only [addG, if_neg h, getG, cntG, List.countP_cons] at ih ⊢
      omega
theorem cntS_G : ∀ (n : Nat) (l : List THand), n ≤ l.length → cntS (l.take n) = cntG (bkH (l.take n))
  | 0, l, _ => by simp [cntS, cntG]
  | n + 1, l, h => by
    have ih := cntS_G n l (by omega)
    rw [take_at (d := default) (by omega), bkH, grpL_snoc]
    have h1 := cntS_snoc (l.take n) (l[n]?.getD default)
    have h2 := cntG_add (bkH (l.take n)) (kHd (l[n]?.getD default)) (l[n]?.getD default)
    rw [bkH_get] at h2
    rw [bkH] at h2 ih
    omega
theorem cntS_bk (l : List THand) : cntS l = cntG (bkH l) := by
  have := cntS_G l.length l (Nat.le_refl _)
  rwa [List.take_length] at this
theorem addG_ne {α : Type} {k : Int} {x : α} : ∀ {g : List (Int × List α)}, (∀ p ∈ g, p.2 ≠ []) → ∀ p ∈ addG g k x, p.2 ≠ []
  | [], _, p, hp => by simp [addG] at hp; subst hp; simp
  | (q, r) :: t, h, p, hp => by
    by_cases e : k = q
    · simp only [addG, if_pos e, List.mem_cons] at hp
      rcases hp with hp | hp
      · subst hp; simp
      · exact h p (List.mem_cons_of_mem _ hp)
    · simp only [addG, if_neg e, List.mem_cons] at hp
      rcases hp with hp | hp
      · subst hp; exact h _ (List.mem_cons_self ..)
      · exact addG_ne (fun p hp => h p (List.mem_cons_of_mem _ hp)) p hp
theorem grpL_ne {α : Type} (key : α → Int) (l : List α) : ∀ p ∈ grpL key l, p.2 ≠ [] := by
  have : ∀ (l : List α) (g : List (Int × List α)), (∀ p ∈ g, p.2 ≠ []) → ∀ p ∈ l.foldl (fun g x => addG g (key x) x) g, p.2 ≠ [] := by
    intro l
    induction l with
    | nil => intro g h; exact h
    | cons x l ih => intro g h; exact ih _ (addG_ne h)
  exact this l [] (by simp)
theorem addG_count {α : Type} {k : Int} {x : α} : ∀ {g : List (Int × List α)}, (addG g k x).length ≤ g.length + 1
  | [] => by simp [addG]
  | (q, r) :: t => by
    have := addG_count (k := k) (x := x) (g := t)
    by_cases e : k = q <;> simp [addG, e]; omega
theorem grp_count {α : Type} (key : α → Int) (l : List α) : (grpL key l).length ≤ l.length := by
  have : ∀ (l : List α) (g : List (Int × List α)), (l.foldl (fun g x => addG g (key x) x) g).length ≤ g.length + l.length := by
    intro l
    induction l with
    | nil => intro g; simp
    | cons x l ih =>
      intro g
      have h1 := ih (addG g (key x) x)
      have h2 := addG_count (k := key x) (x := x) (g := g)
      simp only [List.foldl_cons, List.length_cons]; omega
  have := this l []
  simpa [grpL] using this
def headQ (r : List THand) : THand × List THand := (r.reverse.headD default, r.reverse.tail)
def hdG (g : Gh) : List (THand × List THand) := g.map fun p => headQ p.2
def lkL (l : List (THand × List THand)) : List D := l.map linkL
theorem link_hd {r : List THand} (h : r ≠ []) : linkR r.reverse = linkL (headQ r) := by
  cases hr : r.reverse with
  | nil => simp at hr; exact absurd hr h
  | cons x t => simp only [linkL, headQ, hr, linkR_cons, List.headD_cons, List.tail_cons]
theorem links_hd (l : List THand) : linksG (bkH l) = lkL (hdG (bkH l)) := by
  simp only [linksG, lkL, hdG, List.map_map]
  exact List.map_congr_left fun p hp => link_hd (grpL_ne kHd l p hp)
@[simp] theorem lkL_at (l : List (THand × List THand)) (i : Nat) : (lkL l)[i]?.getD (linkL (default, [])) = .el (.agg [.lit (.int .i64 (l[i]?.getD (default, [])).1.Thing), .lit (.int .i64 (l[i]?.getD (default, [])).1.Holder), .lit (.int .i64 (l[i]?.getD (default, [])).1.Who), .lit (.int .i64 (l[i]?.getD (default, [])).1.At), .lit (.int .i64 (l[i]?.getD (default, [])).1.Seal), linkR (l[i]?.getD (default, [])).2]) := by
  simp only [lkL, List.getElem?_map]
  cases l[i]? <;> rfl
@[simp] theorem hdG_len (g : Gh) : (hdG g).length = g.length := by simp [hdG]
def qIn (q : THand × List THand) : Bool := hIn q.1
theorem headIn_hd (r : List THand) : headIn r = qIn (headQ r) := by
  rw [headIn, qIn, headQ, ← List.head?_reverse]
  cases r.reverse <;> rfl
theorem cntG_hd (g : Gh) : cntG g = (hdG g).countP qIn := by
  rw [hdG, List.countP_map, cntG]
  congr 1; funext p; exact headIn_hd p.2
def okSeen (n : Nat) (l : List Nat) : Prop := l.Nodup ∧ ∀ i ∈ l, i < n
theorem okSeen_snoc {n i : Nat} {l : List Nat} (h : okSeen n l) (hi : i < n) (hs : i ∉ l) : okSeen n (l ++ [i]) := by
  refine ⟨?_, fun j hj => ?_⟩
  · rw [List.nodup_append]
    exact ⟨h.1, by simp, fun a ha b hb => by simp at hb; subst hb; rintro rfl; exact hs ha⟩
  · rcases List.mem_append.1 hj with hj | hj
    · exact h.2 j hj
    · simp at hj; subst hj; exact hi
def hitQ (a : List (THand × List THand)) (l : List Nat) : Nat := l.countP fun i => qIn (a[i]?.getD (default, []))
theorem hitQ_all {a : List (THand × List THand)} {l : List Nat} (h : okSeen a.length l) (ha : ∀ i, i < a.length → i ∈ l) : hitQ a l = a.countP qIn := by
  have e : a = (List.range a.length).map fun i => a[i]?.getD (default, []) := by
    apply List.ext_getElem <;> simp
    intro i h; simp [h]
  rw [hitQ, (seen_perm h.1 h.2 ha).countP_eq]
  conv => rhs; rw [e]
  rw [List.countP_map]; rfl
def mCountIn (l : List THand) : Nat := if mIsChain l then cntS l else 0
theorem lastIx_seg {l : List THand} {k : Int} {i : Nat} (hk : thH k (l[i]?.getD default) = true) : ∀ (m : Nat), i + 1 + m ≤ l.length → (lastIx k l (i + 1 + m) = some i ↔ ((l.drop (i + 1)).take m).any (thH k) = false)
  | 0, _ => by simp [lastIx, hk]
  | m + 1, h => by
    have ih := lastIx_seg hk m (by omega)
    have hm : m < (l.drop (i + 1)).length := by simp; omega
    have hg : (l.drop (i + 1))[m]?.getD default = l[i + 1 + m]?.getD default := by rw [List.getElem?_drop]
    rw [take_at (d := default) hm, hg, List.any_append, ← Nat.add_assoc, lastIx]
    by_cases hw : thH k (l[i + 1 + m]?.getD default) = true
    · rw [if_pos hw]
      have : ¬ (some (i + 1 + m) = some i) := by simp; omega
      simp [this, hw]
    · rw [if_neg hw, ih]; simp [hw]
theorem lastIx_iff {l : List THand} {i : Nat} (hi : i < l.length) : ixI (lastIx (l[i]?.getD default).Thing l l.length) = i ↔ (l.drop (i + 1)).any (thH (l[i]?.getD default).Thing) = false := by
  have hk : thH (l[i]?.getD default).Thing (l[i]?.getD default) = true := decide_eq_true rfl
  have := lastIx_seg hk (l.length - (i + 1)) (by omega)
  rw [show i + 1 + (l.length - (i + 1)) = l.length by omega, List.take_of_length_le (by simp)] at this
  rw [← this]
  cases lastIx (l[i]?.getD default).Thing l l.length with
  | none => simp
  | some q => simp; omega
theorem cntS_at {l : List THand} {p : Nat} (h : p < l.length) : cntS (l.drop p) = nIn (hIn (l[p]?.getD default) && !(l.drop (p + 1)).any (thH (l[p]?.getD default).Thing)) + cntS (l.drop (p + 1)) := by
  rw [drop_at (d := default) h, cntS]; rfl
theorem cntS_le : ∀ (l : List THand), cntS l ≤ l.length
  | [] => by simp [cntS]
  | x :: r => by
    have := cntS_le r
    rw [cntS, List.length_cons]
    cases (hIn x && !r.any (thH (kHd x))) <;> simp [nIn] <;> omega
end Go.Proofs.Ytpnfkjbnhholfaa
