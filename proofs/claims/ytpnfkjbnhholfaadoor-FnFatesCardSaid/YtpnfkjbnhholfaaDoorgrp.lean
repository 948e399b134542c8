/- Contracts of the functions that the laws run. -/
import Derived.Test.YtpnfkjbnhholfaaDoorTS
import Derived.Test.YtpnfkjbnhholfaaDoorEngB
namespace Go.Proofs.YtpnfkjbnhholfaaDoor
open Go Go.Eng
set_option linter.unusedSimpArgs false
set_option linter.unusedVariables false
set_option maxRecDepth 10000
set_option maxHeartbeats 1000000
/-- rows of things, by a number -/
def addG {α : Type} : List (Int × List α) → Int → α → List (Int × List α)
  | [], k, x => [(k, [x])]
  | (q, r) :: t, k, x => if k = q then (q, r ++ [x]) :: t else (q, r) :: addG t k x
def keysG {α : Type} (g : List (Int × List α)) : List (List Int) := g.map fun p => [p.1]
def rowsG {α : Type} (enc : α → D) (g : List (Int × List α)) : List (List D) := g.map fun p => ML enc p.2
def getG {α : Type} : List (Int × List α) → Int → List α
  | [], _ => []
  | (q, r) :: t, k => if k = q then r else getG t k
def grpL {α : Type} (key : α → Int) (l : List α) : List (Int × List α) := l.foldl (fun g x => addG g (key x) x) []
theorem getG_addG {α : Type} (g : List (Int × List α)) (k k' : Int) (x : α) : getG (addG g k x) k' = if k = k' then getG g k ++ [x] else getG g k' := by
  induction g with
  | nil => by_cases h : k = k' <;> simp [addG, getG, h]; intro h2; exact absurd h2.symm h
  | cons p t ih =>
    obtain ⟨q, r⟩ := p
    by_cases h : k = q
    · subst h
      by_cases h2 : k = k'
      · subst h2; simp [addG, getG]
      · simp [addG, getG, h2, Ne.symm h2]
    · by_cases h2 : k' = q
      · subst h2
        simp [addG, getG, h]
      · simp only [addG, if_neg h, getG, if_neg h2, ih]
theorem getG_grp {α : Type} (key : α → Int) (l : List α) (k : Int) : getG (grpL key l) k = l.filter fun x => decide (key x = k) := by
  have h : ∀ (l : List α) (g : List (Int × List α)), getG (l.foldl (fun g x => addG g (key x) x) g) k = getG g k ++ l.filter fun x => decide (key x = k) := by
    intro l
    induction l with
    | nil => intro g; simp
    | cons x l ih =>
      intro g
      rw [List.foldl_cons, ih, getG_addG]
      by_cases hk : key x = k
      · subst hk; simp
      · simp [hk]
  have := h l []
  simpa [grpL, getG] using this
theorem posK_none_G {α : Type} {g : List (Int × List α)} {k : Int} (h : posK [k] (keysG g) = none) : getG g k = [] := by
  induction g with
  | nil => rfl
  | cons p t ih =>
    obtain ⟨q, r⟩ := p
    simp only [keysG, List.map_cons, posK, List.cons.injEq, and_true] at h
    split at h
    · cases h
    · rename_i hne
      simp only [getG, if_neg hne]
      exact ih (by simpa [keysG] using h)
theorem posK_some_G {α : Type} {g : List (Int × List α)} {k : Int} {j : Nat} (h : posK [k] (keysG g) = some j) : j < g.length ∧ g[j]?.map (·.2) = some (getG g k) := by
  induction g generalizing j with
  | nil => simp [keysG, posK] at h
  | cons p t ih =>
    obtain ⟨q, r⟩ := p
    simp only [keysG, List.map_cons, posK, List.cons.injEq, and_true] at h
    split at h
    · rename_i e
      simp only [Option.some.injEq] at h; subst h
      simp [getG, e]
    · rename_i hne
      cases hp : posK [k] (t.map fun p => [p.1]) with
      | none => rw [hp] at h; cases h
      | some i =>
        rw [hp] at h
        simp only [Option.map_some, Option.some.injEq] at h; subst h
        have := ih hp
        simp only [getG, if_neg hne]
        simpa using this
theorem rows_at {α : Type} {enc : α → D} {g : List (Int × List α)} {k : Int} {j : Nat} (h : posK [k] (keysG g) = some j) : (rowsG enc g).getD j [] = ML enc (getG g k) := by
  obtain ⟨h1, h2⟩ := posK_some_G h
  simp only [rowsG, List.getD, List.getElem?_map]
  cases hg : g[j]? with
  | none => rw [hg] at h2; cases h2
  | some p => rw [hg] at h2; simp only [Option.map_some, Option.some.injEq] at h2; simp [h2]
theorem rows_at2 {α : Type} {enc : α → D} {g : List (Int × List α)} {k : Int} {j : Nat} (h : posK [k] (keysG g) = some j) : (rowsG enc g)[j]?.getD [] = ML enc (getG g k) := by
  have := rows_at (enc := enc) h
  simpa [List.getD] using this
theorem keys_add {α : Type} (g : List (Int × List α)) (k : Int) (x : α) : insK (keysG g) [k] = keysG (addG g k x) := by
  induction g with
  | nil => simp [insK, keysG, posK, addG]
  | cons p t ih =>
    obtain ⟨q, r⟩ := p
    by_cases h : k = q
    · subst h; simp [insK, keysG, posK, addG]
    · simp only [insK, keysG, List.map_cons, posK, List.cons.injEq, and_true, if_neg h, addG] at ih ⊢
      rw [← ih]
      by_cases hq : (posK [k] (List.map (fun p => [p.1]) t)).isSome = true <;> simp [hq]
theorem rows_add {α : Type} (enc : α → D) (g : List (Int × List α)) (k : Int) (x : α) (row : List D) (h : row = ML enc (getG g k ++ [x])) : updR (keysG g) (rowsG enc g) [k] row = rowsG enc (addG g k x) := by
  subst h
  induction g with
  | nil => simp [updR, keysG, rowsG, posK, addG, getG]
  | cons p t ih =>
    obtain ⟨q, r⟩ := p
    by_cases h : k = q
    · subst h; simp [updR, keysG, rowsG, posK, addG, getG]
    · simp only [updR, keysG, rowsG, List.map_cons, posK, List.cons.injEq, and_true, if_neg h, addG, getG] at ih ⊢
      rw [← ih]
      cases posK [k] (List.map (fun p => [p.1]) t) <;> simp
theorem look_G {α : Type} (enc : α → D) (s : Nat) (z : D) (g : List (Int × List α)) (k : Int) : (lookK (keysG g) (rowsD s z (rowsG enc g)) [k]).getD (.sl false s z []) = .sl false s z (ML enc (getG g k)) := by
  induction g with
  | nil => simp [lookK, keysG, posK, getG]
  | cons p t ih =>
    obtain ⟨q, r⟩ := p
    by_cases h : k = q
    · subst h; simp [lookK, keysG, rowsG, rowsD, posK, getG]
    · simp only [lookK, keysG, rowsG, rowsD, List.map_cons, posK, List.cons.injEq, and_true, if_neg h, getG] at ih ⊢
      rw [← ih]
      cases posK [k] (List.map (fun p => [p.1]) t) <;> simp
theorem grp_inj {α : Type} {enc : α → D} (he : ∀ x y, enc x = enc y → x = y) : ∀ (g g' : List (Int × List α)), keysG g = keysG g' → rowsG enc g = rowsG enc g' → g = g'
  | [], [], _, _ => rfl
  | [], _ :: _, h, _ => by simp [keysG] at h
  | _ :: _, [], h, _ => by simp [keysG] at h
  | (a, r) :: t, (b, q) :: u, h, h2 => by
    simp only [keysG, rowsG, List.map_cons, List.cons.injEq, and_true] at h h2
    obtain ⟨h3, h4⟩ := h
    obtain ⟨h5, h6⟩ := h2
    rw [h3, (ML_inj he).1 h5, grp_inj he t u h4 h6]
theorem rowsD_inj {s : Nat} {z : D} : ∀ (a b : List (List D)), rowsD s z a = rowsD s z b → a = b
  | [], [], _ => rfl
  | [], _ :: _, h => by simp [rowsD] at h
  | _ :: _, [], h => by simp [rowsD] at h
  | x :: t, y :: u, h => by
    simp only [rowsD, List.map_cons, List.cons.injEq, D.sl.injEq, true_and] at h
    rw [h.1, rowsD_inj t u h.2]
theorem grpL_snoc {α : Type} (key : α → Int) (l : List α) (x : α) : grpL key (l ++ [x]) = addG (grpL key l) (key x) x := by simp [grpL]
theorem grpL_take {α : Type} {key : α → Int} {l : List α} {p : Nat} {d : α} (h : p < l.length) : grpL key (l.take (p + 1)) = addG (grpL key (l.take p)) (key (l[p]?.getD d)) (l[p]?.getD d) := by
  rw [take_at (d := d) h, grpL_snoc]
@[simp] theorem grpL_nil {α : Type} (key : α → Int) : grpL key [] = [] := rfl
@[simp] theorem keysG_nil {α : Type} : keysG ([] : List (Int × List α)) = [] := rfl
@[simp] theorem rowsG_nil {α : Type} (enc : α → D) : rowsG enc [] = [] := rfl
theorem rows_flat {α : Type} {enc : α → D} (h : ∀ x, flatD (enc x) = true) (g : List (Int × List α)) : (rowsG enc g).all flatDs = true := by
  simp only [rowsG, List.all_map, List.all_eq_true]
  intro p _
  exact ML_flat h p.2

@[simp] theorem keysG_len {α : Type} (g : List (Int × List α)) : (keysG g).length = g.length := by simp [keysG]
@[simp] theorem rowsD_at {s : Nat} {z : D} (rows : List (List D)) (i : Nat) : (rowsD s z rows).getD i (.sl false s z []) = .sl false s z (rows.getD i []) := by
  simp only [rowsD, List.getD, List.getElem?_map]
  cases rows[i]? <;> rfl
@[simp] theorem rowsD_at2 {s : Nat} {z : D} (rows : List (List D)) (i : Nat) : (rowsD s z rows)[i]?.getD (.sl false s z []) = .sl false s z (rows.getD i []) := rowsD_at rows i
def rowAt {α : Type} (g : List (Int × List α)) (i : Nat) : List α := (g[i]?.map (·.2)).getD []
@[simp] theorem rowsG_at {α : Type} {enc : α → D} (g : List (Int × List α)) (i : Nat) : (rowsG enc g).getD i [] = ML enc (rowAt g i) := by
  simp only [rowsG, rowAt, List.getD, List.getElem?_map]
  cases g[i]? <;> rfl
@[simp] theorem rowsG_at2 {α : Type} {enc : α → D} (g : List (Int × List α)) (i : Nat) : (rowsG enc g)[i]?.getD [] = ML enc (rowAt g i) := rowsG_at g i
theorem rowAt_mem {α : Type} {g : List (Int × List α)} {i : Nat} (h : i < g.length) : ∃ p ∈ g, rowAt g i = p.2 := ⟨g[i], by simp, by simp [rowAt, h]⟩
theorem any_addG {α : Type} (w : α → Bool) (g : List (Int × List α)) (k : Int) (x : α) : ((addG g k x).any fun p => decide (1 < p.2.countP w)) = ((g.any fun p => decide (1 < p.2.countP w)) || (w x && decide (0 < (getG g k).countP w))) := by
  induction g with
  | nil => cases h : w x <;> simp [addG, getG, h]
  | cons p t ih =>
    obtain ⟨q, r⟩ := p
    by_cases hk : k = q
    · subst hk
      have e : decide (1 < (r ++ [x]).countP w) = (decide (1 < r.countP w) || (w x && decide (0 < r.countP w))) := by
        rw [Bool.eq_iff_iff]
        cases h : w x
        · simp [List.countP_append, List.countP_cons, h]
        · simp only [List.countP_append, List.countP_cons, List.countP_nil, h, if_true, Bool.true_and, Bool.or_eq_true, decide_eq_true_eq]; omega
      simp only [addG, if_true, List.any_cons, getG, e]
      rw [Bool.or_right_comm]
    · simp only [addG, if_neg hk, List.any_cons, getG, ih, Bool.or_assoc]
theorem seen_lt {n i : Nat} {l : List Nat} (hn : l.Nodup) (hl : ∀ x ∈ l, x < n) (hi : i < n) (h : i ∉ l) : l.length < n := by
  have h1 : (i :: l).Nodup := List.nodup_cons.2 ⟨h, hn⟩
  have h2 : i :: l ⊆ List.range n := fun x hx => by
    rcases List.mem_cons.1 hx with rfl | hx
    · simpa using hi
    · simpa using hl x hx
  have := List.Nodup.length_le_of_subset h1 h2
  simp at this; omega
theorem seen_perm {n : Nat} {l : List Nat} (hn : l.Nodup) (hl : ∀ x ∈ l, x < n) (h : ∀ i, i < n → i ∈ l) : l.Perm (List.range n) := by
  refine (List.perm_ext_iff_of_nodup hn List.nodup_range).2 fun a => ?_
  simp only [List.mem_range]
  exact ⟨hl a, h a⟩
theorem addG_len {α : Type} {n : Nat} {g : List (Int × List α)} {k : Int} {x : α} (h : ∀ p ∈ g, p.2.length ≤ n) : ∀ p ∈ addG g k x, p.2.length ≤ n + 1 := by
  induction g with
  | nil => intro p hp; simp [addG] at hp; subst hp; simp
  | cons q t ih =>
    obtain ⟨a, r⟩ := q
    intro p hp
    have h1 : r.length ≤ n := h (a, r) (by simp)
    by_cases hk : k = a
    · rw [addG, if_pos hk] at hp
      rcases List.mem_cons.1 hp with rfl | hp
      · simp; exact h1
      · have := h p (by simp [hp]); omega
    · rw [addG, if_neg hk] at hp
      rcases List.mem_cons.1 hp with rfl | hp
      · simp only; omega
      · exact ih (fun p hp => h p (by simp [hp])) p hp
theorem grp_len {α : Type} (key : α → Int) (l : List α) : ∀ p ∈ grpL key l, p.2.length ≤ l.length := by
  have h : ∀ (l : List α) (g : List (Int × List α)) (n : Nat), (∀ p ∈ g, p.2.length ≤ n) → ∀ p ∈ l.foldl (fun g x => addG g (key x) x) g, p.2.length ≤ n + l.length := by
    intro l
    induction l with
    | nil => intro g n h p hp; simpa using h p hp
    | cons x l ih =>
      intro g n h p hp
      have := ih (addG g (key x) x) (n + 1) (addG_len h) p hp
      simp; omega
  intro p hp
  have := h l [] 0 (by simp) p hp
  omega

end Go.Proofs.YtpnfkjbnhholfaaDoor
