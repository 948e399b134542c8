/- Contracts of the functions that the laws run. -/
import Derived.Test.Ytadbjlnfdjbbjaagrp
import Derived.Test.YtadbjlnfdjbbjaaEngB
namespace Go.Proofs.Ytadbjlnfdjbbjaa
open Go Go.Eng
set_option linter.unusedSimpArgs false
set_option linter.unusedVariables false
set_option maxRecDepth 10000
set_option maxHeartbeats 1000000
/-- rows of things, by a number -/
def addGQ {α : Type} : List (List Int × List α) → List Int → α → List (List Int × List α)
  | [], k, x => [(k, [x])]
  | (q, r) :: t, k, x => if k = q then (q, r ++ [x]) :: t else (q, r) :: addGQ t k x
def keysGQ {α : Type} (g : List (List Int × List α)) : List (List Int) := g.map fun p => p.1
def rowsGQ {α : Type} (enc : α → D) (g : List (List Int × List α)) : List (List D) := g.map fun p => ML enc p.2
def getGQ {α : Type} : List (List Int × List α) → List Int → List α
  | [], _ => []
  | (q, r) :: t, k => if k = q then r else getGQ t k
def grpLQ {α : Type} (key : α → List Int) (l : List α) : List (List Int × List α) := l.foldl (fun g x => addGQ g (key x) x) []
theorem getG_addGQ {α : Type} (g : List (List Int × List α)) (k k' : List Int) (x : α) : getGQ (addGQ g k x) k' = if k = k' then getGQ g k ++ [x] else getGQ g k' := by
  induction g with
  | nil => by_cases h : k = k' <;> simp [addGQ, getGQ, h]; intro h2; exact absurd h2.symm h
  | cons p t ih =>
    obtain ⟨q, r⟩ := p
    by_cases h : k = q
    · subst h
      by_cases h2 : k = k'
      · subst h2; simp [addGQ, getGQ]
      · simp [addGQ, getGQ, h2, Ne.symm h2]
    · by_cases h2 : k' = q
      · subst h2
        simp [addGQ, getGQ, h]
      · simp only [addGQ, if_neg h, getGQ, if_neg h2, ih]
theorem getG_grpQ {α : Type} (key : α → List Int) (l : List α) (k : List Int) : getGQ (grpLQ key l) k = l.filter fun x => decide (key x = k) := by
  have h : ∀ (l : List α) (g : List (List Int × List α)), getGQ (l.foldl (fun g x => addGQ g (key x) x) g) k = getGQ g k ++ l.filter fun x => decide (key x = k) := by
    intro l
    induction l with
    | nil => intro g; simp
    | cons x l ih =>
      intro g
      rw [List.foldl_cons, ih, getG_addGQ]
      by_cases hk : key x = k
      · subst hk; simp
      · simp [hk]
  have := h l []
  simpa [grpLQ, getGQ] using this
theorem posK_none_GQ {α : Type} {g : List (List Int × List α)} {k : List Int} (h : posK k (keysGQ g) = none) : getGQ g k = [] := by
  induction g with
  | nil => rfl
  | cons p t ih =>
    obtain ⟨q, r⟩ := p
    simp only [keysGQ, List.map_cons, posK, List.cons.injEq, and_true] at h
    split at h
    · cases h
    · rename_i hne
      simp only [getGQ, if_neg hne]
      exact ih (by simpa [keysGQ] using h)
theorem posK_some_GQ {α : Type} {g : List (List Int × List α)} {k : List Int} {j : Nat} (h : posK k (keysGQ g) = some j) : j < g.length ∧ g[j]?.map (·.2) = some (getGQ g k) := by
  induction g generalizing j with
  | nil => simp [keysGQ, posK] at h
  | cons p t ih =>
    obtain ⟨q, r⟩ := p
    simp only [keysGQ, List.map_cons, posK, List.cons.injEq, and_true] at h
    split at h
    · rename_i e
      simp only [Option.some.injEq] at h; subst h
      simp [getGQ, e]
    · rename_i hne
      cases hp : posK k (t.map fun p => p.1) with
      | none => rw [hp] at h; cases h
      | some i =>
        rw [hp] at h
        simp only [Option.map_some, Option.some.injEq] at h; subst h
        have := ih hp
        simp only [getGQ, if_neg hne]
        simpa using this
theorem rows_atQ {α : Type} {enc : α → D} {g : List (List Int × List α)} {k : List Int} {j : Nat} (h : posK k (keysGQ g) = some j) : (rowsGQ enc g).getD j [] = ML enc (getGQ g k) := by
  obtain ⟨h1, h2⟩ := posK_some_GQ h
  simp only [rowsGQ, List.getD, List.getElem?_map]
  cases hg : g[j]? with
  | none => rw [hg] at h2; cases h2
  | some p => rw [hg] at h2; simp only [Option.map_some, Option.some.injEq] at h2; simp [h2]
theorem rows_at2Q {α : Type} {enc : α → D} {g : List (List Int × List α)} {k : List Int} {j : Nat} (h : posK k (keysGQ g) = some j) : (rowsGQ enc g)[j]?.getD [] = ML enc (getGQ g k) := by
  have := rows_atQ (enc := enc) h
  simpa [List.getD] using this
theorem keys_addQ {α : Type} (g : List (List Int × List α)) (k : List Int) (x : α) : insK (keysGQ g) k = keysGQ (addGQ g k x) := by
  induction g with
  | nil => simp [insK, keysGQ, posK, addGQ]
  | cons p t ih =>
    obtain ⟨q, r⟩ := p
    by_cases h : k = q
    · subst h; simp [insK, keysGQ, posK, addGQ]
    · simp only [insK, keysGQ, List.map_cons, posK, List.cons.injEq, and_true, if_neg h, addGQ] at ih ⊢
      rw [← ih]
      by_cases hq : (posK k (List.map (fun p => p.1) t)).isSome = true <;> simp [hq]
theorem rows_addQ {α : Type} (enc : α → D) (g : List (List Int × List α)) (k : List Int) (x : α) (row : List D) (h : row = ML enc (getGQ g k ++ [x])) : updR (keysGQ g) (rowsGQ enc g) k row = rowsGQ enc (addGQ g k x) := by
  subst h
  induction g with
  | nil => simp [updR, keysGQ, rowsGQ, posK, addGQ, getGQ]
  | cons p t ih =>
    obtain ⟨q, r⟩ := p
    by_cases h : k = q
    · subst h; simp [updR, keysGQ, rowsGQ, posK, addGQ, getGQ]
    · simp only [updR, keysGQ, rowsGQ, List.map_cons, posK, List.cons.injEq, and_true, if_neg h, addGQ, getGQ] at ih ⊢
      rw [← ih]
      cases posK k (List.map (fun p => p.1) t) <;> simp
theorem look_GQ {α : Type} (enc : α → D) (s : Nat) (z : D) (g : List (List Int × List α)) (k : List Int) : (lookK (keysGQ g) (rowsD s z (rowsGQ enc g)) k).getD (.sl false s z []) = .sl false s z (ML enc (getGQ g k)) := by
  induction g with
  | nil => simp [lookK, keysGQ, posK, getGQ]
  | cons p t ih =>
    obtain ⟨q, r⟩ := p
    by_cases h : k = q
    · subst h; simp [lookK, keysGQ, rowsGQ, rowsD, posK, getGQ]
    · simp only [lookK, keysGQ, rowsGQ, rowsD, List.map_cons, posK, List.cons.injEq, and_true, if_neg h, getGQ] at ih ⊢
      rw [← ih]
      cases posK k (List.map (fun p => p.1) t) <;> simp
theorem grp_injQ {α : Type} {enc : α → D} (he : ∀ x y, enc x = enc y → x = y) : ∀ (g g' : List (List Int × List α)), keysGQ g = keysGQ g' → rowsGQ enc g = rowsGQ enc g' → g = g'
  | [], [], _, _ => rfl
  | [], _ :: _, h, _ => by simp [keysGQ] at h
  | _ :: _, [], h, _ => by simp [keysGQ] at h
  | (a, r) :: t, (b, q) :: u, h, h2 => by
    simp only [keysGQ, rowsGQ, List.map_cons, List.cons.injEq, and_true] at h h2
    obtain ⟨h3, h4⟩ := h
    obtain ⟨h5, h6⟩ := h2
    rw [h3, (ML_inj he).1 h5, grp_injQ he t u h4 h6]
theorem grpL_snocQ {α : Type} (key : α → List Int) (l : List α) (x : α) : grpLQ key (l ++ [x]) = addGQ (grpLQ key l) (key x) x := by simp [grpLQ]
theorem grpL_takeQ {α : Type} {key : α → List Int} {l : List α} {p : Nat} {d : α} (h : p < l.length) : grpLQ key (l.take (p + 1)) = addGQ (grpLQ key (l.take p)) (key (l[p]?.getD d)) (l[p]?.getD d) := by
  rw [take_at (d := d) h, grpL_snocQ]
@[simp] theorem grpL_nilQ {α : Type} (key : α → List Int) : grpLQ key [] = [] := rfl
@[simp] theorem keysG_nilQ {α : Type} : keysGQ ([] : List (List Int × List α)) = [] := rfl
@[simp] theorem rowsG_nilQ {α : Type} (enc : α → D) : rowsGQ enc [] = [] := rfl
theorem rows_flatQ {α : Type} {enc : α → D} (h : ∀ x, flatD (enc x) = true) (g : List (List Int × List α)) : (rowsGQ enc g).all flatDs = true := by
  simp only [rowsGQ, List.all_map, List.all_eq_true]
  intro p _
  exact ML_flat h p.2

@[simp] theorem keysG_lenQ {α : Type} (g : List (List Int × List α)) : (keysGQ g).length = g.length := by simp [keysGQ]

end Go.Proofs.Ytadbjlnfdjbbjaa
