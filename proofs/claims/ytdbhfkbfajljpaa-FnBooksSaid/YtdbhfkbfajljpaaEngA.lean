/- The engine: Go text read on data. What a function answers is told of data (integers, strings, structs, slices as rows, memory of one's own); a text's run is reckoned on data, and every run of the model follows it, in whatever order a statement is carried out. No condition of its own. -/
import Derived.Orders
import Derived.Still
import Derived.RowKit3
import Derived.Laws.Cells
import Derived.Laws.Tables
import Derived.Laws.CopyRow
import Derived.Laws.Build
import Derived.Laws.MakeOwn
import Derived.Laws.Strings
namespace Go.Eng
set_option linter.unusedVariables false
set_option linter.unusedSimpArgs false

abbrev Nm := Nat × Nat
/-- data, as the engine reads them -/
inductive D where
  | lit (v : Value)
  | any
  | agg (cs : List D)
  | tup (cs : List D)
  | sl (t : Bool) (s : Nat) (z : D) (xs : List D)
  | sx (s : Nat) (xs : List D)
  | el (d : D)
  | ptr (nm : Nm) (off : Nat)
  | elp (nm : Nm) (i off : Nat)
  | own (nm : Nm) (s o n : Nat)
  | mp (nm : Nm)
  | it (nm : Nm)
  | fm (kk : Nat) (ks : List (List Int)) (z : D) (vs : List D)
  | fn (f : Fn) (fs cs : List D)
  | iface (t : TypeId) (d : D)
  | whn (g : Bool) (d : D)
instance : Inhabited D := ⟨.any⟩

def D.isAgg : D → Bool
  | .agg _ => true
  | _ => false
def oneD : D → Bool
  | .lit v => v.oneCell'
  | .sl .. | .sx .. | .el _ | .ptr .. | .elp .. | .own .. | .mp _ | .it _ | .fm .. | .fn .. | .iface .. => true
  | _ => false
/-- a whole value: one cell, or a struct of such -/
def okD : D → Bool
  | .agg cs => cs.all oneD
  | d => oneD d
def cellsD : D → List D
  | .agg cs => cs
  | d => [d]
/-- names ↦ block, cells an element, capacity -/
abbrev Beta := Nm → Option (Option Nat × Nat × Nat)
def Beta.none : Beta := fun _ => Option.none

def Seg (c : Array Value) (off : Nat) (vs : Array Value) : Prop := ∀ j, j < vs.size → c[off + j]? = vs[j]?
/-- a map's key: a whole number (0), a string (1), a struct of whole numbers (2) -/
def kval (kk : Nat) (k : List Int) : Value :=
  match kk with
  | 0 => .int .i64 (k.headD 0)
  | 1 => .string ⟨(k.map fun n => UInt8.ofNat n.toNat).toArray⟩
  | _ => .agg (k.map (Value.int .i64)).toArray
def kform (kk : Nat) (k : List Int) : Prop :=
  match kk with
  | 0 => ∃ n, k = [n]
  | 1 => ∀ n ∈ k, 0 ≤ n ∧ n < 256
  | n + 2 => k.length = n
/-- a map's entries hold these keys, and came at different times -/
def MapOk (kk : Nat) (ks : List (List Int)) (es : Array MapEntry) (clock : Nat) : Prop :=
  es.toList.map (·.key) = ks.map (kval kk) ∧ (∀ k ∈ ks, kform kk k) ∧ ks.Nodup ∧ (∀ e ∈ es.toList, e.born < clock) ∧ (es.toList.map (·.born)).Pairwise (· < ·)

mutual
def Rep (F : Nat → Prop) (h : Array Obj) (β : Beta) : D → Value → Prop
  | .lit u, v => v = u
  | .any, _ => True
  | .agg cs, v => ∃ vs : List Value, v = .agg vs.toArray ∧ Reps F h β cs vs
  | .tup cs, v => ∃ vs : List Value, v = .tuple vs.toArray ∧ Reps F h β cs vs
  | .sl t s _ xs, v => (xs = [] ∧ ∃ a cap, v = .slice a 0 cap ∧ (t = true → cap = 0)) ∨ ∃ b off cap c e fr, v = .slice (some ⟨b, off, Option.none⟩) xs.length cap ∧ F b ∧ h[b]? = some (.cells c e fr) ∧ xs.length ≤ cap ∧
      (t = true → cap = xs.length) ∧ Repx F h Beta.none s c xs off
  | .sx s xs, v => (xs = [] ∧ ∃ a, v = .slice a 0 0) ∨ ∃ b off c e fr, v = .slice (some ⟨b, off, Option.none⟩) xs.length xs.length ∧ F b ∧ h[b]? = some (.cells c e fr) ∧ Repx F h β s c xs off
  | .el d, v => ∃ b off c e fr u, v = .pointer (some ⟨b, off, Option.none⟩) ∧ F b ∧ h[b]? = some (.cells c e fr) ∧ Rep F h β d u ∧ Seg c off u.cells
  | .ptr nm off, v => ∃ b s cap, β nm = some (some b, s, cap) ∧ v = .pointer (some ⟨b, off, Option.none⟩)
  | .elp nm i off, v => ∃ b s cap, β nm = some (some b, s, cap) ∧ v = .pointer (some ⟨b, i * s + off, Option.none⟩)
  | .own nm s o n, v => (∃ a, n = 0 ∧ v = .slice a 0 0) ∨ ∃ b cap, β nm = some (some b, s, cap) ∧ v = .slice (some ⟨b, o * s, Option.none⟩) n (cap - o) ∧ o + n ≤ cap
  | .mp nm, v => ∃ b s cap, β nm = some (some b, s, cap) ∧ v = .map (some b)
  | .it nm, v => ∃ b s cap, β nm = some (some b, s, cap) ∧ v = .pointer (some ⟨b, 0, Option.none⟩)
  | .fm kk ks _ ds, v => (ks = [] ∧ ds = [] ∧ v = .map Option.none) ∨ ∃ b es clock, v = .map (some b) ∧ F b ∧ h[b]? = some (.map es clock) ∧ MapOk kk ks es clock ∧ Reps F h Beta.none ds (es.toList.map (·.val))
  | .fn f fs cs, v => ∃ vf vc : List Value, v = .func f vf.toArray vc.toArray ∧ Reps F h β fs vf ∧ Reps F h β cs vc
  | .iface t d, v => ∃ u, v = .iface t u ∧ Rep F h β d u
  | .whn g d, v => (g = true → Rep F h β d v) ∧ (g = false → v = undef)
def Reps (F : Nat → Prop) (h : Array Obj) (β : Beta) : List D → List Value → Prop
  | [], vs => vs = []
  | d :: ds, vs => ∃ v vs', vs = v :: vs' ∧ Rep F h β d v ∧ Reps F h β ds vs'
def Repx (F : Nat → Prop) (h : Array Obj) (β : Beta) (s : Nat) (c : Array Value) : List D → Nat → Prop
  | [], _ => True
  | d :: ds, off => (∃ u, Rep F h β d u ∧ (okD d = true ∧ u.cells.size = s) ∧ Seg c off u.cells) ∧ Repx F h β s c ds (off + s)
end

mutual
theorem Rep.mono {F F' : Nat → Prop} {h h' : Array Obj} (hF : ∀ b, F b → F' b ∧ h'[b]? = h[b]?) : ∀ (d : D) {β β' : Beta} {v : Value},
    (∀ nm x, β nm = some x → β' nm = some x) → Rep F h β d v → Rep F' h' β' d v
  | .lit u, _, _, _, _, r => by simpa only [Rep] using r
  | .any, _, _, _, _, r => by simp only [Rep]
  | .agg cs, _, _, _, hb, r => by
    simp only [Rep] at r ⊢
    obtain ⟨vs, e, r⟩ := r
    exact ⟨vs, e, Reps.mono hF cs hb r⟩
  | .tup cs, _, _, _, hb, r => by
    simp only [Rep] at r ⊢
    obtain ⟨vs, e, r⟩ := r
    exact ⟨vs, e, Reps.mono hF cs hb r⟩
  | .sl t s z xs, _, _, _, hb, r => by
    simp only [Rep] at r ⊢
    rcases r with r | ⟨b, off, cap, c, e, fr, h1, h2, h3, h4, h5, h6⟩
    · exact .inl r
    · exact .inr ⟨b, off, cap, c, e, fr, h1, (hF b h2).1, (hF b h2).2.trans h3, h4, h5, Repx.mono hF xs (fun _ _ h => h) h6⟩
  | .sx s xs, _, _, _, hb, r => by
    simp only [Rep] at r ⊢
    rcases r with r | ⟨b, off, c, e, fr, h1, h2, h3, h6⟩
    · exact .inl r
    · exact .inr ⟨b, off, c, e, fr, h1, (hF b h2).1, (hF b h2).2.trans h3, Repx.mono hF xs hb h6⟩
  | .el d, _, _, _, hb, r => by
    simp only [Rep] at r ⊢
    obtain ⟨b, off, c, e, fr, u, h1, h2, h3, h4, h5⟩ := r
    exact ⟨b, off, c, e, fr, u, h1, (hF b h2).1, (hF b h2).2.trans h3, Rep.mono hF d hb h4, h5⟩
  | .ptr nm off, _, _, _, hb, r => by
    simp only [Rep] at r ⊢
    obtain ⟨b, s, cap, h1, h2⟩ := r
    exact ⟨b, s, cap, hb _ _ h1, h2⟩
  | .elp nm i off, _, _, _, hb, r => by
    simp only [Rep] at r ⊢
    obtain ⟨b, s, cap, h1, h2⟩ := r
    exact ⟨b, s, cap, hb _ _ h1, h2⟩
  | .own nm s o n, _, _, _, hb, r => by
    simp only [Rep] at r ⊢
    rcases r with r | ⟨b, cap, h1, h2⟩
    · exact .inl r
    · exact .inr ⟨b, cap, hb _ _ h1, h2⟩
  | .mp nm, _, _, _, hb, r => by
    simp only [Rep] at r ⊢
    obtain ⟨b, s, cap, h1, h2⟩ := r
    exact ⟨b, s, cap, hb _ _ h1, h2⟩
  | .it nm, _, _, _, hb, r => by
    simp only [Rep] at r ⊢
    obtain ⟨b, s, cap, h1, h2⟩ := r
    exact ⟨b, s, cap, hb _ _ h1, h2⟩
  | .fm kk ks z ds, _, _, _, hb, r => by
    simp only [Rep] at r ⊢
    rcases r with r | ⟨b, es, cl, h1, h2, h3, h4, h5⟩
    · exact .inl r
    · exact .inr ⟨b, es, cl, h1, (hF b h2).1, (hF b h2).2.trans h3, h4, Reps.mono hF ds (fun _ _ h => h) h5⟩
  | .fn f fs cs, _, _, _, hb, r => by
    simp only [Rep] at r ⊢
    obtain ⟨vf, vc, e, r1, r2⟩ := r
    exact ⟨vf, vc, e, Reps.mono hF fs hb r1, Reps.mono hF cs hb r2⟩
  | .iface t d, _, _, _, hb, r => by
    simp only [Rep] at r ⊢
    obtain ⟨u, e, r⟩ := r
    exact ⟨u, e, Rep.mono hF d hb r⟩
  | .whn g d, _, _, _, hb, r => by
    simp only [Rep] at r ⊢
    exact ⟨fun hg => Rep.mono hF d hb (r.1 hg), r.2⟩
theorem Reps.mono {F F' : Nat → Prop} {h h' : Array Obj} (hF : ∀ b, F b → F' b ∧ h'[b]? = h[b]?) : ∀ (ds : List D) {β β' : Beta} {vs : List Value},
    (∀ nm x, β nm = some x → β' nm = some x) → Reps F h β ds vs → Reps F' h' β' ds vs
  | [], _, _, _, _, r => by simpa only [Reps] using r
  | d :: ds, _, _, _, hb, r => by
    simp only [Reps] at r ⊢
    obtain ⟨v, vs', e, r1, r2⟩ := r
    exact ⟨v, vs', e, Rep.mono hF d hb r1, Reps.mono hF ds hb r2⟩
theorem Repx.mono {F F' : Nat → Prop} {h h' : Array Obj} (hF : ∀ b, F b → F' b ∧ h'[b]? = h[b]?) : ∀ (ds : List D) {β β' : Beta} {s : Nat} {c : Array Value} {off : Nat},
    (∀ nm x, β nm = some x → β' nm = some x) → Repx F h β s c ds off → Repx F' h' β' s c ds off
  | [], _, _, _, _, _, _, r => by simp only [Repx]
  | d :: ds, _, _, _, _, _, hb, r => by
    simp only [Repx] at r ⊢
    obtain ⟨⟨u, r1, r2, r3⟩, r4⟩ := r
    exact ⟨⟨u, Rep.mono hF d hb r1, r2, r3⟩, Repx.mono hF ds hb r4⟩
end

theorem Reps.length {F h β} : ∀ {ds : List D} {vs : List Value}, Reps F h β ds vs → vs.length = ds.length
  | [], _, r => by simp only [Reps] at r; simp [r]
  | d :: ds, _, r => by
    simp only [Reps] at r
    obtain ⟨v, vs', rfl, _, r2⟩ := r
    simp [Reps.length r2]

theorem Reps.get {F h β} : ∀ {ds : List D} {vs : List Value}, Reps F h β ds vs → ∀ i (hi : i < ds.length), ∃ v, vs[i]? = some v ∧ Rep F h β ds[i] v
  | [], _, r, i, hi => by simp at hi
  | d :: ds, _, r, i, hi => by
    simp only [Reps] at r
    obtain ⟨v, vs', rfl, r1, r2⟩ := r
    cases i with
    | zero => exact ⟨v, by simp, by simpa using r1⟩
    | succ i =>
      obtain ⟨u, hu, ru⟩ := Reps.get r2 i (by simpa using hi)
      exact ⟨u, by simpa using hu, by simpa using ru⟩

theorem Reps.of_get {F h β} : ∀ {ds : List D} {vs : List Value}, vs.length = ds.length → (∀ i (hi : i < ds.length), ∃ v, vs[i]? = some v ∧ Rep F h β ds[i] v) → Reps F h β ds vs
  | [], vs, hl, _ => by simp only [Reps]; simpa using hl
  | d :: ds, [], hl, _ => by simp at hl
  | d :: ds, v :: vs, hl, hg => by
    simp only [Reps]
    refine ⟨v, vs, rfl, ?_, ?_⟩
    · obtain ⟨u, hu, ru⟩ := hg 0 (by simp)
      simp at hu; subst hu; simpa using ru
    · refine Reps.of_get (by simpa using hl) fun i hi => ?_
      obtain ⟨u, hu, ru⟩ := hg (i + 1) (by simpa using hi)
      exact ⟨u, by simpa using hu, by simpa using ru⟩

theorem Reps.take_drop {F h β} {ds : List D} {vs : List Value} (r : Reps F h β ds vs) (o k : Nat) : Reps F h β ((ds.drop o).take k) ((vs.drop o).take k) := by
  have hl := r.length
  refine Reps.of_get (by simp [hl]) fun i hi => ?_
  have hi' : o + i < ds.length := by simp at hi; omega
  obtain ⟨v, hv, rv⟩ := r.get (o + i) hi'
  refine ⟨v, ?_, ?_⟩
  · have : i < k := by simp at hi; omega
    simp [List.getElem?_take, this, List.getElem?_drop, hv]
  · simpa using rv
theorem Reps.append {F h β} : ∀ {d1 d2 : List D} {v1 v2 : List Value}, Reps F h β d1 v1 → Reps F h β d2 v2 → Reps F h β (d1 ++ d2) (v1 ++ v2)
  | [], d2, v1, v2, h1, h2 => by simp only [Reps] at h1; subst h1; simpa using h2
  | d :: ds, d2, v1, v2, h1, h2 => by
    simp only [Reps] at h1
    obtain ⟨v, vs', rfl, r1, r2⟩ := h1
    simp only [List.cons_append, Reps]
    exact ⟨v, vs' ++ v2, rfl, r1, r2.append h2⟩
theorem Reps.map {F h β} {α : Type} {f : α → D} {g : α → Value} : ∀ (l : List α), (∀ x ∈ l, Rep F h β (f x) (g x)) → Reps F h β (l.map f) (l.map g)
  | [], _ => by simp only [List.map_nil, Reps]
  | x :: l, h => by simp only [List.map_cons, Reps]; exact ⟨_, _, rfl, h x (by simp), Reps.map l fun y hy => h y (by simp [hy])⟩
theorem Reps.split {F h β} : ∀ {d1 d2 : List D} {vs : List Value}, Reps F h β (d1 ++ d2) vs → ∃ v1 v2, vs = v1 ++ v2 ∧ Reps F h β d1 v1 ∧ Reps F h β d2 v2
  | [], d2, vs, h => ⟨[], vs, rfl, by simp only [Reps], by simpa using h⟩
  | d :: ds, d2, vs, h => by
    simp only [List.cons_append, Reps] at h
    obtain ⟨v, vs', rfl, r1, r2⟩ := h
    obtain ⟨v1, v2, rfl, r3, r4⟩ := Reps.split r2
    exact ⟨v :: v1, v2, rfl, by simp only [Reps]; exact ⟨v, v1, rfl, r1, r3⟩, r4⟩

theorem Repx.get {F h β} {s : Nat} {c : Array Value} : ∀ {xs : List D} {off : Nat}, Repx F h β s c xs off → ∀ i (hi : i < xs.length), ∃ u, Rep F h β xs[i] u ∧ (okD xs[i] = true ∧ u.cells.size = s) ∧ Seg c (off + i * s) u.cells
  | [], off, r, i, hi => by simp at hi
  | d :: ds, off, r, i, hi => by
    simp only [Repx] at r
    cases i with
    | zero => simpa using r.1
    | succ i =>
      obtain ⟨u, h1, h2, h3⟩ := Repx.get r.2 i (by simpa using hi)
      refine ⟨u, by simpa using h1, by simpa using h2, ?_⟩
      have : off + (i + 1) * s = off + s + i * s := by rw [Nat.add_mul]; omega
      rw [this]; exact h3
theorem Repx.of_get {F h β} {s : Nat} {c : Array Value} : ∀ {xs : List D} {off : Nat}, (∀ i (hi : i < xs.length), ∃ u, Rep F h β xs[i] u ∧ (okD xs[i] = true ∧ u.cells.size = s) ∧ Seg c (off + i * s) u.cells) → Repx F h β s c xs off
  | [], off, _ => by simp only [Repx]
  | d :: ds, off, hg => by
    simp only [Repx]
    refine ⟨by have := hg 0 (by simp); simpa only [List.getElem_cons_zero, Nat.zero_mul, Nat.add_zero] using this, Repx.of_get fun i hi => ?_⟩
    obtain ⟨u, h1, h2, h3⟩ := hg (i + 1) (by simpa using hi)
    refine ⟨u, by simpa using h1, by simpa using h2, ?_⟩
    have : off + s + i * s = off + (i + 1) * s := by rw [Nat.add_mul]; omega
    rw [this]; exact h3
theorem Repx.getD {F h β} {s : Nat} {c : Array Value} {xs : List D} {off : Nat} (r : Repx F h β s c xs off) (z : D) (i : Nat) (hi : i < xs.length) : ∃ u, Rep F h β (xs.getD i z) u ∧ (okD (xs.getD i z) = true ∧ u.cells.size = s) ∧ Seg c (off + i * s) u.cells := by
  have := r.get i hi
  simpa [List.getD, List.getElem?_eq_getElem hi] using this
theorem Repx.take_drop {F h β} {s : Nat} {c : Array Value} {xs : List D} {off : Nat} (r : Repx F h β s c xs off) (a k : Nat) : Repx F h β s c ((xs.drop a).take k) (off + a * s) := by
  refine Repx.of_get fun i hi => ?_
  have hi' : a + i < xs.length := by simp at hi; omega
  obtain ⟨u, h1, h2, h3⟩ := r.get (a + i) hi'
  refine ⟨u, by simpa using h1, by simpa using h2, ?_⟩
  have : off + a * s + i * s = off + (a + i) * s := by rw [Nat.add_mul]; omega
  rw [this]; exact h3
/-- the same elements in other cells -/
theorem Repx.cells {F h β} {s : Nat} {c c' : Array Value} {xs : List D} {off off' : Nat} (r : Repx F h β s c xs off) (hc : ∀ j, j < xs.length * s → c'[off' + j]? = c[off + j]?) : Repx F h β s c' xs off' := by
  refine Repx.of_get fun i hi => ?_
  obtain ⟨u, h1, h2, h3⟩ := r.get i hi
  refine ⟨u, h1, h2, fun j hj => ?_⟩
  have h4 : i * s + j < xs.length * s := by
    have : (i + 1) * s ≤ xs.length * s := Nat.mul_le_mul_right _ hi
    rw [Nat.add_mul] at this; omega
  have := hc (i * s + j) h4
  rw [Nat.add_assoc, this, ← Nat.add_assoc]
  exact h3 j hj
theorem Repx.append {F h β} {s : Nat} {c : Array Value} {xs ys : List D} {off : Nat} (r : Repx F h β s c xs off) (r2 : Repx F h β s c ys (off + xs.length * s)) : Repx F h β s c (xs ++ ys) off := by
  refine Repx.of_get fun i hi => ?_
  by_cases hlt : i < xs.length
  · obtain ⟨u, h1, h2, h3⟩ := r.get i hlt
    exact ⟨u, by rw [List.getElem_append_left hlt]; exact h1, by rw [List.getElem_append_left hlt]; exact h2, h3⟩
  · have hi' : i - xs.length < ys.length := by simp at hi; omega
    obtain ⟨u, h1, h2, h3⟩ := r2.get (i - xs.length) hi'
    refine ⟨u, by rw [List.getElem_append_right (by omega)]; exact h1, by rw [List.getElem_append_right (by omega)]; exact h2, ?_⟩
    have : off + xs.length * s + (i - xs.length) * s = off + i * s := by
      rw [Nat.add_assoc, ← Nat.add_mul]; congr 2; omega
    rw [this] at h3; exact h3
/-- the cells of a row -/
theorem Repx.size {F h β} {s : Nat} {c : Array Value} {xs : List D} {off : Nat} (r : Repx F h β s c xs off) (hs : 0 < s) (hx : xs ≠ []) : off + xs.length * s ≤ c.size := by
  have hpos : 0 < xs.length := List.length_pos_iff.2 hx
  obtain ⟨u, h1, h2, h3⟩ := r.get (xs.length - 1) (by omega)
  have h2 := h2.2
  have := h3 (s - 1) (by omega)
  have hu : u.cells[s - 1]? = some (u.cells[s - 1]'(by omega)) := Array.getElem?_eq_getElem _
  rw [hu] at this
  have hlt := (Array.getElem?_eq_some_iff.1 this).1
  have e : xs.length * s = (xs.length - 1) * s + s := by
    have : xs.length = xs.length - 1 + 1 := by omega
    rw [this, Nat.add_mul]; simp
  omega

mutual
/-- it names nothing -/
def pureD : D → Bool
  | .ptr .. | .elp .. | .own .. | .mp .. | .it .. => false
  | .agg cs => puresD cs
  | .tup cs => puresD cs
  | .sx _ xs => puresD xs
  | .fn _ fs cs => puresD fs && puresD cs
  | .iface _ d => pureD d
  | .whn _ d => pureD d
  | .el d => pureD d
  | .lit _ | .any | .sl .. | .fm .. => true
def puresD : List D → Bool
  | [] => true
  | d :: ds => pureD d && puresD ds
end
mutual
theorem Rep.rebeta {F : Nat → Prop} {h : Array Obj} {β β' : Beta} : ∀ (d : D) {v : Value}, pureD d = true → Rep F h β d v → Rep F h β' d v
  | .lit u, _, _, r => by simpa only [Rep] using r
  | .any, _, _, r => by simp only [Rep]
  | .agg cs, _, p, r => by
    simp only [Rep, pureD] at r p ⊢
    obtain ⟨vs, e, r⟩ := r
    exact ⟨vs, e, Reps.rebeta cs p r⟩
  | .tup cs, _, p, r => by
    simp only [Rep, pureD] at r p ⊢
    obtain ⟨vs, e, r⟩ := r
    exact ⟨vs, e, Reps.rebeta cs p r⟩
  | .sl .., _, _, r => by simpa only [Rep] using r
  | .sx s xs, _, p, r => by
    simp only [Rep, pureD] at r p ⊢
    rcases r with r | ⟨b, off, c, e, fr, h1, h2, h3, h6⟩
    · exact .inl r
    · exact .inr ⟨b, off, c, e, fr, h1, h2, h3, Repx.rebeta xs p h6⟩
  | .el d, _, p, r => by
    simp only [Rep, pureD] at r p ⊢
    obtain ⟨b, off, c, e, fr, u, h1, h2, h3, h4, h5⟩ := r
    exact ⟨b, off, c, e, fr, u, h1, h2, h3, Rep.rebeta d p h4, h5⟩
  | .fm .., _, _, r => by simpa only [Rep] using r
  | .ptr .., _, p, _ => by simp [pureD] at p
  | .elp .., _, p, _ => by simp [pureD] at p
  | .own .., _, p, _ => by simp [pureD] at p
  | .mp .., _, p, _ => by simp [pureD] at p
  | .it .., _, p, _ => by simp [pureD] at p
  | .fn f fs cs, _, p, r => by
    simp only [Rep, pureD, Bool.and_eq_true] at r p ⊢
    obtain ⟨vf, vc, e, r1, r2⟩ := r
    exact ⟨vf, vc, e, Reps.rebeta fs p.1 r1, Reps.rebeta cs p.2 r2⟩
  | .iface t d, _, p, r => by
    simp only [Rep, pureD] at r p ⊢
    obtain ⟨u, e, r⟩ := r
    exact ⟨u, e, Rep.rebeta d p r⟩
  | .whn g d, _, p, r => by
    simp only [Rep, pureD] at r p ⊢
    exact ⟨fun hg => Rep.rebeta d p (r.1 hg), r.2⟩
theorem Reps.rebeta {F : Nat → Prop} {h : Array Obj} {β β' : Beta} : ∀ (ds : List D) {vs : List Value}, puresD ds = true → Reps F h β ds vs → Reps F h β' ds vs
  | [], _, _, r => by simpa only [Reps] using r
  | d :: ds, _, p, r => by
    simp only [Reps, puresD, Bool.and_eq_true] at r p ⊢
    obtain ⟨v, vs', e, r1, r2⟩ := r
    exact ⟨v, vs', e, Rep.rebeta d p.1 r1, Reps.rebeta ds p.2 r2⟩
theorem Repx.rebeta {F : Nat → Prop} {h : Array Obj} {β β' : Beta} : ∀ (ds : List D) {s : Nat} {c : Array Value} {off : Nat}, puresD ds = true → Repx F h β s c ds off → Repx F h β' s c ds off
  | [], _, _, _, _, r => by simp only [Repx]
  | d :: ds, _, _, _, p, r => by
    simp only [Repx, puresD, Bool.and_eq_true] at r p ⊢
    obtain ⟨⟨u, r1, r2, r3⟩, r4⟩ := r
    exact ⟨⟨u, Rep.rebeta d p.1 r1, r2, r3⟩, Repx.rebeta ds p.2 r4⟩
end
end Go.Eng
namespace Go.Eng
set_option linter.unusedVariables false
set_option linter.unusedSimpArgs false

/-! ### what is known of a type -/
inductive TK where
  | bool | int (k : IntKind) | str | slice (e : TypeId) | st (fs : List (Nat × TypeId)) | arr (n : Nat) (e : TypeId) | map (k e : TypeId) | ptr (e : TypeId) | func | iface | other
structure TI where
  size : Nat
  bytes : Nat
  zero : Value
  z : D
  y : D
  kind : TK
  cmp : Bool
def TK.isNil : TK → Nat → Bool
  | .ptr _, n => n == 1
  | .func, n => n == 2
  | .iface, n => n == 3
  | _, _ => false
/-- two values of whole numbers are compared cell by cell -/
def EqInts (P : Program) (t : TypeId) (n : Nat) : Prop := (∀ as bs : List Int, as.length = n → bs.length = n → P.eqGuardType P.depth t = false ∧ ∀ w : World, (Op.equal t (.agg (as.map (Value.int .i64)).toArray) (.agg (bs.map (Value.int .i64)).toArray)).run P w = .ok (as == bs) w) ∧
  ∀ (as : List Int) (e : Bool) (w : World), as.length = n → (Instr.checkKey e 10000 t (.agg (as.map (Value.int .i64)).toArray)).run P w = .ok () w
def TK.isAgg : TK → Bool
  | .st _ => true
  | .arr .. => true
  | _ => false
def TK.ok (P : Program) (t : TypeId) : TK → Prop
  | .bool => P.underlying t = some .bool
  | .int k => P.underlying t = some (.int k)
  | .str => P.underlying t = some .string
  | .slice e => P.underlying t = some (.slice e)
  | .st fs => ∃ a, P.underlying t = some (.struct a) ∧ a.toList.map (fun f => (f.offset, f.type)) = fs
  | .arr n e => P.underlying t = some (.array n e)
  | .map k e => P.underlying t = some (.map k e)
  | .ptr e => P.underlying t = some (.pointer e)
  | .func => ∃ a b c, P.underlying t = some (.func a b c)
  | .iface => ∃ ms, P.underlying t = some (.interface ms)
  | .other => ∃ d, P.underlying t = some d ∧ (match d with | .struct _ | .array _ _ | .bool | .int _ | .string | .slice _ | .map .. | .pointer _ | .func .. | .interface _ => false | _ => true) = true
structure TI.ok (P : Program) (t : TypeId) (x : TI) : Prop where
  size : (P.info? t).map (·.size) = some x.size
  bytes : (P.info? t).map (·.bytes) = some x.bytes
  zero : (P.info? t).bind (·.zero) = some x.zero
  kind : x.kind.ok P t
  cmp : x.cmp = true → EqInts P t x.size
  zok : okD x.z = true ∧ pureD x.z = true ∧ (cellsD x.z).length = x.size ∧ x.z.isAgg = x.kind.isAgg ∧ ∀ F h β, Rep F h β x.z x.zero
abbrev Ctx := List (TypeId × TI)
def Ctx.get : Ctx → TypeId → Option TI
  | [], _ => none
  | (k, x) :: r, t => if k = t then some x else Ctx.get r t
def Ctx.ok (P : Program) (Γ : Ctx) : Prop := ∀ p ∈ Γ, p.2.ok P p.1
theorem Ctx.get_ok {P : Program} : ∀ {Γ : Ctx} (h : Γ.ok P) {t x}, Γ.get t = some x → x.ok P t
  | [], _, _, _, h => by simp [Ctx.get] at h
  | (k, y) :: r, hΓ, t, x, h => by
    simp only [Ctx.get] at h
    split at h
    · rename_i e; cases h; subst e; exact hΓ (k, y) (by simp)
    · exact Ctx.get_ok (Γ := r) (fun p hp => hΓ p (by simp [hp])) h

section
variable {P : Program} {w : World} {t : TypeId} {x : TI}
theorem TI.ok.run_size (h : x.ok P t) : (sizeOf t).run P w = .ok x.size w := by
  have := h.size
  cases hi : P.info? t with
  | none => simp [hi] at this
  | some i => simp [hi] at this; simp [Go.sizeOf, typeInfo, hi, this]
theorem TI.ok.run_zero (h : x.ok P t) : (zeroValue t).run P w = .ok x.zero w := by
  have := h.zero
  cases hi : P.info? t with
  | none => simp [hi] at this
  | some i => simp [hi] at this; simp [zeroValue, typeInfo, hi, this]
theorem TI.ok.run_info (h : x.ok P t) : ∃ i, (typeInfo t).run P w = .ok i w ∧ i.bytes = x.bytes ∧ i.size = x.size := by
  have h1 := h.size
  have h2 := h.bytes
  cases hi : P.info? t with
  | none => simp [hi] at h1
  | some i => simp [hi] at h1 h2; exact ⟨i, by simp [typeInfo, hi], h2, h1⟩
theorem TI.ok.info (h : x.ok P t) : ∃ i, P.info? t = some i ∧ i.bytes = x.bytes ∧ i.size = x.size ∧ i.zero = some x.zero := by
  have h1 := h.size
  have h2 := h.bytes
  have h3 := h.zero
  cases hi : P.info? t with
  | none => simp [hi] at h1
  | some i => simp [hi] at h1 h2 h3; exact ⟨i, rfl, h2, h1, h3⟩
theorem run_und {d : TypeDesc} (h : P.underlying t = some d) : (underlying t).run P w = .ok d w := by
  simp [underlying, h]
theorem TI.ok.run_isAgg (h : x.ok P t) : (isAgg t).run P w = .ok x.kind.isAgg w := by
  have hk := h.kind
  cases hx : x.kind <;> simp only [hx, TK.ok] at hk
  case bool => simp [isAgg, run_und hk, TK.isAgg]
  case int => simp [isAgg, run_und hk, TK.isAgg]
  case str => simp [isAgg, run_und hk, TK.isAgg]
  case slice => simp [isAgg, run_und hk, TK.isAgg]
  case arr => simp [isAgg, run_und hk, TK.isAgg]
  case map => simp [isAgg, run_und hk, TK.isAgg]
  case ptr => simp [isAgg, run_und hk, TK.isAgg]
  case func => obtain ⟨_, _, _, hk⟩ := hk; simp [isAgg, run_und hk, TK.isAgg]
  case iface => obtain ⟨_, hk⟩ := hk; simp [isAgg, run_und hk, TK.isAgg]
  case st => obtain ⟨a, ha, _⟩ := hk; simp [isAgg, run_und ha, TK.isAgg]
  case other =>
    obtain ⟨d, hd, hk⟩ := hk
    simp only [isAgg, Sem.run_bind, run_und hd, Result.andThen_ok]
    cases d <;> simp_all [TK.isAgg]
end

/-! ### own objects, states -/
inductive OO where
  | box (d : D)
  | arr (p : Bool) (s : Nat) (z : D) (xs : List D)
  | map (kk : Nat) (ks : List (List Int)) (z : D) (vs : List D)
  | rmap (kk : Nat) (ks : List (List Int)) (s : Nat) (z : D) (rows : List (List D)) (hole : Option Nat)
  | sit (s : ByteArray) (pos : Nat)
  | mit (kk : Nat) (ks : List (List Int)) (z : D) (vs : List D) (seen : List Nat)
  | dead
abbrev Tab := Nm → Option OO
def Tab.get (T : Tab) (nm : Nm) : Option OO := T nm
def Tab.nil : Tab := fun _ => none
def Tab.set (T : Tab) (nm : Nm) (o : OO) : Tab := fun n => if nm = n then some o else T n
theorem Tab.get_set (T : Tab) (nm nm' : Nm) (o : OO) : (T.set nm o).get nm' = if nm = nm' then some o else T.get nm' := rfl
def Tab.of : List (Nm × OO) → Tab
  | [] => Tab.nil
  | (n, o) :: r => (Tab.of r).set n o
abbrev Ts := Nat → D
def tget (ts : Ts) (t : Nat) : D := ts t
def Ts.nil : Ts := fun _ => .any
def Ts.up (ts : Ts) (t : Nat) (d : D) : Ts := fun u => if t = u then d else ts u
def Ts.of : List (Nat × D) → Ts
  | [] => Ts.nil
  | (t, d) :: r => (Ts.of r).up t d
structure S where
  ts : Ts
  tab : Tab
  gen : Nat
def S.put (σ : S) (dst : Option Tmp) (d : D) : S :=
  match dst with
  | some t => { σ with ts := σ.ts.up t d }
  | none => σ

theorem oneD_oneCell {F h β} : ∀ {d : D} {v : Value}, oneD d = true → Rep F h β d v → v.oneCell' = true
  | .lit u, v, h, r => by simp only [Rep] at r; subst r; exact h
  | .sl .., v, h, r => by
    simp only [Rep] at r
    rcases r with ⟨_, _, _, rfl, _⟩ | ⟨_, _, _, _, _, _, rfl, _⟩ <;> rfl
  | .sx .., v, h, r => by
    simp only [Rep] at r
    rcases r with ⟨_, _, rfl⟩ | ⟨_, _, _, _, _, rfl, _⟩ <;> rfl
  | .el _, v, h, r => by simp only [Rep] at r; obtain ⟨_, _, _, _, _, _, rfl, _⟩ := r; rfl
  | .ptr .., v, h, r => by simp only [Rep] at r; obtain ⟨_, _, _, _, rfl⟩ := r; rfl
  | .elp .., v, h, r => by simp only [Rep] at r; obtain ⟨_, _, _, _, rfl⟩ := r; rfl
  | .own .., v, h, r => by simp only [Rep] at r; rcases r with ⟨_, _, rfl⟩ | ⟨_, _, _, rfl, _⟩ <;> rfl
  | .mp _, v, h, r => by simp only [Rep] at r; obtain ⟨_, _, _, _, rfl⟩ := r; rfl
  | .it _, v, h, r => by simp only [Rep] at r; obtain ⟨_, _, _, _, rfl⟩ := r; rfl
  | .fm .., v, h, r => by simp only [Rep] at r; rcases r with ⟨_, _, rfl⟩ | ⟨_, _, _, rfl, _⟩ <;> rfl
  | .fn .., v, h, r => by simp only [Rep] at r; obtain ⟨_, _, rfl, _⟩ := r; rfl
  | .iface .., v, h, r => by simp only [Rep] at r; obtain ⟨_, rfl, _⟩ := r; rfl
  | .any, _, h, _ | .agg _, _, h, _ | .tup _, _, h, _ | .whn .., _, h, _ => by simp [oneD] at h
theorem cells_of_one {v : Value} (h : v.oneCell' = true) : v.cells = #[v] := by
  cases v <;> first | rfl | simp [Value.oneCell'] at h
theorem Rep.cells {F h β} {d : D} {v : Value} (hd : okD d = true) (r : Rep F h β d v) : Reps F h β (cellsD d) v.cells.toList := by
  by_cases ha : ∃ cs, d = .agg cs
  · obtain ⟨cs, rfl⟩ := ha
    simp only [Rep] at r
    obtain ⟨vs, rfl, r⟩ := r
    simpa [Value.cells, cellsD] using r
  · have h1 : oneD d = true := by cases d <;> first | exact hd | exact absurd ⟨_, rfl⟩ ha
    have : cellsD d = [d] := by cases d <;> first | rfl | exact absurd ⟨_, rfl⟩ ha
    rw [this, cells_of_one (oneD_oneCell h1 r)]
    simp only [Reps]
    exact ⟨v, [], rfl, r, rfl⟩
theorem Reps.all_one {F h β} : ∀ {ds : List D} {vs : List Value}, ds.all oneD = true → Reps F h β ds vs → ∀ v ∈ vs, v.oneCell' = true
  | [], vs, _, r => by simp only [Reps] at r; simp [r]
  | d :: ds, vs, h, r => by
    simp only [Reps] at r
    obtain ⟨v, vs', rfl, r1, r2⟩ := r
    simp only [List.all_cons, Bool.and_eq_true] at h
    intro u hu
    rcases List.mem_cons.1 hu with rfl | hu
    · exact oneD_oneCell h.1 r1
    · exact Reps.all_one h.2 r2 u hu
theorem Rep.ones {F h β} {d : D} {v : Value} (hd : okD d = true) (r : Rep F h β d v) : ∀ u ∈ v.cells.toList, u.oneCell' = true := by
  refine Reps.all_one (ds := cellsD d) ?_ (r.cells hd)
  cases d <;> simp_all [cellsD, okD, oneD]
/-- the value whose cells they are -/
theorem Rep.of_cells {F h β} {d : D} {v : Value} (hd : okD d = true) (ha : d.isAgg = true → ∃ vs, v = .agg vs) (hn : d.isAgg = false → v.oneCell' = true) (r : Reps F h β (cellsD d) v.cells.toList) : Rep F h β d v := by
  by_cases hag : ∃ cs, d = .agg cs
  · obtain ⟨cs, rfl⟩ := hag
    obtain ⟨vs, rfl⟩ := ha rfl
    simp only [Rep]
    exact ⟨vs.toList, by simp, by simpa [Value.cells, cellsD] using r⟩
  · have h1 : d.isAgg = false := by cases d <;> first | rfl | exact absurd ⟨_, rfl⟩ hag
    have : cellsD d = [d] := by cases d <;> first | rfl | exact absurd ⟨_, rfl⟩ hag
    rw [this, cells_of_one (hn h1)] at r
    simp only [Reps] at r
    obtain ⟨v', vs', e, r1, r2⟩ := r
    simp at e
    rw [e.1]; exact r1

def fp (β : Beta) (γ : Nm → Nat → Prop) (nm : Nm) (x : Nat) : Prop := (∃ s cap, β nm = some (some x, s, cap)) ∨ γ nm x
/-- a row of one's own, as a map's value; 'bo' is its block -/
def RowOK (F : Nat → Prop) (h : Array Obj) (G : Nat → Prop) (s : Nat) (row : List D) (bo : Option Nat) (v : Value) : Prop :=
  (bo = none ∧ row = [] ∧ ∃ a, v = .slice a 0 0) ∨ ∃ x cap c e, bo = some x ∧ v = .slice (some ⟨x, 0, Option.none⟩) row.length cap ∧ G x ∧ h[x]? = some (.cells c e (0, 0)) ∧ c.size = cap * s ∧ row.length ≤ cap ∧ Repx F h Beta.none s c row 0
/-- rows, each in a block of its own, but for the one that is taken out -/
def RowsOK (F : Nat → Prop) (h : Array Obj) (G : Nat → Prop) (s : Nat) (rows : List (List D)) (hole : Option Nat) (bl : Nat → Option Nat) (vals : List Value) : Prop :=
  vals.length = rows.length ∧ (∀ j row, rows[j]? = some row → hole ≠ some j → ∃ v, vals[j]? = some v ∧ RowOK F h G s row (bl j) v) ∧
  (∀ i j x, i < rows.length → j < rows.length → hole ≠ some i → hole ≠ some j → bl i = some x → bl j = some x → i = j)
theorem RowOK.mono {F F' : Nat → Prop} {h h' : Array Obj} {G G' : Nat → Prop} {s : Nat} {row : List D} {bo : Option Nat} {v : Value} (hF : ∀ b, F b → F' b ∧ h'[b]? = h[b]?) (hG : ∀ x, bo = some x → G x → G' x ∧ h'[x]? = h[x]?) (r : RowOK F h G s row bo v) : RowOK F' h' G' s row bo v := by
  rcases r with r | ⟨x, cap, c, e, h1, h2, h3, h4, h5, h6, h7⟩
  · exact .inl r
  · exact .inr ⟨x, cap, c, e, h1, h2, (hG x h1 h3).1, (hG x h1 h3).2.trans h4, h5, h6, Repx.mono hF row (fun _ _ h => h) h7⟩
theorem RowsOK.mono {F F' : Nat → Prop} {h h' : Array Obj} {G G' : Nat → Prop} {s : Nat} {rows : List (List D)} {hole : Option Nat} {bl : Nat → Option Nat} {vals : List Value} (hF : ∀ b, F b → F' b ∧ h'[b]? = h[b]?) (hG : ∀ x, G x → G' x ∧ h'[x]? = h[x]?) (r : RowsOK F h G s rows hole bl vals) : RowsOK F' h' G' s rows hole bl vals := by
  refine ⟨r.1, fun j row hj hh => ?_, r.2.2⟩
  obtain ⟨v, hv, hr⟩ := r.2.1 j row hj hh
  exact ⟨v, hv, hr.mono hF fun x _ hg => hG x hg⟩
/-- the rows of a map, as frozen slices -/
def rowsD (s : Nat) (z : D) (rows : List (List D)) : List D := rows.map fun r => .sl false s z r
theorem RowsOK.reps {F F' : Nat → Prop} {h : Array Obj} {G : Nat → Prop} {s : Nat} {z : D} {rows : List (List D)} {bl : Nat → Option Nat} {vals : List Value} (hF : ∀ b, F b → F' b) (hG : ∀ x, G x → F' x) (r : RowsOK F h G s rows Option.none bl vals) : Reps F' h Beta.none (rowsD s z rows) vals := by
  refine Reps.of_get (by simp [rowsD, r.1]) fun i hi => ?_
  have hi' : i < rows.length := by simpa [rowsD] using hi
  obtain ⟨v, hv, hr⟩ := r.2.1 i rows[i] (by simp [hi']) (by simp)
  refine ⟨v, hv, ?_⟩
  simp only [rowsD, List.getElem_map, Rep]
  rcases hr with ⟨_, h2, a, h3⟩ | ⟨x, cap, c, e, _, h2, h3, h4, h5, h6, h7⟩
  · exact .inl ⟨h2, a, 0, h3, (fun h => by cases h)⟩
  · exact .inr ⟨x, 0, cap, c, e, (0, 0), h2, hG x h3, h4, h6, (fun h => by cases h), Repx.mono (fun b hb => ⟨hF b hb, rfl⟩) _ (fun _ _ h => h) h7⟩
/-- a cell of a row that holds rows of its own: such a row in a block of its own, one that is taken out, or a plain value -/
def CellK (h : Array Obj) (G : Nat → Prop) (d : D) (bo : Option Nat) (v : Value) : Prop :=
  match d with
  | .sl _ s _ ys => RowOK (fun _ => False) h G s ys bo v
  | .any => bo = none ∧ v.oneCell' = true
  | d => bo = none ∧ oneD d = true ∧ Rep (fun _ => False) h Beta.none d v
/-- a row whose elements hold rows of its own, each in a block of its own -/
def DeepOK (h : Array Obj) (G : Nat → Prop) (s : Nat) (c : Array Value) (xs : List D) : Prop :=
  ∃ bl : Nat → Option Nat, (∀ i x, xs[i]? = some x → (cellsD x).length = s ∧ ∀ j d, (cellsD x)[j]? = some d → ∃ v, c[i * s + j]? = some v ∧ CellK h G d (bl (i * s + j)) v) ∧ (∀ q q' y, bl q = some y → bl q' = some y → q = q') ∧ ∀ q y, bl q = some y → G y
def RowP (p : Bool) (F : Nat → Prop) (h : Array Obj) (G : Nat → Prop) (s : Nat) (c : Array Value) (xs : List D) : Prop :=
  match p with
  | true => DeepOK h G s c xs
  | false => Repx F h Beta.none s c xs 0
@[simp] theorem RowP_false {F : Nat → Prop} {h : Array Obj} {G : Nat → Prop} {s : Nat} {c : Array Value} {xs : List D} : RowP false F h G s c xs = Repx F h Beta.none s c xs 0 := rfl
@[simp] theorem RowP_true {F : Nat → Prop} {h : Array Obj} {G : Nat → Prop} {s : Nat} {c : Array Value} {xs : List D} : RowP true F h G s c xs = DeepOK h G s c xs := rfl
theorem CellK.mono {h h' : Array Obj} {G G' : Nat → Prop} {d : D} {bo : Option Nat} {v : Value} (hG : ∀ x, bo = some x → G x → G' x ∧ h'[x]? = h[x]?) (r : CellK h G d bo v) : CellK h' G' d bo v := by
  unfold CellK at r ⊢
  split
  · exact RowOK.mono (fun b hb => hb.elim) hG r
  · exact r
  · rename_i d' h1 h2
    split at r
    · exact absurd rfl (h1 _ _ _ _)
    · exact absurd rfl h2
    · exact ⟨r.1, r.2.1, Rep.mono (fun b hb => hb.elim) _ (fun _ _ h => h) r.2.2⟩
theorem DeepOK.mono {h h' : Array Obj} {G G' : Nat → Prop} {s : Nat} {c : Array Value} {xs : List D} (hG : ∀ x, G x → G' x ∧ h'[x]? = h[x]?) (r : DeepOK h G s c xs) : DeepOK h' G' s c xs := by
  obtain ⟨bl, h1, h2, h3⟩ := r
  refine ⟨bl, fun i x hx => ⟨(h1 i x hx).1, fun j d hd => ?_⟩, h2, fun q y hy => (hG y (h3 q y hy)).1⟩
  obtain ⟨v, hv, hk⟩ := (h1 i x hx).2 j d hd
  exact ⟨v, hv, hk.mono fun x _ hg => hG x hg⟩
theorem CellK.one {h : Array Obj} {G : Nat → Prop} {d : D} {bo : Option Nat} {v : Value} (r : CellK h G d bo v) : v.oneCell' = true := by
  unfold CellK at r
  split at r
  · rcases r with ⟨_, _, a, rfl⟩ | ⟨x, cap, c, e, _, rfl, _⟩ <;> rfl
  · exact r.2
  · exact oneD_oneCell r.2.1 r.2.2
theorem CellK.rep {h : Array Obj} {G : Nat → Prop} {d : D} {bo : Option Nat} {v : Value} (hd : oneD d = true) (r : CellK h G d bo v) : Rep G h Beta.none d v ∨ ∃ s z ys, d = .sl true s z ys ∧ Rep G h Beta.none (.sl false s z ys) v := by
  unfold CellK at r
  split at r
  · rename_i t s z ys
    have key : Rep G h Beta.none (.sl false s z ys) v := by
      simp only [Rep]
      rcases r with ⟨_, h2, a, h3⟩ | ⟨x, cap, c, e, _, h2, h3, h4, h5, h6, h7⟩
      · exact .inl ⟨h2, a, 0, h3, (fun h => by cases h)⟩
      · exact .inr ⟨x, 0, cap, c, e, (0, 0), h2, h3, h4, h6, (fun h => by cases h), Repx.mono (fun b hb => hb.elim) _ (fun _ _ h => h) h7⟩
    cases t with
    | false => exact .inl key
    | true => exact .inr ⟨s, z, ys, rfl, key⟩
  · simp [oneD] at hd
  · exact .inl (Rep.mono (fun b hb => hb.elim) _ (fun _ _ h => h) r.2.2)
/-- no slice that is known to be nil -/
def softD : D → Bool
  | .sl t _ _ _ => !t
  | _ => true
def okS (x : D) : Bool := (cellsD x).all fun d => oneD d && softD d
theorem DeepOK.repx {h : Array Obj} {G : Nat → Prop} {s : Nat} {c : Array Value} {xs : List D} (hok : xs.all okS = true) (r : DeepOK h G s c xs) : Repx G h Beta.none s c xs 0 := by
  obtain ⟨bl, h1, _⟩ := r
  refine Repx.of_get fun i hi => ?_
  have hx : xs[i]? = some xs[i] := by simp [hi]
  obtain ⟨hl, hc⟩ := h1 i _ hx
  have hs : okS xs[i] = true := List.all_eq_true.1 hok _ (List.getElem_mem hi)
  generalize xs[i] = x at *
  have hcell : ∀ j d, (cellsD x)[j]? = some d → ∃ v, c[i * s + j]? = some v ∧ oneD d = true ∧ Rep G h Beta.none d v := fun j d hd => by
    obtain ⟨v, hv, hk⟩ := hc j d hd
    have hm := List.all_eq_true.1 hs d (List.mem_of_getElem? hd)
    simp only [Bool.and_eq_true] at hm
    refine ⟨v, hv, hm.1, ?_⟩
    rcases hk.rep hm.1 with h | ⟨s', z', ys, rfl, _⟩
    · exact h
    · simp [softD] at hm
  by_cases ha : ∃ cs, x = .agg cs
  · obtain ⟨cs, rfl⟩ := ha
    simp only [cellsD] at hl hcell
    let vs : List Value := (List.range cs.length).map fun j => c.getD (i * s + j) undef
    have hvl : vs.length = cs.length := by simp [vs]
    have hvj : ∀ j (hj : j < cs.length), ∃ v, c[i * s + j]? = some v ∧ vs[j]? = some v ∧ oneD cs[j] = true ∧ Rep G h Beta.none cs[j] v := fun j hj => by
      obtain ⟨v, hv, ho, hr⟩ := hcell j cs[j] (by simp [hj])
      refine ⟨v, hv, ?_, ho, hr⟩
      simp [vs, hj, Array.getD_eq_getD_getElem?, hv]
    refine ⟨.agg vs.toArray, ?_, ⟨?_, ?_⟩, fun j hj => ?_⟩
    · simp only [Rep]
      refine ⟨vs, rfl, Reps.of_get hvl fun j hj => ?_⟩
      obtain ⟨v, _, h2, _, h3⟩ := hvj j hj
      exact ⟨v, h2, h3⟩
    · simp only [okD, List.all_eq_true]
      intro d hd
      obtain ⟨j, hj, rfl⟩ := List.mem_iff_getElem.1 hd
      exact (hvj j hj).choose_spec.2.2.1
    · simp [Value.cells, hvl, hl]
    · have hj' : j < cs.length := by simpa [Value.cells, hvl] using hj
      obtain ⟨v, h1, h2, _⟩ := hvj j hj'
      rw [Nat.zero_add, h1]
      simpa [Value.cells] using h2.symm
  · have hcx : cellsD x = [x] := by cases x <;> first | rfl | exact absurd ⟨_, rfl⟩ ha
    rw [hcx] at hl hcell
    obtain ⟨v, hv, ho, hr⟩ := hcell 0 x rfl
    have hone := oneD_oneCell ho hr
    refine ⟨v, hr, ⟨?_, ?_⟩, fun j hj => ?_⟩
    · cases x <;> first | exact ho | exact absurd ⟨_, rfl⟩ ha
    · rw [cells_of_one hone]; exact hl
    · rw [cells_of_one hone] at hj ⊢
      have hj0 : j = 0 := by simpa using hj
      subst hj0
      simpa using hv
def OwnOK (F : Nat → Prop) (h : Array Obj) (β : Beta) (G : Nat → Prop) (nm : Nm) : OO → Prop
  | .dead => True
  | .box d => ∃ b s cap e v, β nm = some (some b, s, cap) ∧ h[b]? = some (.cells v.cells e (0, 0)) ∧ okD d = true ∧ Rep F h β d v
  | .arr p s z xs => ∃ bo cap, β nm = some (bo, s, cap) ∧ (bo = none → xs = [] ∧ cap = 0) ∧ ∀ b, bo = some b → ¬ G b ∧ ∃ c e, h[b]? = some (.cells c e (0, 0)) ∧ c.size = cap * s ∧ xs.length ≤ cap ∧ RowP p F h G s c xs
  | .map kk ks z vs => ∃ b s cap es cl, β nm = some (some b, s, cap) ∧ h[b]? = some (.map es cl) ∧ MapOk kk ks es cl ∧ Reps F h Beta.none vs (es.toList.map (·.val))
  | .rmap kk ks s z rows hole => ∃ b s' cap es cl bl, β nm = some (some b, s', cap) ∧ h[b]? = some (.map es cl) ∧ MapOk kk ks es cl ∧ ¬ G b ∧ RowsOK F h G s rows hole bl (es.toList.map (·.val))
  | .sit s pos => ∃ b s' cap, β nm = some (some b, s', cap) ∧ h[b]? = some (.stringIter s pos)
  | .mit kk ks z vs seen => ∃ b s cap, β nm = some (some b, s, cap) ∧ ((ks = [] ∧ seen = [] ∧ h[b]? = some (Obj.mapIter Option.none 0 #[] 0)) ∨ ∃ mb es cl stamps, (F mb ∨ G mb) ∧ h[mb]? = some (Obj.map es cl) ∧ MapOk kk ks es cl ∧ Reps F h Beta.none vs (es.toList.map (·.val)) ∧
      h[b]? = some (Obj.mapIter (some mb) cl stamps cl) ∧ stamps.toList = seen.map (fun i => (es.toList.map (·.born)).getD i 0) ∧ ∀ i ∈ seen, i < ks.length)
/-- what is known of the memory -/
structure Own (W0 : World) (M0 F0 F : Nat → Prop) (β : Beta) (γ : Nm → Nat → Prop) (tab : Tab) (gen : Nat) (w : World) : Prop where
  F0F : ∀ b, F0 b → F b
  Fsrc : ∀ b, F b → F0 b ∨ M0 b ∨ W0.heap.size ≤ b
  Flt : ∀ b, F b → b < w.heap.size
  keep : ∀ b, b < W0.heap.size → ¬ M0 b → w.heap[b]? = W0.heap[b]?
  size : W0.heap.size ≤ w.heap.size
  os : w.os = W0.os
  tp : w.tape = W0.tape
  out : w.output = W0.output
  gen : ∀ nm x, β nm = some x → nm.2 < gen ∨ (nm.2 = gen ∧ (tab.get nm).isSome)
  own : ∀ nm o, tab.get nm = some o → OwnOK F w.heap β (γ nm) nm o
  fps : ∀ nm o, tab.get nm = some o → o ≠ .dead → ∀ x, fp β γ nm x → ¬ F x ∧ x < w.heap.size ∧ (M0 x ∨ W0.heap.size ≤ x)
  dis : ∀ nm nm' o o', tab.get nm = some o → tab.get nm' = some o' → o ≠ .dead → o' ≠ .dead → nm ≠ nm' → ∀ x, fp β γ nm x → ¬ fp β γ nm' x
/-- what a package's variables hold: frozen data behind each one's address -/
class HasG where
  gl : Nat → D
def gval (g : Nat) : Value := .pointer (some ⟨g, 0, none⟩)
/-- a variable that holds a row of cells holds no others -/
def ExactG (h : Array Obj) (g : Nat) : D → Prop
  | .el (.agg cs) => ∃ c ty fr, h[g]? = some (Obj.cells c ty fr) ∧ c.size = cs.length
  | _ => True
def GlobF [HasG] (F : Nat → Prop) (h : Array Obj) : Prop := ∀ g, Rep F h Beta.none (HasG.gl g) (gval g) ∧ ExactG h g (HasG.gl g)
theorem ExactG.mono {F : Nat → Prop} {h h' : Array Obj} {g : Nat} {β : Beta} : ∀ {d : D}, (∀ b, F b → h'[b]? = h[b]?) → Rep F h β d (gval g) → ExactG h g d → ExactG h' g d := by
  intro d hF r e
  unfold ExactG at e ⊢
  split
  · simp only at e
    obtain ⟨c, ty, fr, h1, h2⟩ := e
    simp only [Rep, gval] at r
    obtain ⟨b, off, c', e', fr', u, h3, h4, _⟩ := r
    simp only [Value.pointer.injEq, Option.some.injEq, Addr.mk.injEq] at h3
    obtain ⟨rfl, _⟩ := h3
    exact ⟨c, ty, fr, (hF _ h4).trans h1, h2⟩
  · trivial
/-- the variables lie in memory that nobody writes -/
def GlobS [HasG] (W0 : World) (M0 F0 : Nat → Prop) : Prop := GlobF (fun b => F0 b ∧ ¬ M0 b ∧ b < W0.heap.size) W0.heap
theorem GlobF.mono [HasG] {F F' : Nat → Prop} {h h' : Array Obj} (G : GlobF F h) (hF : ∀ b, F b → F' b ∧ h'[b]? = h[b]?) : GlobF F' h' := fun g => ⟨Rep.mono hF _ (fun _ _ h => h) (G g).1, ExactG.mono (fun b hb => (hF b hb).2) (G g).1 (G g).2⟩
theorem Own.globF [HasG] {W0 : World} {M0 F0 F : Nat → Prop} {β : Beta} {γ : Nm → Nat → Prop} {tab : Tab} {gen : Nat} {w : World} (O : Own W0 M0 F0 F β γ tab gen w) (G : GlobS W0 M0 F0) : GlobF F w.heap :=
  GlobF.mono G fun b hb => ⟨O.F0F b hb.1, O.keep b hb.2.2 hb.2.1⟩
theorem Own.globS [HasG] {M F : Nat → Prop} {β : Beta} {γ : Nm → Nat → Prop} {tab : Tab} {gen : Nat} {w : World} (O : Own w M F F β γ tab gen w) (hM : ∀ b, M b → ¬ F b) (G : GlobF F w.heap) : GlobS w M F :=
  GlobF.mono G fun b hb => ⟨⟨hb, fun hm => hM b hm hb, O.Flt b hb⟩, rfl⟩
structure Cpl [HasG] (W0 : World) (M0 F0 F : Nat → Prop) (β : Beta) (γ : Nm → Nat → Prop) (σ : S) (a : Act) (w : World) : Prop where
  mem : Own W0 M0 F0 F β γ σ.tab σ.gen w
  reps : ∀ t, Rep F w.heap β (tget σ.ts t) (a.tmps.getD t undef)
  defers : a.defers = []
  glob : GlobS W0 M0 F0

theorem Rep.refine {F F' : Nat → Prop} {h h' : Array Obj} (hF : ∀ b, F b → F' b ∧ h'[b]? = h[b]?) {β β' : Beta} (hβ : ∀ nm x, β nm = some x → β' nm = some x) {d : D} {v : Value} (r : Rep F h β d v) : Rep F' h' β' d v := Rep.mono hF d hβ r
theorem OwnOK.mono {F F' : Nat → Prop} {h h' : Array Obj} {β β' : Beta} {G : Nat → Prop} {nm : Nm} {o : OO} (hF : ∀ b, F b → F' b ∧ h'[b]? = h[b]?) (hβ : ∀ nm x, β nm = some x → β' nm = some x)
    (hb : ∀ b s c, o ≠ .dead → β nm = some (some b, s, c) → h'[b]? = h[b]?) (hG : ∀ b, o ≠ .dead → G b → h'[b]? = h[b]?) (H : OwnOK F h β G nm o) : OwnOK F' h' β' G nm o := by
  cases o with
  | dead => exact True.intro
  | box d =>
    obtain ⟨b, s, cap, e, v, h1, h2, h3, h4⟩ := H
    exact ⟨b, s, cap, e, v, hβ _ _ h1, (hb b s cap (by simp) h1).trans h2, h3, Rep.mono hF d hβ h4⟩
  | arr p s z xs =>
    obtain ⟨bo, cap, h1, h2, h3⟩ := H
    refine ⟨bo, cap, hβ _ _ h1, h2, fun b hx => ?_⟩
    obtain ⟨h0, c, e, h4, h5, h6, h7⟩ := h3 b hx
    subst hx
    refine ⟨h0, c, e, (hb b s cap (by simp) h1).trans h4, h5, h6, ?_⟩
    cases p with
    | true => exact DeepOK.mono (fun b hg => ⟨hg, hG b (by simp) hg⟩) h7
    | false => exact Repx.mono hF xs (fun _ _ h => h) h7
  | map kk ks z vs =>
    obtain ⟨b, s, cap, es, cl, h1, h2, h3, h4⟩ := H
    exact ⟨b, s, cap, es, cl, hβ _ _ h1, (hb b s cap (by simp) h1).trans h2, h3, Reps.mono hF vs (fun _ _ h => h) h4⟩
  | rmap kk ks s z rows hole =>
    obtain ⟨b, s', cap, es, cl, bl, h1, h2, h3, h4, h5⟩ := H
    exact ⟨b, s', cap, es, cl, bl, hβ _ _ h1, (hb b s' cap (by simp) h1).trans h2, h3, h4, h5.mono hF fun x hg => ⟨hg, hG x (by simp) hg⟩⟩
  | sit s pos =>
    obtain ⟨b, s', cap, h1, h2⟩ := H
    exact ⟨b, s', cap, hβ _ _ h1, (hb b s' cap (by simp) h1).trans h2⟩
  | mit kk ks z vs seen =>
    obtain ⟨b, s, cap, h1, h2⟩ := H
    refine ⟨b, s, cap, hβ _ _ h1, ?_⟩
    rcases h2 with h2 | ⟨mb, es, cl, st, hfg, h3, h4, h5, h6, h7⟩
    · exact .inl ⟨h2.1, h2.2.1, (hb b s cap (by simp) h1).trans h2.2.2⟩
    · right
      have hm : (F' mb ∨ G mb) ∧ h'[mb]? = h[mb]? := by
        rcases hfg with hf | hg
        · exact ⟨.inl (hF mb hf).1, (hF mb hf).2⟩
        · exact ⟨.inr hg, hG mb (by simp) hg⟩
      exact ⟨mb, es, cl, st, hm.1, hm.2.trans h3, h4, Reps.mono hF vs (fun _ _ h => h) h5, (hb b s cap (by simp) h1).trans h6, h7⟩

section
variable {W0 : World} {M0 F0 F : Nat → Prop} {β : Beta} {γ : Nm → Nat → Prop} {tab : Tab} {gen : Nat} {w : World}

theorem Own.blk_lt (O : Own W0 M0 F0 F β γ tab gen w) {nm : Nm} {o : OO} (h : tab.get nm = some o) (hd : o ≠ .dead) {x : Nat} (hx : fp β γ nm x) : x < w.heap.size := (O.fps nm o h hd x hx).2.1

/-- one object is made or turned; one more may die with it -/
theorem Own.one (O : Own W0 M0 F0 F β γ tab gen w) {w' : World} {F' : Nat → Prop} {β' : Beta} {γ' : Nm → Nat → Prop} {tab' : Tab} (nm0 : Nm) (o0 : OO)
    (ht : ∀ nm, nm ≠ nm0 → tab'.get nm = tab.get nm ∨ (tab'.get nm = some .dead ∧ (tab.get nm).isSome)) (ht0 : tab'.get nm0 = some o0) (hg0 : nm0.2 ≤ gen)
    (hβ : ∀ nm x, β nm = some x → β' nm = some x) (hβ2 : ∀ nm, nm ≠ nm0 → β' nm = β nm) (hγ : ∀ nm, nm ≠ nm0 → γ' nm = γ nm)
    (X : Nat → Prop) (hX : ∀ b, b < w.heap.size → ¬ X b → w'.heap[b]? = w.heap[b]?) (hXF : ∀ b, X b → ¬ F b) (hXo : ∀ nm o, nm ≠ nm0 → tab'.get nm = some o → o ≠ .dead → ∀ b, X b → ¬ fp β γ nm b)
    (hX0 : ∀ b, X b → M0 b ∨ W0.heap.size ≤ b)
    (hsz : w.heap.size ≤ w'.heap.size) (hos : w'.os = w.os) (htp : w'.tape = w.tape) (hout : w'.output = w.output)
    (hF : ∀ b, F' b ↔ F b)
    (ok : OwnOK F w'.heap β' (γ' nm0) nm0 o0)
    (fp0 : o0 ≠ .dead → ∀ x, fp β' γ' nm0 x → (w.heap.size ≤ x ∧ x < w'.heap.size) ∨ ∃ nm1 o1, tab.get nm1 = some o1 ∧ o1 ≠ .dead ∧ fp β γ nm1 x ∧ (nm1 = nm0 ∨ tab'.get nm1 = some .dead)) :
    Own W0 M0 F0 F' β' γ' tab' gen w' := by
  have hFF : F' = F := funext fun b => propext (hF b)
  subst hFF
  have hFs : ∀ b, F' b → F' b ∧ w'.heap[b]? = w.heap[b]? := fun b hb => ⟨hb, hX b (O.Flt b hb) fun hx => hXF b hx hb⟩
  have old : ∀ nm o, nm ≠ nm0 → tab'.get nm = some o → o ≠ .dead → tab.get nm = some o := fun nm o hn h hd => by
    rcases ht nm hn with h1 | h1
    · rw [h1] at h; exact h
    · rw [h1.1] at h; cases h; exact absurd rfl hd
  have fpe : ∀ nm, nm ≠ nm0 → ∀ x, fp β' γ' nm x ↔ fp β γ nm x := fun nm hn x => by unfold fp; rw [hβ2 nm hn, hγ nm hn]
  have fpin : o0 ≠ .dead → ∀ x, fp β' γ' nm0 x → ¬ F' x ∧ x < w'.heap.size ∧ (M0 x ∨ W0.heap.size ≤ x) := fun hd0 x hx => by
    rcases fp0 hd0 x hx with ⟨h1, h2⟩ | ⟨nm1, o1, h1, h2, h3, h4⟩
    · exact ⟨fun hf => Nat.lt_irrefl _ (Nat.lt_of_lt_of_le (O.Flt x hf) h1), h2, .inr (Nat.le_trans O.size h1)⟩
    · have := O.fps nm1 o1 h1 h2 x h3
      exact ⟨this.1, Nat.lt_of_lt_of_le this.2.1 hsz, this.2.2⟩
  have fpap : ∀ nm o, nm ≠ nm0 → tab'.get nm = some o → o ≠ .dead → o0 ≠ .dead → ∀ x, fp β γ nm x → ¬ fp β' γ' nm0 x := fun nm o hn h hd hd0 x hx hx0 => by
    have h0 := old nm o hn h hd
    rcases fp0 hd0 x hx0 with ⟨h1, h2⟩ | ⟨nm1, o1, h1, h2, h3, h4⟩
    · have := (O.fps nm o h0 hd x hx).2.1; omega
    · refine O.dis nm nm1 o o1 h0 h1 hd h2 (fun e => ?_) x hx h3
      subst e
      rcases h4 with h4 | h4
      · exact hn h4
      · rw [h4] at h; cases h; exact hd rfl
  refine { F0F := O.F0F, Fsrc := O.Fsrc, Flt := fun b hb => Nat.lt_of_lt_of_le (O.Flt b hb) hsz, keep := fun b hb hm => ?_, size := Nat.le_trans O.size hsz, os := hos.trans O.os, tp := htp.trans O.tp, out := hout.trans O.out,
           gen := fun nm x h => ?_, own := fun nm o h => ?_, fps := fun nm o h hd x hx => ?_, dis := fun nm nm' o o' h h' hd hd' hne x hx => ?_ }
  · rw [hX b (Nat.lt_of_lt_of_le hb O.size) fun hx => ?_]
    · exact O.keep b hb hm
    · rcases hX0 b hx with h | h
      · exact hm h
      · omega
  · by_cases hn : nm = nm0
    · subst hn
      rcases Nat.lt_or_eq_of_le hg0 with h1 | h1
      · exact .inl h1
      · exact .inr ⟨h1, by rw [ht0]; rfl⟩
    · rw [hβ2 nm hn] at h
      rcases O.gen nm x h with h1 | ⟨h1, h2⟩
      · exact .inl h1
      · refine .inr ⟨h1, ?_⟩
        rcases ht nm hn with h3 | h3
        · rw [h3]; exact h2
        · rw [h3.1]; rfl
  · by_cases hn : nm = nm0
    · subst hn; rw [ht0] at h; cases h; exact ok
    · by_cases hd : o = .dead
      · subst hd; exact True.intro
      · have h0 := old nm o hn h hd
        rw [hγ nm hn]
        refine OwnOK.mono hFs hβ (fun b s c _ hb => hX b ?_ fun hx => hXo nm o hn h hd b hx (.inl ⟨s, c, hb⟩)) (fun b _ hg => hX b ?_ fun hx => hXo nm o hn h hd b hx (.inr hg)) (O.own nm o h0)
        · exact O.blk_lt h0 hd (.inl ⟨s, c, hb⟩)
        · exact O.blk_lt h0 hd (.inr hg)
  · by_cases hn : nm = nm0
    · subst hn; rw [ht0] at h; cases h; exact fpin hd x hx
    · have h0 := old nm o hn h hd
      have := O.fps nm o h0 hd x ((fpe nm hn x).1 hx)
      exact ⟨this.1, Nat.lt_of_lt_of_le this.2.1 hsz, this.2.2⟩
  · by_cases hn : nm = nm0
    · subst hn
      have hn' : nm' ≠ nm := Ne.symm hne
      rw [ht0] at h; cases h
      exact fun hx' => fpap nm' o' hn' h' hd' hd x ((fpe nm' hn' x).1 hx') hx
    · by_cases hn' : nm' = nm0
      · subst hn'
        rw [ht0] at h'; cases h'
        exact fpap nm o hn h hd hd' x ((fpe nm hn x).1 hx)
      · rw [fpe nm' hn' x]
        exact O.dis nm nm' o o' (old nm o hn h hd) (old nm' o' hn' h' hd') hd hd' hne x ((fpe nm hn x).1 hx)

/-- memory that nobody writes any more: new blocks -/
theorem Own.frz (O : Own W0 M0 F0 F β γ tab gen w) {w' : World} (hX : ∀ b, b < w.heap.size → w'.heap[b]? = w.heap[b]?) (hsz : w.heap.size ≤ w'.heap.size) (hos : w'.os = w.os) (htp : w'.tape = w.tape) (hout : w'.output = w.output)
    {F' : Nat → Prop} (hF : ∀ b, F b → F' b) (hF2 : ∀ b, F' b → F b ∨ (w.heap.size ≤ b ∧ b < w'.heap.size)) : Own W0 M0 F0 F' β γ tab gen w' := by
  have hFs : ∀ b, F b → F' b ∧ w'.heap[b]? = w.heap[b]? := fun b hb => ⟨hF b hb, hX b (O.Flt b hb)⟩
  refine { F0F := fun b h => hF b (O.F0F b h), Fsrc := fun b h => ?_, Flt := fun b hb => ?_, keep := fun b hb hm => ?_, size := Nat.le_trans O.size hsz, os := hos.trans O.os, tp := htp.trans O.tp, out := hout.trans O.out,
           gen := O.gen, own := fun nm o h => ?_, fps := fun nm o h hd x hx => ?_, dis := O.dis }
  · rcases hF2 b h with h | h
    · exact O.Fsrc b h
    · exact .inr (.inr (Nat.le_trans O.size h.1))
  · rcases hF2 b hb with h | h
    · exact Nat.lt_of_lt_of_le (O.Flt b h) hsz
    · exact h.2
  · rw [hX b (Nat.lt_of_lt_of_le hb O.size)]; exact O.keep b hb hm
  · by_cases hd : o = .dead
    · subst hd; exact True.intro
    · exact OwnOK.mono hFs (fun _ _ h => h) (fun b s c _ hb => hX b (O.blk_lt h hd (.inl ⟨s, c, hb⟩))) (fun b _ hg => hX b (O.blk_lt h hd (.inr hg))) (O.own nm o h)
  · have := O.fps nm o h hd x hx
    refine ⟨fun hf => ?_, Nat.lt_of_lt_of_le this.2.1 hsz, this.2.2⟩
    rcases hF2 x hf with h | h
    · exact this.1 h
    · have := this.2.1; omega
/-- one object's memory is shared out to it and a new one -/
theorem Own.split (O : Own W0 M0 F0 F β γ tab gen w) {β' : Beta} {γ' : Nm → Nat → Prop} {tab' : Tab} (nm0 nm1 : Nm) (o o0 o1 : OO)
    (h0 : tab.get nm0 = some o) (hd : o ≠ .dead) (h1 : tab.get nm1 = none) (hg1 : nm1.2 = gen)
    (ht : ∀ nm, nm ≠ nm0 → nm ≠ nm1 → tab'.get nm = tab.get nm) (ht0 : tab'.get nm0 = some o0) (ht1 : tab'.get nm1 = some o1)
    (hβ : ∀ nm x, β nm = some x → β' nm = some x) (hβ2 : ∀ nm, nm ≠ nm1 → β' nm = β nm) (hγ : ∀ nm, nm ≠ nm0 → nm ≠ nm1 → γ' nm = γ nm)
    (ok0 : OwnOK F w.heap β' (γ' nm0) nm0 o0) (ok1 : OwnOK F w.heap β' (γ' nm1) nm1 o1)
    (f0 : ∀ x, fp β' γ' nm0 x → fp β γ nm0 x) (f1 : ∀ x, fp β' γ' nm1 x → fp β γ nm0 x) (f01 : ∀ x, fp β' γ' nm0 x → ¬ fp β' γ' nm1 x) :
    Own W0 M0 F0 F β' γ' tab' gen w := by
  have hne : nm1 ≠ nm0 := fun e => by rw [e, h0] at h1; cases h1
  have fpe : ∀ nm, nm ≠ nm0 → nm ≠ nm1 → ∀ x, fp β' γ' nm x ↔ fp β γ nm x := fun nm hn hn1 x => by unfold fp; rw [hβ2 nm hn1, hγ nm hn hn1]
  have src : ∀ nm o', tab'.get nm = some o' → o' ≠ .dead → ∃ nm2 o2, tab.get nm2 = some o2 ∧ o2 ≠ .dead ∧ (∀ x, fp β' γ' nm x → fp β γ nm2 x) ∧ (nm2 = nm ∨ (nm2 = nm0 ∧ nm = nm1)) := fun nm o' h hd' => by
    by_cases e0 : nm = nm0
    · subst e0; exact ⟨nm, o, h0, hd, f0, .inl rfl⟩
    · by_cases e1 : nm = nm1
      · subst e1; exact ⟨nm0, o, h0, hd, f1, .inr ⟨rfl, rfl⟩⟩
      · rw [ht nm e0 e1] at h; exact ⟨nm, o', h, hd', fun x hx => (fpe nm e0 e1 x).1 hx, .inl rfl⟩
  refine { O with gen := fun nm x h => ?_, own := fun nm o' h => ?_, fps := fun nm o' h hd' x hx => ?_, dis := fun nm nm' o1' o2' h h' hda hdb hn x hx hx' => ?_ }
  · by_cases e1 : nm = nm1
    · subst e1; exact .inr ⟨hg1, by rw [ht1]; rfl⟩
    · rw [hβ2 nm e1] at h
      rcases O.gen nm x h with h2 | ⟨h2, h3⟩
      · exact .inl h2
      · refine .inr ⟨h2, ?_⟩
        by_cases e0 : nm = nm0
        · subst e0; rw [ht0]; rfl
        · rw [ht nm e0 e1]; exact h3
  · by_cases e0 : nm = nm0
    · subst e0; rw [ht0] at h; cases h; exact ok0
    · by_cases e1 : nm = nm1
      · subst e1; rw [ht1] at h; cases h; exact ok1
      · rw [ht nm e0 e1] at h
        rw [hγ nm e0 e1]
        exact OwnOK.mono (fun b hb => ⟨hb, rfl⟩) hβ (fun _ _ _ _ _ => rfl) (fun _ _ _ => rfl) (O.own nm o' h)
  · obtain ⟨nm2, o2, h2, hd2, hx2, _⟩ := src nm o' h hd'
    exact O.fps nm2 o2 h2 hd2 x (hx2 x hx)
  · obtain ⟨na, oa, ha, hda', hxa, ea⟩ := src nm o1' h hda
    obtain ⟨nb, ob, hb, hdb', hxb, eb⟩ := src nm' o2' h' hdb
    by_cases e : na = nb
    · subst e
      rcases ea with ea | ⟨ea, ea'⟩ <;> rcases eb with eb | ⟨eb, eb'⟩
      · exact hn (ea.symm.trans eb)
      · subst eb'; subst eb
        subst ea; exact f01 x hx hx'
      · subst ea'; subst ea
        subst eb; exact f01 x hx' hx
      · exact hn (ea'.trans eb'.symm)
    · exact O.dis na nb oa ob ha hb hda' hdb' e x (hxa x hx) (hxb x hx')

/-- an object that is frozen as it is -/
theorem Own.freeze (O : Own W0 M0 F0 F β γ tab gen w) {nm0 : Nm} {o : OO} (h0 : tab.get nm0 = some o) (hd : o ≠ .dead) :
    Own W0 M0 F0 (fun b => F b ∨ fp β γ nm0 b) β γ (tab.set nm0 .dead) gen w := by
  have old : ∀ nm o', (tab.set nm0 .dead).get nm = some o' → o' ≠ .dead → nm ≠ nm0 ∧ tab.get nm = some o' := fun nm o' h hd' => by
    rw [Tab.get_set] at h
    split at h
    · cases h; exact absurd rfl hd'
    · rename_i e; exact ⟨fun e' => e e'.symm, h⟩
  refine { O with F0F := fun b h => .inl (O.F0F b h), Fsrc := fun b h => ?_, Flt := fun b h => ?_, gen := fun nm x h => ?_, own := fun nm o' h => ?_, fps := fun nm o' h hd' x hx => ?_, dis := fun nm nm' o1 o2 h h' hd1 hd2 hn => ?_ }
  · rcases h with h | h
    · exact O.Fsrc b h
    · rcases (O.fps nm0 o h0 hd b h).2.2 with h | h
      · exact .inr (.inl h)
      · exact .inr (.inr h)
  · rcases h with h | h
    · exact O.Flt b h
    · exact (O.fps nm0 o h0 hd b h).2.1
  · rcases O.gen nm x h with h2 | ⟨h2, h3⟩
    · exact .inl h2
    · refine .inr ⟨h2, ?_⟩
      rw [Tab.get_set]; split
      · rfl
      · exact h3
  · by_cases hd' : o' = .dead
    · subst hd'; exact True.intro
    · obtain ⟨_, h2⟩ := old nm o' h hd'
      exact OwnOK.mono (fun b hb => ⟨.inl hb, rfl⟩) (fun _ _ h => h) (fun _ _ _ _ _ => rfl) (fun _ _ _ => rfl) (O.own nm o' h2)
  · obtain ⟨hn, h2⟩ := old nm o' h hd'
    have := O.fps nm o' h2 hd' x hx
    refine ⟨fun hf => ?_, this.2⟩
    rcases hf with hf | hf
    · exact this.1 hf
    · exact O.dis nm nm0 o' o h2 h0 hd' hd hn x hx hf
  · exact O.dis nm nm' o1 o2 (old nm o1 h hd1).2 (old nm' o2 h' hd2).2 hd1 hd2 hn
end
end Go.Eng
namespace Go.Eng
set_option linter.unusedVariables false
set_option linter.unusedSimpArgs false

inductive Eff where
  | none
  | frz
  | new (o : OO)
  | set (nm : Nm) (o : OO)
  | app (dead : Option Nm) (o : OO)
  | put (dead nm : Nm) (o : OO)
  | split (nm : Nm) (o o' : OO)
structure AR where
  ob : Prop
  d : D
  eff : Eff

def inR : IntKind → Int → Prop
  | .i64, n => -9223372036854775808 ≤ n ∧ n ≤ 9223372036854775807
  | .u8, n => 0 ≤ n ∧ n ≤ 255
  | k, n => k.min ≤ n ∧ n ≤ k.max
theorem wrap_inR {k : IntKind} {n : Int} (h : inR k n) : k.wrap n = n := by
  cases k <;> simp [inR, IntKind.wrap, IntKind.signed, IntKind.bits, IntKind.min, IntKind.max] at h ⊢ <;> omega

def valR (v : Value) : Option AR := some ⟨True, .lit v, .none⟩
def intRes (m : Bool) (k : IntKind) (n : Int) : Option AR :=
  match k, m with
  | .i64, false => some ⟨inR .i64 n, .lit (.int .i64 n), .none⟩
  | k, _ => valR (.int k (k.wrap n))
def cmpI : BinOp → Int → Int → Option Bool
  | .eql, a, b => some (a == b)
  | .neq, a, b => some (a != b)
  | .lss, a, b => some (decide (a < b))
  | .leq, a, b => some (decide (a ≤ b))
  | .gtr, a, b => some (decide (a > b))
  | .geq, a, b => some (decide (a ≥ b))
  | _, _, _ => none
def AR.and (p : Prop) : Option AR → Option AR
  | some r => some { r with ob := p ∧ r.ob }
  | none => none
def binI (m : Bool) (op : BinOp) (k : IntKind) (a b : Int) : Option AR :=
  match op with
  | .add => intRes m k (a + b)
  | .sub => intRes m k (a - b)
  | .mul => intRes m k (a * b)
  | .quo => AR.and (b ≠ 0) (intRes m k (a.tdiv b))
  | .rem => some ⟨b ≠ 0, .lit (.int k (a.tmod b)), .none⟩
  | .and => valR (.int k (k.wrap (BitVec.ofInt k.bits a &&& BitVec.ofInt k.bits b).toNat))
  | .or => valR (.int k (k.wrap (BitVec.ofInt k.bits a ||| BitVec.ofInt k.bits b).toNat))
  | .xor => valR (.int k (k.wrap (BitVec.ofInt k.bits a ^^^ BitVec.ofInt k.bits b).toNat))
  | .andNot => valR (.int k (k.wrap (BitVec.ofInt k.bits a &&& ~~~(BitVec.ofInt k.bits b)).toNat))
  | .shl => some ⟨0 ≤ b, .lit (.int k (k.wrap (a * 2 ^ (min b.toNat k.bits)))), .none⟩
  | .shr => some ⟨0 ≤ b, .lit (.int k (a.fdiv (2 ^ (min b.toNat k.bits)))), .none⟩
  | op => match cmpI op a b with
    | some c => valR (.bool c)
    | none => none
def strRes (op : BinOp) (a b : ByteArray) : Option AR :=
  match op with
  | .eql => valR (.bool (a.toList == b.toList))
  | .neq => valR (.bool !(a.toList == b.toList))
  | .lss => valR (.bool (Op.bytesLess a.toList b.toList))
  | .add => some ⟨((a.size + b.size : Nat) : Int) ≤ 9223372036854775807, .lit (.string (a ++ b)), .none⟩
  | _ => none
def TK.isBool : TK → Bool
  | .bool => true
  | _ => false
def isShift : BinOp → Bool
  | .shl | .shr => true
  | _ => false
def eqCells : List D → List D → Option Bool
  | [], [] => some true
  | .lit (.int .i64 a) :: r, .lit (.int .i64 b) :: r' => match eqCells r r' with
    | some c => some (a == b && c)
    | none => none
  | _, _ => none
/-- the one is nil, the other is not (or both are) -/
def nilD : D → Option Bool
  | .lit (.pointer none) | .lit .nilFunc | .lit .nilIface => some true
  | .el _ | .ptr .. | .elp .. | .fn .. | .iface .. => some false
  | _ => none
def sortD : D → Nat
  | .lit (.pointer none) | .el _ | .ptr .. | .elp .. => 1
  | .lit .nilFunc | .fn .. => 2
  | .lit .nilIface | .iface .. => 3
  | _ => 0
def eqNil (c : Bool) (x y : D) : Option Bool :=
  if sortD x = sortD y then match nilD x, nilD y with
    | some true, some true => if c then some true else none
    | some true, some false => some false
    | some false, some true => some false
    | _, _ => none
  else none
def binD (Γ : Ctx) (m : Bool) (c : Bool) (op : BinOp) (t : TypeId) (x y : D) : Option AR :=
  match x, y with
  | .lit (.int k a), .lit (.int k' b) => if isShift op then binI m op k a b else if k = k' then binI m op k a b else none
  | .lit (.string a), .lit (.string b) => strRes op a b
  | .lit (.bool a), .lit (.bool b) => match Γ.get t with
    | some ti => if ti.kind.isBool then (match op with
      | .eql => valR (.bool (a == b))
      | .neq => valR (.bool !(a == b))
      | _ => none) else none
    | none => none
  | .agg cs, .agg cs' => match Γ.get t with
    | some ti => if ti.cmp && cs.length == ti.size then match eqCells cs cs' with
      | some b => match op with
        | .eql => valR (.bool b)
        | .neq => valR (.bool !b)
        | _ => none
      | none => none
      else none
    | none => none
  | x, y => match Γ.get t with
    | some ti => if ti.kind.isNil (sortD x) then match eqNil c x y with
      | some b => match op with
        | .eql => valR (.bool b)
        | .neq => valR (.bool !b)
        | _ => none
      | none => none
      else none
    | none => none
def unD (m : Bool) (op : UnOp) (x : D) : Option AR :=
  match op, x with
  | .not, .lit (.bool b) => valR (.bool !b)
  | .neg, .lit (.int k n) => intRes m k (0 - n)
  | _, _ => none

section
variable {P : Program} {w : World} {F : Nat → Prop} {hp : Array Obj} {β : Beta} {Γ : Ctx}
theorem rep_of_lit {d : D} {v : Value} (e : d = .lit v) : Rep F hp β d v := by rw [e]; simp only [Rep]
theorem valR_sound {v : Value} {r : AR} (h : valR v = some r) : r.eff = .none ∧ r.d = .lit v := by
  simp only [valR, Option.some.injEq] at h; subst h; exact ⟨rfl, rfl⟩
theorem intRes_sound {m k n} {r : AR} (h : intRes m k n = some r) (ho : r.ob) : r.eff = .none ∧ r.d = .lit (.int k (k.wrap n)) := by
  unfold intRes at h
  split at h
  · simp only [Option.some.injEq] at h; subst h
    refine ⟨rfl, ?_⟩
    have ho' : inR .i64 n := ho
    rw [wrap_inR ho']
  · exact valR_sound h
theorem binI_sound {m op k a b t} {r : AR} (hs : isShift op = false) (h : binI m op k a b = some r) (ho : r.ob) :
    r.eff = .none ∧ ∃ v, (binOp op t (.int k a) (.int k b)).run P w = .ok v w ∧ r.d = .lit v := by
  cases op <;> simp only [binI, cmpI] at h <;> simp only [isShift, reduceCtorEq] at hs
  case add | sub | mul =>
    obtain ⟨e1, e2⟩ := intRes_sound h ho
    exact ⟨e1, _, by simp [binOp, Op.intArith], e2⟩
  case quo =>
    cases hq : intRes m k (a.tdiv b) with
    | none => simp [hq, AR.and] at h
    | some q =>
      simp only [hq, AR.and, Option.some.injEq] at h; subst h
      obtain ⟨e1, e2⟩ := intRes_sound hq ho.2
      refine ⟨e1, _, ?_, e2⟩
      have := ho.1
      simp [binOp, Op.intDiv, this]
  case rem =>
    simp only [Option.some.injEq] at h; subst h
    refine ⟨rfl, _, ?_, rfl⟩
    have : b ≠ 0 := ho
    simp [binOp, Op.intDiv, this]
  case and | or | xor | andNot =>
    obtain ⟨e1, e2⟩ := valR_sound h
    exact ⟨e1, _, by simp [binOp, Op.intBits], e2⟩
  all_goals
    obtain ⟨e1, e2⟩ := valR_sound h
    exact ⟨e1, _, by simp [binOp, Op.intCmp], e2⟩
theorem binS_sound {m op k k' a b t} {r : AR} (hs : isShift op = true) (h : binI m op k a b = some r) (ho : r.ob) :
    r.eff = .none ∧ ∃ v, (binOp op t (.int k a) (.int k' b)).run P w = .ok v w ∧ r.d = .lit v := by
  cases op <;> simp only [binI, cmpI] at h <;> simp only [isShift, reduceCtorEq, Bool.false_eq_true] at hs
  all_goals
    simp only [Option.some.injEq] at h; subst h
    refine ⟨rfl, _, ?_, rfl⟩
    have : ¬ b < 0 := Int.not_lt.2 ho
    simp [binOp, Op.shift, this]
theorem eqGuard_int {op t ox oy k a k' b} : (eqGuard op t ox oy (.int k a) (.int k' b)).run P w = .ok () w := by
  unfold eqGuard
  cases op <;> simp
theorem eqGuard_str {op t ox oy a b} : (eqGuard op t ox oy (.string a) (.string b)).run P w = .ok () w := by
  unfold eqGuard
  cases op <;> simp
theorem eqGuard_bool {op t ox oy a b} : (eqGuard op t ox oy (.bool a) (.bool b)).run P w = .ok () w := by
  unfold eqGuard
  cases op <;> simp
theorem strRes_sound {op a b t} {r : AR} (h : strRes op a b = some r) (ho : r.ob) :
    r.eff = .none ∧ ∃ v, (binOp op t (.string a) (.string b)).run P w = .ok v w ∧ r.d = .lit v := by
  cases op <;> simp only [strRes, reduceCtorEq] at h
  case add =>
    simp only [Option.some.injEq] at h; subst h
    refine ⟨rfl, _, ?_, rfl⟩
    have h2 : ((a.size : Int) + (b.size : Int)) ≤ 9223372036854775807 := by have := ho; simp only [Int.natCast_add] at this; exact this
    have h3 : ¬ (IntKind.i64.max < (a.size : Int) + (b.size : Int)) := by simp [IntKind.max, IntKind.signed, IntKind.bits]; omega
    simp [binOp, Op.stringOp, h3]
    try exact h2
  all_goals
    obtain ⟨e1, e2⟩ := valR_sound h
    exact ⟨e1, _, by simp [binOp, Op.stringOp], e2⟩
theorem equal_bool {t a b} (hk : P.underlying t = some .bool) : (Op.equal t (.bool a) (.bool b)).run P w = .ok (a == b) w := by
  have key : ∀ d, (Op.equalIn (d + 1) t (.bool a) (.bool b)).run P w = .ok (a == b) w := fun d => by
    simp only [Op.equalIn, Sem.run_bind, run_und hk, Result.andThen_ok, Sem.run_pure]
  exact key 9999
theorem eqNil_sound {ti : TI} {t : TypeId} {c : Bool} {op ox oy x y vx vy b} (ht : ti.ok P t) (hn : ti.kind.isNil (sortD x) = true) (hc : c = true → (ox matches .const _) = true ∨ (oy matches .const _) = true)
    (h : eqNil c x y = some b) (rx : Rep F hp β x vx) (ry : Rep F hp β y vy) :
    (eqGuard op t ox oy vx vy).run P w = .ok () w ∧ (Op.equal t vx vy).run P w = .ok b w ∧ (∀ k a, vx ≠ .int k a) ∧ (∀ k a, vx ≠ .float k a) ∧ (∀ k a c, vx ≠ .complex k a c) ∧ (∀ s, vx ≠ .string s) := by
  have hk := ht.kind
  have val : ∀ {x vx}, Rep F hp β x vx → (sortD x = 1 → ∃ q, vx = .pointer q ∧ nilD x = some q.isNone) ∧ (sortD x = 2 → (vx = .nilFunc ∧ nilD x = some true) ∨ ∃ f a b, vx = .func f a b ∧ nilD x = some false) ∧
      (sortD x = 3 → (vx = .nilIface ∧ nilD x = some true) ∨ ∃ a b, vx = .iface a b ∧ nilD x = some false) := by
    intro x vx r
    cases x with
    | lit v =>
      simp only [Rep] at r; subst r
      cases vx with
      | pointer q => cases q <;> simp [sortD, nilD]
      | nilFunc => simp [sortD, nilD]
      | nilIface => simp [sortD, nilD]
      | _ => simp [sortD]
    | el d => simp only [Rep] at r; obtain ⟨_, _, _, _, _, _, rfl, _⟩ := r; simp [sortD, nilD]
    | ptr nm o => simp only [Rep] at r; obtain ⟨_, _, _, _, rfl⟩ := r; simp [sortD, nilD]
    | elp nm i o => simp only [Rep] at r; obtain ⟨_, _, _, _, rfl⟩ := r; simp [sortD, nilD]
    | fn f a b => simp only [Rep] at r; obtain ⟨_, _, rfl, _⟩ := r; simp [sortD, nilD]
    | iface t d => simp only [Rep] at r; obtain ⟨_, rfl, _⟩ := r; simp [sortD, nilD]
    | _ => simp [sortD]
  unfold eqNil at h
  split at h
  · rename_i hs
    have h0 : sortD x ≠ 0 := fun e => by rw [e] at hn; cases hx : ti.kind <;> simp [hx, TK.isNil] at hn
    obtain ⟨d, hd, hds⟩ : ∃ d, P.underlying t = some d ∧ (sortD x = 1 → ∃ e, d = .pointer e) ∧ (sortD x = 2 → ∃ a b c, d = .func a b c) ∧ (sortD x = 3 → ∃ ms, d = .interface ms) := by
      cases hx : ti.kind <;> simp only [hx, TK.isNil, Bool.false_eq_true] at hn
      case ptr e => simp only [hx, TK.ok] at hk; have hn' : sortD x = 1 := by simpa using hn
                    exact ⟨_, hk, fun _ => ⟨_, rfl⟩, fun e => by omega, fun e => by omega⟩
      case func => simp only [hx, TK.ok] at hk; obtain ⟨a, b, c, hk⟩ := hk; have hn' : sortD x = 2 := by simpa using hn
                   exact ⟨_, hk, fun e => by omega, fun _ => ⟨_, _, _, rfl⟩, fun e => by omega⟩
      case iface => simp only [hx, TK.ok] at hk; obtain ⟨a, hk⟩ := hk; have hn' : sortD x = 3 := by simpa using hn
                    exact ⟨_, hk, fun e => by omega, fun e => by omega, fun _ => ⟨_, rfl⟩⟩
    have h123 : sortD x = 1 ∨ sortD x = 2 ∨ sortD x = 3 := by
      unfold sortD at h0 ⊢
      split <;> simp_all
    have v1 := val rx
    have v2 := val ry
    rw [← hs] at v2
    rcases h123 with e | e | e
    · obtain ⟨q, rfl, q2⟩ := v1.1 e
      obtain ⟨q', rfl, q2'⟩ := v2.1 e
      obtain ⟨el, rfl⟩ := hds.1 e
      rw [q2, q2'] at h
      refine ⟨by unfold eqGuard; cases op <;> simp, ?_, by simp, by simp, by simp, by simp⟩
      have key : ∀ n, (Op.equalIn (n + 1) t (.pointer q) (.pointer q')).run P w = .ok b w := fun n => by
        simp only [Op.equalIn, Sem.run_bind, run_und hd, Result.andThen_ok]
        cases q <;> cases q' <;> simp at h ⊢
        all_goals first | (obtain ⟨_, rfl⟩ := h; rfl) | (subst h; rfl)
      exact key 9999
    · have hd' := hds.2.1 e
      obtain ⟨a1, a2, a3, rfl⟩ := hd'
      have key : ∀ n, (eqGuard op t ox oy vx vy).run P w = .ok () w ∧ (Op.equalIn (n + 1) t vx vy).run P w = .ok b w := fun n => by
        rcases v1.2.1 e with ⟨rfl, q1⟩ | ⟨_, _, _, rfl, q1⟩ <;> rcases v2.2.1 e with ⟨rfl, q2⟩ | ⟨_, _, _, rfl, q2⟩ <;> rw [q1, q2] at h <;> simp at h
        all_goals refine ⟨by unfold eqGuard; cases op <;> simp, ?_⟩
        all_goals simp only [Op.equalIn, Sem.run_bind, run_und hd, Result.andThen_ok]
        all_goals first | (obtain ⟨_, rfl⟩ := h; rfl) | (subst h; rfl)
      refine ⟨(key 0).1, (key 9999).2, ?_⟩
      rcases v1.2.1 e with ⟨rfl, q1⟩ | ⟨_, _, _, rfl, q1⟩ <;> simp
    · have hd' := hds.2.2 e
      obtain ⟨ms, rfl⟩ := hd'
      have key : ∀ n, (eqGuard op t ox oy vx vy).run P w = .ok () w ∧ (Op.equalIn (n + 1) t vx vy).run P w = .ok b w := fun n => by
        rcases v1.2.2 e with ⟨rfl, q1⟩ | ⟨_, _, rfl, q1⟩ <;> rcases v2.2.2 e with ⟨rfl, q2⟩ | ⟨_, _, rfl, q2⟩ <;> rw [q1, q2] at h <;> simp at h
        · obtain ⟨hc', rfl⟩ := h
          refine ⟨?_, ?_⟩
          · unfold eqGuard
            rcases hc hc' with h1 | h1 <;> cases ox <;> cases oy <;> simp at h1 <;> cases op <;> simp
          · simp only [Op.equalIn, Sem.run_bind, run_und hd, Result.andThen_ok]; rfl
        all_goals refine ⟨by unfold eqGuard; cases op <;> simp, ?_⟩
        all_goals simp only [Op.equalIn, Sem.run_bind, run_und hd, Result.andThen_ok]
        all_goals (subst h; rfl)
      refine ⟨(key 0).1, (key 9999).2, ?_⟩
      rcases v1.2.2 e with ⟨rfl, q1⟩ | ⟨_, _, rfl, q1⟩ <;> simp
  · simp at h
theorem eqCells_sound {F h β} : ∀ {cs cs' : List D} {b : Bool} {vs vs' : List Value}, eqCells cs cs' = some b → Reps F h β cs vs → Reps F h β cs' vs' →
    ∃ as bs : List Int, vs = as.map (Value.int .i64) ∧ vs' = bs.map (Value.int .i64) ∧ as.length = cs.length ∧ bs.length = cs.length ∧ b = (as == bs)
  | [], [], b, vs, vs', h, r, r' => by
    simp only [eqCells, Option.some.injEq] at h; subst h
    simp only [Reps] at r r'; subst r; subst r'
    exact ⟨[], [], rfl, rfl, rfl, rfl, rfl⟩
  | d :: cs, [], b, vs, vs', h, r, r' => by
    unfold eqCells at h; simp at h
  | [], d :: cs, b, vs, vs', h, r, r' => by
    unfold eqCells at h; simp at h
  | d :: cs, d' :: cs', b, vs, vs', h, r, r' => by
    unfold eqCells at h
    split at h
    · simp_all
    · rename_i a q r1 r2 e1 e2
      simp only [List.cons.injEq] at e1 e2
      obtain ⟨rfl, rfl⟩ := e1
      obtain ⟨rfl, rfl⟩ := e2
      split at h
      · rename_i c hc
        simp only [Option.some.injEq] at h; subst h
        simp only [Reps, Rep] at r r'
        obtain ⟨_, ws, rfl, rfl, r2⟩ := r
        obtain ⟨_, ws', rfl, rfl, r2'⟩ := r'
        obtain ⟨as, bs, rfl, rfl, l1, l2, rfl⟩ := eqCells_sound hc r2 r2'
        exact ⟨_ :: as, _ :: bs, rfl, rfl, by simp [l1], by simp [l2], by simp⟩
      · simp at h
    · simp at h
theorem binD_sound (hΓ : Γ.ok P) {m op t x y ox oy vx vy} {c : Bool} (hc : c = true → (ox matches .const _) = true ∨ (oy matches .const _) = true) {r : AR} (h : binD Γ m c op t x y = some r) (ho : r.ob) (rx : Rep F hp β x vx) (ry : Rep F hp β y vy) :
    r.eff = .none ∧ ∃ v, (do eqGuard op t ox oy vx vy; binOp op t vx vy : Sem Value).run P w = .ok v w ∧ Rep F hp β r.d v := by
  unfold binD at h
  split at h
  · simp only [Rep] at rx ry
    subst rx; subst ry
    simp only [Sem.run_bind, eqGuard_int, Result.andThen_ok]
    split at h
    · rename_i hs
      obtain ⟨e, v, e1, e2⟩ := binS_sound (P := P) (w := w) (t := t) hs h ho
      exact ⟨e, v, e1, by rw [e2]; simp only [Rep]⟩
    · rename_i hs
      split at h
      · rename_i hk; subst hk
        obtain ⟨e, v, e1, e2⟩ := binI_sound (P := P) (w := w) (t := t) (by simpa using hs) h ho
        exact ⟨e, v, e1, by rw [e2]; simp only [Rep]⟩
      · simp at h
  · simp only [Rep] at rx ry
    subst rx; subst ry
    simp only [Sem.run_bind, eqGuard_str, Result.andThen_ok]
    obtain ⟨e, v, e1, e2⟩ := strRes_sound (P := P) (w := w) (t := t) h ho
    exact ⟨e, v, e1, by rw [e2]; simp only [Rep]⟩
  · rename_i a b
    simp only [Rep] at rx ry
    subst rx; subst ry
    simp only [Sem.run_bind, eqGuard_bool, Result.andThen_ok]
    split at h
    · rename_i ti hti
      split at h
      · rename_i hb
        have hk : P.underlying t = some .bool := by
          have := (Ctx.get_ok hΓ hti).kind
          cases hx : ti.kind <;> simp_all [TK.isBool, TK.ok]
        cases op <;> simp only [reduceCtorEq] at h
        all_goals
          obtain ⟨e1, e2⟩ := valR_sound h
          refine ⟨e1, _, ?_, rep_of_lit e2⟩
          simp only [binOp, Sem.run_bind, equal_bool hk, Result.andThen_ok, Sem.run_pure]
      · simp at h
    · simp at h
  · rename_i cs cs'
    split at h
    · rename_i ti hti
      split at h
      · rename_i hcmp
        split at h
        · rename_i b hb
          simp only [Rep] at rx ry
          obtain ⟨vs, rfl, rx⟩ := rx
          obtain ⟨vs', rfl, ry⟩ := ry
          obtain ⟨as, bs, rfl, rfl, l1, l2, rfl⟩ := eqCells_sound hb rx ry
          simp only [Bool.and_eq_true, beq_iff_eq] at hcmp
          have hE := ((Ctx.get_ok hΓ hti).cmp hcmp.1).1 as bs (l1.trans hcmp.2) (l2.trans hcmp.2)
          have hg : (eqGuard op t ox oy (.agg (as.map (Value.int .i64)).toArray) (.agg (bs.map (Value.int .i64)).toArray)).run P w = .ok () w := by
            unfold eqGuard
            cases op <;> simp [hE.1]
          simp only [Sem.run_bind, hg, Result.andThen_ok]
          cases op <;> simp only [reduceCtorEq] at h
          all_goals
            obtain ⟨e1, e2⟩ := valR_sound h
            refine ⟨e1, _, ?_, rep_of_lit e2⟩
            simp only [binOp, Sem.run_bind, hE.2 w, Result.andThen_ok, Sem.run_pure]
        · simp at h
      · simp at h
    · simp at h
  · rename_i x y n1 n2 n3 n4
    split at h
    · rename_i ti hti
      split at h
      · rename_i hnil
        split at h
        · rename_i b hb
          have key : (eqGuard op t ox oy vx vy).run P w = .ok () w ∧ (Op.equal t vx vy).run P w = .ok b w ∧ (∀ k a, vx ≠ .int k a) ∧ (∀ k a, vx ≠ .float k a) ∧ (∀ k a c, vx ≠ .complex k a c) ∧ (∀ s, vx ≠ .string s) :=
            eqNil_sound (ox := ox) (oy := oy) (op := op) (Ctx.get_ok hΓ hti) hnil hc hb rx ry
          obtain ⟨k1, k2, k3, k4, k5, k6⟩ := key
          simp only [Sem.run_bind, k1, Result.andThen_ok]
          cases op <;> simp only [reduceCtorEq] at h
          all_goals
            obtain ⟨e1, e2⟩ := valR_sound h
            refine ⟨e1, _, ?_, rep_of_lit e2⟩
            cases vx <;> first | exact absurd rfl (k3 _ _) | exact absurd rfl (k4 _ _) | exact absurd rfl (k5 _ _ _) | exact absurd rfl (k6 _) | simp only [binOp, Sem.run_bind, k2, Result.andThen_ok, Sem.run_pure]
        · simp at h
      · simp at h
    · simp at h
theorem unD_sound {m op x vx} {r : AR} (h : unD m op x = some r) (ho : r.ob) (rx : Rep F hp β x vx) :
    r.eff = .none ∧ ∃ v, (Op.unary op vx).run P w = .ok v w ∧ Rep F hp β r.d v := by
  unfold unD at h
  split at h
  · simp only [Rep] at rx; subst rx
    obtain ⟨e1, e2⟩ := valR_sound h
    refine ⟨e1, _, ?_, rep_of_lit e2⟩
    simp only [Op.unary, Sem.run_pure]
  · simp only [Rep] at rx; subst rx
    obtain ⟨e1, e2⟩ := intRes_sound h ho
    refine ⟨e1, _, ?_, rep_of_lit e2⟩
    simp only [Op.unary, Op.intArith, Sem.run_pure]
  · simp at h
end
end Go.Eng
namespace Go.Eng
set_option linter.unusedVariables false
set_option linter.unusedSimpArgs false

/-! ### constants, operands -/
def constD1 : Value → D
  | .slice none 0 0 => .sl true 0 .any []
  | v => .lit v
def constD : Value → D
  | .agg cs => .agg (cs.toList.map constD1)
  | v => constD1 v
def opd [HasG] (ts : Ts) : Operand → D
  | .tmp t => tget ts t
  | .const v => constD v
  | .global g => HasG.gl g
  | .func f => .fn (.func f) [] []
theorem rep_constD1 {F h β} (v : Value) : Rep F h β (constD1 v) v := by
  unfold constD1
  split
  · simp [Rep]
  · simp only [Rep]
theorem reps_constD1 {F h β} : ∀ (vs : List Value), Reps F h β (vs.map constD1) vs
  | [] => by simp only [List.map_nil, Reps]
  | v :: vs => by simp only [List.map_cons, Reps]; exact ⟨v, vs, rfl, rep_constD1 v, reps_constD1 vs⟩
theorem rep_constD {F h β} (v : Value) : Rep F h β (constD v) v := by
  unfold constD
  split
  · rename_i cs; simp only [Rep]; exact ⟨cs.toList, rfl, reps_constD1 _⟩
  · exact rep_constD1 v
theorem rep_opd [HasG] {F h β} {ts : Ts} {a : Act} (G : GlobF F h) (r : ∀ t, Rep F h β (tget ts t) (a.tmps.getD t undef)) (x : Operand) : Rep F h β (opd ts x) (a.eval x) := by
  cases x with
  | tmp t => exact r t
  | const v => exact rep_constD v
  | global g => exact Rep.mono (fun b hb => ⟨hb, rfl⟩) _ (fun _ _ h => by cases h) (G g).1
  | func f => simp only [opd, Act.eval, Rep, Reps]; exact ⟨[], [], rfl, rfl, rfl⟩

/-! ### parts of a value -/
def subD (fi : TI) (cs : List D) (o : Nat) : Option D :=
  if fi.kind.isAgg then (if o + fi.size ≤ cs.length then some (.agg ((cs.drop o).take fi.size)) else none) else cs[o]?
/-- the part of the type 'ti' at the cell 'off' of a value -/
def partD (ti : TI) (d : D) (off : Nat) : Option D :=
  match d with
  | .agg cs => subD ti cs off
  | d => if off = 0 ∧ ti.kind.isAgg = false ∧ oneD d = true then some d else none
def updD (ti : TI) (d : D) (off : Nat) (x : D) : Option D :=
  match d with
  | .agg cs => if (cellsD x).length = ti.size ∧ off + ti.size ≤ cs.length ∧ okD x = true then some (.agg (cs.take off ++ cellsD x ++ cs.drop (off + ti.size))) else none
  | d => if off = 0 ∧ ti.size = 1 ∧ x.isAgg = false ∧ oneD x = true then some x else none
def placesD (Γ : Ctx) : List (Nat × TypeId) → Option (List (Nat × Nat))
  | [] => some []
  | (o, t) :: r => match Γ.get t, placesD Γ r with
    | some ti, some l => some ((o, ti.size) :: l)
    | _, _ => none
def fillD (places : List (Nat × Nat)) (cells : List D) : List (Nat × D) → Option (List D)
  | [] => some cells
  | (i, d) :: r => match places[i]? with
    | some (o, s) => if (cellsD d).length = s ∧ o + s ≤ cells.length ∧ okD d = true then fillD places (cells.take o ++ cellsD d ++ cells.drop (o + s)) r else none
    | none => none

def okR (d : D) : Option AR := some ⟨True, d, .none⟩
def TK.concrete : TK → Bool
  | .other => false
  | .iface => false
  | _ => true
def lenD (Γ : Ctx) (t : TypeId) (x : D) : Option AR :=
  match Γ.get t with
  | none => none
  | some ti => match ti.kind, x with
    | .slice _, .sl _ _ _ xs => valR (.int .i64 xs.length)
    | .slice _, .sx _ xs => valR (.int .i64 xs.length)
    | .slice _, .own _ _ _ n => valR (.int .i64 n)
    | .str, .lit (.string s) => valR (.int .i64 s.size)
    | _, _ => none
def D.isLit : D → Bool
  | .lit _ => true
  | _ => false
def loadD (ti : TI) (tab : Tab) (x : D) : Option AR :=
  match x with
  | .ptr nm off => match tab.get nm with
    | some (.box d) => match partD ti d off with
      | some d => okR d
      | none => none
    | _ => none
  | .elp nm i off => match tab.get nm with
    | some (.arr p s z xs) => match partD ti (xs.getD i z) off with
      | some d => if p = false then some ⟨i < xs.length, d, .none⟩ else none
      | none => none
    | _ => none
  | .el d => match partD ti d 0 with
    | some d => okR d
    | none => none
  | _ => none
def storeD (ti : TI) (tab : Tab) (a x : D) : Option AR :=
  match a with
  | .ptr nm off => match tab.get nm with
    | some (.box d) => match updD ti d off x with
      | some d' => some ⟨True, .any, .set nm (.box d')⟩
      | none => none
    | _ => none
  | .elp nm i off => match tab.get nm with
    | some (.arr p s z xs) => match updD ti (xs.getD i z) off x with
      | some d' => if pureD x = true ∧ p = false ∧ ((xs.getD i z).isAgg = true ∨ s = 1) then some ⟨i < xs.length, .any, .set nm (.arr p s z (xs.set i d'))⟩ else none
      | none => none
    | _ => none
  | _ => none
def fieldAddrD (Γ : Ctx) (ti : TI) (x : D) (i : Nat) : Option AR :=
  match ti.kind with
  | .st fs => match fs[i]? with
    | some (o, ft) => match Γ.get ft with
      | some fi => if fi.size = 0 then none else match x with
        | .ptr nm off => okR (.ptr nm (off + o))
        | .elp nm j off => okR (.elp nm j (off + o))
        | .el (.agg cs) => match subD fi cs o with
          | some d => if fi.kind.isAgg || oneD d then okR (.el d) else none
          | none => none
        | _ => none
      | none => none
    | none => none
  | _ => none
def fieldD (Γ : Ctx) (ti : TI) (x : D) (i : Nat) : Option AR :=
  match ti.kind with
  | .st fs => match fs[i]? with
    | some (o, ft) => match Γ.get ft with
      | some fi => match x with
        | .agg cs => match subD fi cs o with
          | some d => okR d
          | none => none
        | _ => none
      | none => none
    | none => none
  | _ => none
def indexAddrD (Γ : Ctx) (ti : TI) (x i : D) : Option AR :=
  match ti.kind with
  | .slice e => match Γ.get e with
    | some ei => match x, i with
      | .sl _ s z xs, .lit (.int _ j) => if ei.size = s then some ⟨0 ≤ j ∧ j < xs.length, .el (xs.getD j.toNat z), .none⟩ else none
      | .sx s xs, .lit (.int _ j) => if ei.size = s then some ⟨0 ≤ j ∧ j < xs.length, .el (xs.getD j.toNat .any), .none⟩ else none
      | .own nm s o n, .lit (.int _ j) => if ei.size = s then some ⟨0 ≤ j ∧ j < n, .elp nm (o + j.toNat) 0, .none⟩ else none
      | _, _ => none
    | none => none
  | .arr n e => match Γ.get e with
    | some ei => if ei.size = 1 ∧ ei.kind.isAgg = false then match x, i with
      | .el (.agg cs), .lit (.int _ j) => if n = cs.length ∧ cs.all oneD = true then some ⟨0 ≤ j ∧ j < n, .el (cs.getD j.toNat .any), .none⟩ else none
      | _, _ => none
      else none
    | none => none
  | _ => none
def indexD (Γ : Ctx) (ti : TI) (x i : D) : Option AR :=
  match ti.kind with
  | .str => match x, i with
    | .lit (.string s), .lit (.int _ j) => some ⟨0 ≤ j ∧ j < s.size, .lit (.int .u8 (s.get! j.toNat).toNat), .none⟩
    | _, _ => none
  | .arr n e => match Γ.get e with
    | some ei => if ei.size = 1 ∧ ei.kind.isAgg = false then match x, i with
      | .agg cs, .lit (.int _ j) => some ⟨0 ≤ j ∧ j < n ∧ j < cs.length, cs.getD j.toNat .any, .none⟩
      | _, _ => none
      else none
    | none => none
  | _ => none
def buildD (Γ : Ctx) (ti : TI) (ps : List (Nat × D)) : Option AR :=
  match ti.kind with
  | .st fs => match placesD Γ fs with
    | some pl => match fillD pl (cellsD ti.z) ps with
      | some cs => okR (.agg cs)
      | none => none
    | none => none
  | .arr n e => match Γ.get e with
    | some ei => match fillD ((List.range n).map fun i => (i * ei.size, ei.size)) (cellsD ti.z) ps with
      | some cs => okR (.agg cs)
      | none => none
    | none => none
  | _ => none
/-- bytes -/
def bytesD : List D → Option (List UInt8)
  | [] => some []
  | .lit (.int .u8 n) :: r => match bytesD r with
    | some l => some (UInt8.ofNat n.toNat :: l)
    | none => none
  | _ => none
/-- what a slice holds, of elements of the size 's' -/
def elemsD' (tab : Tab) (s : Nat) (x : D) : Option (List D) :=
  match x with
  | .sl _ s' _ xs => if xs.isEmpty || s' == s then some xs else none
  | .own nm _ o n => match tab.get nm with
    | some (.arr false s' _ xs) => if s' = s then some ((xs.drop o).take n) else none
    | _ => none
  | _ => none
def TK.isByte : TK → Bool
  | .int .u8 => true
  | _ => false
/-- how long it is said to be, and that this is true -/
def elemsOk (tab : Tab) (x : D) : Prop :=
  match x with
  | .own nm _ o n => match tab.get nm with
    | some (.arr _ _ _ xs) => o + n ≤ xs.length
    | _ => False
  | _ => True
def convD (Γ : Ctx) (m : Bool) (tab : Tab) (si di : TI) (x : D) : Option AR :=
  match di.kind with
  | .int k => match x with
    | .lit (.int _ n) => intRes m k n
    | _ => none
  | .str => match si.kind with
    | .slice e => match Γ.get e with
      | some ei => if ei.kind.isByte then match elemsD' tab 1 x with
        | some ys => match bytesD ys with
          | some l => some ⟨elemsOk tab x, .lit (.string ⟨l.toArray⟩), .none⟩
          | none => none
        | none => none
        else none
      | none => none
    | _ => none
  | .slice e => match si.kind with
    | .str => match Γ.get e with
      | some ei => if ei.kind.isByte then match x with
        | .lit (.string s) => some ⟨True, .sl false 1 (.lit (.int .u8 0)) (s.toList.map fun c => .lit (.int .u8 c.toNat)), .frz⟩
        | _ => none
        else none
      | none => none
    | _ => none
  | _ => none
/-- a slice that is built whole -/
def buildSliceD (nm : Nm) (ei : TI) (len : Nat) (ps : List (Nat × D)) : Option AR :=
  if ps.map (·.1) = List.range len ∧ (ps.all fun p => okD p.2 && (cellsD p.2).length == ei.size) = true ∧ len * ei.size ≤ 16777216 ∧ 0 < ei.size then
    (if puresD (ps.map (·.2)) then (if 1000000 ≤ nm.1 ∧ 0 < len then some ⟨True, .sl false ei.size ei.y (ps.map (·.2)), .frz⟩ else some ⟨True, .own nm ei.size 0 len, .new (.arr false ei.size ei.y (ps.map (·.2)))⟩)
     else some ⟨True, .sx ei.size (ps.map (·.2)), .frz⟩) else none
def assertD (t : TypeId) (ti : TI) (x : D) (ok : Bool) : Option AR :=
  match x with
  | .iface u d => if u = t then okR (if ok then .tup [d, .lit (.bool true)] else d) else if ok then okR (.tup [ti.z, .lit (.bool false)]) else none
  | .lit .nilIface => if ok then okR (.tup [ti.z, .lit (.bool false)]) else none
  | _ => none
def newBox (nm : Nm) (d : D) : Option AR := if okD d then some ⟨True, .ptr nm 0, .new (.box d)⟩ else none
def bndD : Option D → Int → Option Int
  | none, n => some n
  | some (.lit (.int _ l)), _ => some l
  | _, _ => none
/-- a part of a slice or a string -/
def sliceD (Γ : Ctx) (ti : TI) (x : D) (lo hi mx : Option D) : Option AR :=
  match ti.kind, x with
  | .slice e, .sl t s z xs => match Γ.get e with
    | some ei => if xs.isEmpty || ei.size == s then match bndD lo 0, hi, mx with
      | some l, none, none => some ⟨0 ≤ l ∧ l ≤ xs.length, .sl t s z (xs.drop l.toNat), .none⟩
      | some l, some (.lit (.int _ h)), none => some ⟨0 ≤ l ∧ l ≤ h ∧ h ≤ xs.length, .sl (t && decide (h = xs.length)) s z ((xs.drop l.toNat).take (h.toNat - l.toNat)), .none⟩
      | some l, some (.lit (.int _ h)), some (.lit (.int _ m)) => some ⟨0 ≤ l ∧ l ≤ h ∧ h ≤ m ∧ m ≤ xs.length, .sl (decide (h = m)) s z ((xs.drop l.toNat).take (h.toNat - l.toNat)), .none⟩
      | _, _, _ => none
      else none
    | none => none
  | .slice e, .own nm s o n => match Γ.get e with
    | some ei => if ei.size == s then match bndD lo 0, bndD hi n, mx with
      | some l, some h, none => some ⟨0 ≤ l ∧ l ≤ h ∧ h ≤ n, .own nm s (o + l.toNat) (h.toNat - l.toNat), .none⟩
      | _, _, _ => none
      else none
    | none => none
  | .str, .lit (.string s) => match bndD lo 0, bndD hi s.size, mx with
    | some l, some h, none => some ⟨0 ≤ l ∧ l ≤ h ∧ h ≤ s.size, .lit (.string (s.extract l.toNat h.toNat)), .none⟩
    | _, _, _ => none
  | _, _ => none
/-- what a slice or a string holds, of elements of the size 's' -/
def elemsD (tab : Tab) (s : Nat) (x : D) : Option (List D) :=
  match x with
  | .sl _ s' _ xs => if xs.isEmpty || s' == s then some xs else none
  | .own nm _ o n => match tab.get nm with
    | some (.arr false s' _ xs) => if s' = s then some ((xs.drop o).take n) else none
    | _ => none
  | .lit (.string b) => if s = 1 then some (b.toList.map fun c => .lit (.int .u8 c.toNat)) else none
  | .lit (.slice _ 0 _) => some []
  | _ => none
/-- the first 'n' of a row -/
def preL {α : Type} (n : Nat) (xs : List α) : List α := xs.take n
def ownName : D → Option Nm
  | .own nm _ _ _ => some nm
  | _ => none
def appendD (nm : Nm) (ei : TI) (tab : Tab) (a x : D) : Option AR :=
  if 0 < ei.size ∧ 0 < ei.bytes then match elemsD tab ei.size x with
    | none => none
    | some ys => match a with
      | .own nm' _ o n => match tab.get nm' with
        | some (.arr false s z xs) => if s = ei.size ∧ o = 0 ∧ ownName x ≠ some nm' then
            some ⟨elemsOk tab x ∧ n ≤ xs.length ∧ (n + ys.length) * ei.bytes ≤ 140737488355328, .own nm ei.size 0 (n + ys.length), .app (some nm') (.arr false s z (preL n xs ++ ys))⟩ else none
        | _ => none
      | .sl true s z xs => if xs.isEmpty || s == ei.size then
            some ⟨elemsOk tab x ∧ (xs = [] ∨ ys ≠ []) ∧ (xs.length + ys.length) * ei.bytes ≤ 140737488355328, .own nm ei.size 0 (xs.length + ys.length), .app none (.arr false ei.size ei.y (xs ++ ys))⟩ else none
      | _ => none
  else none
/-- a fresh row of zeros behind nothing -/
def appendMakeD (nm : Nm) (ei : TI) (a x : D) : Option AR :=
  match a, x with
  | .sl true s z [], .lit (.int _ n) => if 0 < ei.size ∧ 0 < ei.bytes then some ⟨0 ≤ n ∧ n * ei.bytes ≤ 140737488355328, .own nm ei.size 0 n.toNat, .app none (.arr false ei.size ei.y (List.replicate n.toNat ei.z))⟩ else none
  | _, _ => none
def capD (Γ : Ctx) (t : TypeId) (x : D) : Option AR :=
  match Γ.get t with
  | none => none
  | some ti => match ti.kind, x with
    | .slice _, .sl true _ _ xs => valR (.int .i64 xs.length)
    | _, _ => none
def makeSliceD (nm : Nm) (ei : TI) (l c : D) : Option AR :=
  match l, c with
  | .lit (.int _ l), .lit (.int _ c) => if 0 < ei.size ∧ 0 < ei.bytes then some ⟨0 ≤ l ∧ l ≤ c ∧ c * ei.bytes ≤ 140737488355328, .own nm ei.size 0 l.toNat, .new (.arr false ei.size ei.y (List.replicate l.toNat ei.z))⟩ else none
  | _, _ => none
def copyD (ei : TI) (tab : Tab) (a x : D) : Option AR :=
  match a, elemsD tab ei.size x with
  | .own nm _ o n, some ys => match tab.get nm with
    | some (.arr false s z xs) => if s = ei.size ∧ o = 0 ∧ ownName x ≠ some nm ∧ 0 < s then
        some ⟨elemsOk tab x ∧ n ≤ xs.length, .lit (.int .i64 (min ys.length n : Nat)), .set nm (.arr false s z (ys.take n ++ xs.drop (min ys.length n)))⟩ else none
    | _ => none
  | _, _ => none
/-- a range of cells is set to zero -/
def clearD (ei : TI) (tab : Tab) (a : D) : Option AR :=
  match a with
  | .own nm _ o n => match tab.get nm with
    | some (.arr false s z xs) => if s = ei.size ∧ 0 < s then
        some ⟨o + n ≤ xs.length, .tup [], .set nm (.arr false s z (xs.take o ++ List.replicate n ei.z ++ xs.drop (o + n)))⟩ else none
    | _ => none
  | _ => none
/-! ### maps -/
def TK.isSlice : TK → Bool
  | .slice _ => true
  | _ => false
def keyKind (Γ : Ctx) (k : TypeId) : Option Nat :=
  match Γ.get k with
  | some ki => match ki.kind with
    | .int .i64 => some 0
    | .str => some 1
    | .st _ => if ki.cmp = true then some (ki.size + 2) else none
    | _ => none
  | none => none
def intsD : List D → Option (List Int)
  | [] => some []
  | .lit (.int .i64 n) :: t => (intsD t).map (n :: ·)
  | _ => none
def keyOf : D → Option (Nat × List Int)
  | .lit (.int .i64 n) => some (0, [n])
  | .lit (.string s) => some (1, s.toList.map fun c => (c.toNat : Int))
  | .agg cs => (intsD cs).map fun l => (l.length + 2, l)
  | _ => none
def posK (k : List Int) : List (List Int) → Option Nat
  | [] => none
  | k' :: r => if k = k' then some 0 else (posK k r).map (· + 1)
def lookK (ks : List (List Int)) (vs : List D) (k : List Int) : Option D := (posK k ks).map fun j => vs.getD j .any
def insK (ks : List (List Int)) (k : List Int) : List (List Int) := if (posK k ks).isSome then ks else ks ++ [k]
def updK (ks : List (List Int)) (vs : List D) (k : List Int) (v : D) : List D := match posK k ks with
  | some j => vs.set j v
  | none => vs ++ [v]
/-- a new map: of slices, or of what is one cell or more -/
def mapO (Γ : Ctx) (kk : Nat) (ei : TI) : OO :=
  match ei.kind with
  | .slice e2 => match Γ.get e2 with
    | some ei2 => .rmap kk [] ei2.size ei2.y [] none
    | none => .map kk [] ei.z []
  | _ => .map kk [] ei.z []
def makeMapD (Γ : Ctx) (nm : Nm) (ti : TI) (r : Option D) : Option AR :=
  match ti.kind with
  | .map k e => match keyKind Γ k, Γ.get e with
    | some kk, some ei => match r with
      | none => some ⟨True, .mp nm, .new (mapO Γ kk ei)⟩
      | some (.lit (.int .i64 _)) => some ⟨True, .mp nm, .new (mapO Γ kk ei)⟩
      | _ => none
    | _, _ => none
  | _ => none
/-- a map whose values are slices -/
def rowsMap (Γ : Ctx) (ti : TI) : Bool :=
  match ti.kind with
  | .map _ e => match Γ.get e with
    | some ei => ei.kind.isSlice
    | none => false
  | _ => false
/-- a row is taken out of a map of one's own, or looked at in a frozen one -/
def lookrD (Γ : Ctx) (tab : Tab) (nm : Nm) (ti : TI) (x i : D) : Option AR :=
  match ti.kind with
  | .map k e => match keyKind Γ k, Γ.get e, keyOf i with
    | some kk, some ei, some (kk', key) => if kk = kk' then match ei.kind, ei.z with
      | .slice e2, .sl true _ _ [] => match Γ.get e2 with
        | some ei2 => match x with
          | .fm kk2 ks z vs => if kk2 = kk then okR ((lookK ks vs key).getD (.sl false ei2.size ei2.y [])) else none
          | .mp nm0 => match tab.get nm0 with
            | some (.rmap kk2 ks s z rows none) => if kk2 = kk then match posK key ks with
              | none => okR (.sl true ei2.size ei2.y [])
              | some j => some ⟨True, .own nm s 0 (rows.getD j []).length, .split nm0 (.rmap kk ks s z rows (some j)) (.arr false s z (rows.getD j []))⟩
              else none
            | _ => none
          | _ => none
        | none => none
      | _, _ => none
      else none
    | _, _, _ => none
  | _ => none
def lookupD (Γ : Ctx) (tab : Tab) (ti : TI) (x i : D) (ok : Bool) : Option AR :=
  match ti.kind with
  | .map k e => match keyKind Γ k, Γ.get e, keyOf i with
    | some kk, some ei, some (kk', key) => if kk = kk' then match x with
      | .fm kk2 ks z vs => if kk2 = kk then okR (if ok then .tup [(lookK ks vs key).getD ei.z, .lit (.bool (lookK ks vs key).isSome)] else (lookK ks vs key).getD ei.z) else none
      | .mp nm => match tab.get nm with
        | some (.map kk2 ks z vs) => if kk2 = kk then
            okR (if ok then .tup [(lookK ks vs key).getD ei.z, .lit (.bool (lookK ks vs key).isSome)] else (lookK ks vs key).getD ei.z) else none
        | _ => none
      | _ => none
      else none
    | _, _, _ => none
  | _ => none
def updR (ks : List (List Int)) (rows : List (List D)) (k : List Int) (row : List D) : List (List D) := match posK k ks with
  | some j => rows.set j row
  | none => rows ++ [row]
/-- a key, as a datum -/
def keyV (kk : Nat) (k : List Int) : D :=
  match kk with
  | 0 => .lit (.int .i64 (k.headD 0))
  | 1 => .lit (kval 1 k)
  | _ => .agg (k.map fun n => .lit (.int .i64 n))
/-- a loop over a map begins, or over a string -/
def rangeD (nm : Nm) (ti : TI) (x : D) : Option AR :=
  match ti.kind, x with
  | .map _ _, .fm kk ks z vs => some ⟨True, .it nm, .new (.mit kk ks z vs [])⟩
  | .str, .lit (.string s) => some ⟨True, .it nm, .new (.sit s 0)⟩
  | _, _ => none
/-- the entry of the round -/
def entryD (tab : Tab) (x : D) : Option AR :=
  match x with
  | .it nm => match tab.get nm with
    | some (.mit kk ks z vs seen) => some ⟨seen ≠ [], .tup [keyV kk (ks.getD (seen.getLast?.getD 0) []), vs.getD (seen.getLast?.getD 0) z], .none⟩
    | _ => none
  | _ => none
/-- the next rune of a string -/
def runeD (tab : Tab) (x : D) : Option AR :=
  match x with
  | .it nm => match tab.get nm with
    | some (.sit s pos) => if pos < s.size then some ⟨True, .tup [.lit (.bool true), .lit (.int .i64 pos), .lit (.int .i32 (Utf8.decode s pos).1)], .set nm (.sit s (pos + (Utf8.decode s pos).2))⟩
      else some ⟨True, .tup [.lit (.bool false)], .none⟩
    | _ => none
  | _ => none
def mapUpdateD (Γ : Ctx) (tab : Tab) (ti : TI) (x i v : D) : Option AR :=
  match ti.kind with
  | .map k e => match keyKind Γ k, keyOf i with
    | some kk, some (kk', key) => if kk = kk' then match x with
      | .mp nm => match tab.get nm with
        | some (.map kk2 ks z vs) => if kk2 = kk then (if pureD v = true then some ⟨True, .any, .set nm (.map kk (insK ks key) z (updK ks vs key v))⟩ else match v with
          | .ptr nv 0 => match tab.get nv with
            | some (.box d) => if pureD d = true ∧ nv ≠ nm then some ⟨True, .any, .put nv nm (.map kk (insK ks key) z (updK ks vs key (.el d)))⟩ else none
            | _ => none
          | _ => none) else none
        | some (.rmap kk2 ks s z rows hole) => if kk2 = kk then match v with
          | .own nv s1 0 n => match tab.get nv with
            | some (.arr false s2 _ xs) => if s2 = s ∧ s1 = s ∧ nv ≠ nm then some ⟨n ≤ xs.length ∧ (hole = none ∨ posK key ks = hole), .any, .put nv nm (.rmap kk (insK ks key) s z (updR ks rows key (preL n xs)) none)⟩ else none
            | _ => none
          | _ => none
          else none
        | _ => none
      | _ => none
      else none
    | _, _ => none
  | _ => none

def delK (ks : List (List Int)) (k : List Int) : List (List Int) := match posK k ks with
  | none => ks
  | some j => ks.eraseIdx j
def delV (ks : List (List Int)) (vs : List D) (k : List Int) : List D := match posK k ks with
  | none => vs
  | some j => vs.eraseIdx j
/-- an entry of a map of one's own goes -/
def deleteD (Γ : Ctx) (tab : Tab) (ti : TI) (x i : D) : Option AR :=
  match ti.kind with
  | .map k e => match keyKind Γ k, keyOf i with
    | some kk, some (kk', key) => if kk = kk' then match x with
      | .mp nm => match tab.get nm with
        | some (.map kk2 ks z vs) => if kk2 = kk then some ⟨True, .tup [], .set nm (.map kk (delK ks key) z (delV ks vs key))⟩ else none
        | _ => none
      | _ => none
      else none
    | _, _ => none
  | _ => none
/-- how many entries a map of one's own has -/
def lenM (Γ : Ctx) (tab : Tab) (t : TypeId) (x : D) : Option AR :=
  match Γ.get t with
  | none => none
  | some ti => match ti.kind, x with
    | .map _ _, .mp nm => match tab.get nm with
      | some (.map _ ks _ _) => valR (.int .i64 ks.length)
      | _ => none
    | _, _ => none
/-- nil, as a slice -/
def isNilC : Operand → Bool
  | .const (.slice none _ _) => true
  | _ => false
def nilS : D → Option Bool
  | .lit (.slice a _ _) => some a.isNone
  | .sl _ _ _ (_ :: _) => some false
  | _ => none
/-- a slice is compared with nil -/
def cmpNil (Γ : Ctx) (b : BinOp) (t : TypeId) (x : D) : Option AR :=
  match Γ.get t with
  | some ti => if ti.kind.isSlice then match nilS x with
    | some c => match b with
      | .eql => valR (.bool c)
      | .neq => valR (.bool !c)
      | _ => none
    | none => none
    else none
  | none => none
def binE (Γ : Ctx) (m : Bool) (c : Bool) (b : BinOp) (t : TypeId) (y : Operand) (dx dy : D) : Option AR :=
  if isNilC y then cmpNil Γ b t dx else binD Γ m c b t dx dy

def aval (Γ : Ctx) (m : Bool) (tab : Tab) (nm : Nm) (ρ : Operand → D) (op : Op) : Option AR :=
  match op with
  | .move x => okR (ρ x)
  | .assign x => okR (ρ x)
  | .binOp b t x y _ => binE Γ m (match x, y with | .const _, _ => true | _, .const _ => true | _, _ => false) b t y (ρ x) (ρ y)
  | .unOp u _ x => unD m u (ρ x)
  | .box _ x => newBox nm (ρ x)
  | .alloc e => match Γ.get e with
    | some ti => newBox nm ti.z
    | none => none
  | .build t ps => match Γ.get t with
    | some ti => buildD Γ ti (ps.toList.map fun p => (p.1, ρ p.2))
    | none => none
  | .load t a => match Γ.get t with
    | some ti => loadD ti tab (ρ a)
    | none => none
  | .store t a x => match Γ.get t with
    | some ti => storeD ti tab (ρ a) (ρ x)
    | none => none
  | .fieldAddr t x i => match Γ.get t with
    | some ti => fieldAddrD Γ ti (ρ x) i
    | none => none
  | .field t x i => match Γ.get t with
    | some ti => fieldD Γ ti (ρ x) i
    | none => none
  | .extract x i => match ρ x with
    | .tup ds => match ds[i]? with
      | some d => okR d
      | none => none
    | _ => none
  | .indexAddr t x i => match Γ.get t with
    | some ti => indexAddrD Γ ti (ρ x) (ρ i)
    | none => none
  | .index t x i => match Γ.get t with
    | some ti => indexD Γ ti (ρ x) (ρ i)
    | none => none
  | .convert src dst x => match Γ.get src, Γ.get dst with
    | some si, some di => convD Γ m tab si di (ρ x)
    | _, _ => none
  | .makeInterface t x => match Γ.get t with
    | some ti => if ti.kind.concrete then okR (.iface t (ρ x)) else none
    | none => none
  | .makeFunc fn fs cs => okR (.fn fn (fs.toList.map ρ) (cs.toList.map ρ))
  | .buildSlice t len ps => match Γ.get t with
    | some ti => match ti.kind with
      | .slice e => match Γ.get e with
        | some ei => buildSliceD nm ei len (ps.toList.map fun p => (p.1, ρ p.2))
        | none => none
      | _ => none
    | none => none
  | .makeSlice t l c => match Γ.get t with
    | some ti => match ti.kind with
      | .slice e => match Γ.get e with
        | some ei => makeSliceD nm ei (ρ l) (ρ c)
        | none => none
      | _ => none
    | none => none
  | .makeMap t r => match Γ.get t with
    | some ti => makeMapD Γ nm ti (r.map ρ)
    | none => none
  | .lookup t x i ok => match Γ.get t with
    | some ti => if rowsMap Γ ti = true then (if ok = false then lookrD Γ tab nm ti (ρ x) (ρ i) else none) else lookupD Γ tab ti (ρ x) (ρ i) ok
    | none => none
  | .range t x => match Γ.get t with
    | some ti => rangeD nm ti (ρ x)
    | none => none
  | .entry x => entryD tab (ρ x)
  | .next x s => if s = true then runeD tab (ρ x) else none
  | .mapUpdate t x i v => match Γ.get t with
    | some ti => mapUpdateD Γ tab ti (ρ x) (ρ i) (ρ v)
    | none => none
  | .slice t x lo hi mx => match Γ.get t with
    | some ti => sliceD Γ ti (ρ x) (lo.map ρ) (hi.map ρ) (mx.map ρ)
    | none => none
  | .typeAssert x _ t ok => match Γ.get t with
    | some ti => if ti.kind.concrete then assertD t ti (ρ x) ok else none
    | none => none
  | .nilCheck x => match ρ x with
    | .el d => okR (.el d)
    | .ptr n o => okR (.ptr n o)
    | .elp n i o => okR (.elp n i o)
    | .fn (.func f) a b => okR (.fn (.func f) a b)
    | _ => none
  | .call c => match c.callee with
    | .builtin .len => match c.args.toList, c.argTypes.toList with
      | [x], [t] => match lenD Γ t (ρ x) with
        | some r => some r
        | none => lenM Γ tab t (ρ x)
      | _, _ => none
    | .builtin .cap => match c.args.toList, c.argTypes.toList with
      | [x], [t] => capD Γ t (ρ x)
      | _, _ => none
    | .builtin .append => match c.args.toList, c.argTypes.toList with
      | [x, y], [t, u] => match Γ.get t, Γ.get u with
        | some ti, some ui => match ti.kind, ui.kind with
          | .slice e, .int _ => match Γ.get e with
            | some ei => appendMakeD nm ei (ρ x) (ρ y)
            | none => none
          | .slice e, _ => match Γ.get e with
            | some ei => appendD nm ei tab (ρ x) (ρ y)
            | none => none
          | _, _ => none
        | _, _ => none
      | _, _ => none
    | .builtin .copy => match c.args.toList, c.argTypes.toList with
      | [x, y], [t, u] => match Γ.get t with
        | some ti => match ti.kind with
          | .slice e => match Γ.get e with
            | some ei => copyD ei tab (ρ x) (ρ y)
            | none => none
          | _ => none
        | none => none
      | _, _ => none
    | .builtin .clear => match c.args.toList, c.argTypes.toList with
      | [x], [t] => match Γ.get t with
        | some ti => match ti.kind with
          | .slice e => match Γ.get e with
            | some ei => clearD ei tab (ρ x)
            | none => none
          | _ => none
        | none => none
      | _, _ => none
    | .builtin .delete => match c.args.toList, c.argTypes.toList with
      | [x, i], [t, _] => match Γ.get t with
        | some ti => deleteD Γ tab ti (ρ x) (ρ i)
        | none => none
      | _, _ => none
    | _ => none
  | _ => none
def applyE (tab : Tab) (nm : Nm) : Eff → Tab
  | .none => tab
  | .frz => tab
  | .new o => tab.set nm o
  | .set n o => tab.set n o
  | .app (some d) o => (tab.set d .dead).set nm o
  | .app none o => tab.set nm o
  | .put d n o => (tab.set d .dead).set n o
  | .split n o o' => (tab.set n o).set nm o'

section
variable {P : Program} {w : World} {F : Nat → Prop} {hp : Array Obj} {β : Beta} {Γ : Ctx}
theorem isNilC_spec {y : Operand} (h : isNilC y = true) : ∃ a b, y = .const (.slice none a b) := by
  cases y with
  | const v =>
    cases v with
    | slice p a b =>
      cases p with
      | none => exact ⟨a, b, rfl⟩
      | some q => simp [isNilC] at h
    | _ => simp [isNilC] at h
  | _ => simp [isNilC] at h
theorem nilS_sound {x : D} {vx : Value} {c : Bool} (h : nilS x = some c) (rx : Rep F hp β x vx) : ∃ a n k, vx = .slice a n k ∧ c = a.isNone := by
  unfold nilS at h
  split at h
  · simp only [Rep] at rx; subst rx
    simp only [Option.some.injEq] at h
    exact ⟨_, _, _, rfl, h.symm⟩
  · simp only [Option.some.injEq] at h
    simp only [Rep] at rx
    rcases rx with ⟨h0, _⟩ | ⟨b, off, cap, _, _, _, rfl, _⟩
    · exact absurd h0 (by simp)
    · exact ⟨_, _, _, rfl, by rw [← h]; rfl⟩
  · simp at h
theorem cmpNil_sound (hΓ : Γ.ok P) {b : BinOp} {t : TypeId} {x : D} {vx : Value} {ox oy : Operand} {i j : Nat} {r : AR} (h : cmpNil Γ b t x = some r) (rx : Rep F hp β x vx) :
    r.eff = .none ∧ ∃ v, (do eqGuard b t ox oy vx (.slice none i j); binOp b t vx (.slice none i j) : Sem Value).run P w = .ok v w ∧ Rep F hp β r.d v := by
  unfold cmpNil at h
  split at h
  · rename_i ti hti
    split at h
    · rename_i hs
      split at h
      · rename_i c hc
        obtain ⟨a, n, k, rfl, rfl⟩ := nilS_sound hc rx
        have hk := (Ctx.get_ok hΓ hti).kind
        obtain ⟨d, hd⟩ : ∃ e, P.underlying t = some (.slice e) := by
          cases hx : ti.kind <;> simp only [hx, TK.isSlice, Bool.false_eq_true] at hs
          simp only [hx, TK.ok] at hk
          exact ⟨_, hk⟩
        have hg : (eqGuard b t ox oy (.slice a n k) (.slice none i j)).run P w = .ok () w := by unfold eqGuard; cases b <;> simp
        have key : ∀ m, (Op.equalIn (m + 1) t (.slice a n k) (.slice none i j)).run P w = .ok a.isNone w := fun m => by
          simp only [Op.equalIn, Sem.run_bind, run_und hd, Result.andThen_ok]
          cases a <;> rfl
        have he : (Op.equal t (.slice a n k) (.slice none i j)).run P w = .ok a.isNone w := key 9999
        simp only [Sem.run_bind, hg, Result.andThen_ok]
        cases b <;> simp only [reduceCtorEq] at h
        all_goals
          obtain ⟨e1, e2⟩ := valR_sound h
          refine ⟨e1, _, ?_, rep_of_lit e2⟩
          simp only [binOp, Sem.run_bind, he, Result.andThen_ok, Sem.run_pure]
      · simp at h
    · simp at h
  · simp at h
theorem cmpNil_eff {b : BinOp} {t : TypeId} {x : D} {r : AR} (h : cmpNil Γ b t x = some r) : r.eff = .none := by
  unfold cmpNil at h
  repeat' first
    | exact (valR_sound h).1
    | (simp only [reduceCtorEq] at h; done)
    | split at h
end
end Go.Eng
namespace Go.Eng
set_option linter.unusedVariables false
set_option linter.unusedSimpArgs false

section
variable {P : Program} {w : World} {F : Nat → Prop} {β : Beta} {Γ : Ctx} {t : TypeId} {ti : TI}

theorem sub_rep {hp : Array Obj} {cs : List D} {vs : List Value} {o : Nat} {d : D} (h : subD ti cs o = some d) (r : Reps F hp β cs vs) :
    (ti.kind.isAgg = true ∧ o + ti.size ≤ vs.length ∧ Rep F hp β d (.agg ((vs.drop o).take ti.size).toArray)) ∨
    (ti.kind.isAgg = false ∧ ∃ v, vs[o]? = some v ∧ Rep F hp β d v) := by
  have hl := r.length
  unfold subD at h
  split at h
  · rename_i ha
    split at h
    · rename_i hlt
      simp only [Option.some.injEq] at h; subst h
      refine .inl ⟨ha, by omega, ?_⟩
      simp only [Rep]
      exact ⟨_, rfl, r.take_drop o ti.size⟩
    · simp at h
  · rename_i ha
    have hlt : o < cs.length := (List.getElem?_eq_some_iff.1 h).1
    have he : cs[o] = d := (List.getElem?_eq_some_iff.1 h).2
    obtain ⟨v, hv, rv⟩ := r.get o hlt
    exact .inr ⟨by simpa using ha, v, hv, by rw [he] at rv; exact rv⟩
theorem part_rep {hp : Array Obj} {d d' : D} {v : Value} {o : Nat} (h : partD ti d o = some d') (r : Rep F hp β d v) :
    (ti.kind.isAgg = true ∧ o + ti.size ≤ v.cells.size ∧ Rep F hp β d' (.agg ((v.cells.toList.drop o).take ti.size).toArray)) ∨
    (ti.kind.isAgg = false ∧ ∃ u, v.cells[o]? = some u ∧ Rep F hp β d' u) := by
  unfold partD at h
  split at h
  · rename_i cs
    simp only [Rep] at r
    obtain ⟨vs, rfl, r⟩ := r
    simpa [Value.cells] using sub_rep h r
  · split at h
    · rename_i hc
      obtain ⟨rfl, h1, h2⟩ := hc
      simp only [Option.some.injEq] at h; subst h
      refine .inr ⟨h1, v, ?_, r⟩
      rw [cells_of_one (oneD_oneCell h2 r)]; simp
    · simp at h

theorem run_load_row (ht : ti.ok P t) {b off : Nat} {c : Array Value} {e fr} (hb : w.heap[b]? = some (.cells c e fr)) {vs : List Value}
    (hs : ∀ j v, vs[j]? = some v → c[off + j]? = some v) :
    (ti.kind.isAgg = true → vs.length = ti.size → (Instr.loadAt t (.pointer (some ⟨b, off, none⟩))).run P w = .ok (.agg vs.toArray) w) ∧
    (ti.kind.isAgg = false → ∀ v, vs = [v] → (Instr.loadAt t (.pointer (some ⟨b, off, none⟩))).run P w = .ok v w) := by
  constructor
  · intro ha hl
    have hc : (loadCells ⟨b, off, none⟩ vs.length).run P w = .ok vs.toArray w := run_loadCells_list w _ vs fun j v hj => by
      rw [Addr.add_lit]; simp [World.cell?, hb, hs j v hj]
    rw [hl] at hc
    simp [Instr.loadAt, Instr.sureAddr, loadVar, ht.run_isAgg, ha, ht.run_size, hc]
  · intro ha v hv
    subst hv
    have := hs 0 v (by simp)
    simp only [Nat.add_zero] at this
    simp [Instr.loadAt, Instr.sureAddr, loadVar, ht.run_isAgg, ha, World.cell?, hb, this]
theorem run_loadPart (ht : ti.ok P t) {hp : Array Obj} {b base off : Nat} {c : Array Value} {e fr} (hb : w.heap[b]? = some (.cells c e fr)) {d d' : D} {v : Value} (hs : Seg c base v.cells)
    (hp' : partD ti d off = some d') (r : Rep F hp β d v) : ∃ u, (Instr.loadAt t (.pointer (some ⟨b, base + off, none⟩))).run P w = .ok u w ∧ Rep F hp β d' u := by
  rcases part_rep hp' r with ⟨ha, hl, hr⟩ | ⟨ha, u, hu, hr⟩
  · refine ⟨_, (run_load_row ht hb (vs := (v.cells.toList.drop off).take ti.size) ?_).1 ha (by simp; omega), hr⟩
    intro j u hj
    simp only [List.getElem?_take, List.getElem?_drop, Array.getElem?_toList] at hj
    split at hj
    · have := hs (off + j) (by have := (Array.getElem?_eq_some_iff.1 hj).1; omega)
      rw [Nat.add_assoc, this]; exact hj
    · simp at hj
  · refine ⟨u, (run_load_row ht hb (vs := [u]) ?_).2 ha u rfl, hr⟩
    intro j u' hj
    cases j with
    | zero =>
      simp at hj; subst hj
      have := hs off (Array.getElem?_eq_some_iff.1 hu).1
      simpa [hu] using this
    | succ j => simp at hj

theorem und_st {fs} (ht : ti.ok P t) (hk : ti.kind = .st fs) : ∃ a, P.underlying t = some (.struct a) ∧ a.toList.map (fun f : Field => (f.offset, f.type)) = fs := by
  have := ht.kind; rw [hk] at this; exact this
theorem st_field {a : Array Field} {fs : List (Nat × TypeId)} (h : a.toList.map (fun f : Field => (f.offset, f.type)) = fs) {i o : Nat} {ft : TypeId} (hi : fs[i]? = some (o, ft)) :
    ∃ f, a[i]? = some f ∧ f.offset = o ∧ f.type = ft := by
  subst h
  simp only [List.getElem?_map, Array.getElem?_toList] at hi
  cases hf : a[i]? with
  | none => simp [hf] at hi
  | some f => simp [hf] at hi; exact ⟨f, rfl, hi.1, hi.2⟩
theorem run_fieldAt {fs : List (Nat × TypeId)} {i o : Nat} {ft : TypeId} {fi : TI} (ht : ti.ok P t) (hk : ti.kind = .st fs) (hi : fs[i]? = some (o, ft)) (hf : fi.ok P ft) (hz : fi.size ≠ 0) (b off : Nat) :
    (Instr.fieldAt t (.pointer (some ⟨b, off, none⟩)) i).run P w = .ok (.pointer (some ⟨b, off + o, none⟩)) w := by
  obtain ⟨a, ha, hfs⟩ := und_st ht hk
  obtain ⟨f, hf1, rfl, rfl⟩ := st_field hfs hi
  simp [Instr.fieldAt, run_und ha, hf1, Instr.sureAddr, fieldPlace, hf.run_size, hz, Addr.add_lit]
theorem run_field {fs : List (Nat × TypeId)} {i o : Nat} {ft : TypeId} {fi : TI} (ht : ti.ok P t) (hk : ti.kind = .st fs) (hi : fs[i]? = some (o, ft)) (hf : fi.ok P ft) (vs : List Value) :
    (fi.kind.isAgg = true → o + fi.size ≤ vs.length → (Instr.field t (.agg vs.toArray) i).run P w = .ok (.agg ((vs.drop o).take fi.size).toArray) w) ∧
    (fi.kind.isAgg = false → ∀ v, vs[o]? = some v → (Instr.field t (.agg vs.toArray) i).run P w = .ok v w) := by
  obtain ⟨a, ha, hfs⟩ := und_st ht hk
  obtain ⟨f, hf1, rfl, rfl⟩ := st_field hfs hi
  constructor
  · intro hagg hl
    simp only [Instr.field, Sem.run_bind, run_und ha, Result.andThen_ok, hf1, asAgg, Sem.run_pure, part, hf.run_isAgg, hagg, if_true, hf.run_size]
    congr 2
    apply Array.ext'
    simp [List.extract_eq_take_drop]
  · intro hagg v hv
    simp [Instr.field, run_und ha, hf1, asAgg, part, hf.run_isAgg, hagg, hv]
theorem foldl_over (off : Nat) : ∀ (l : List Value) (k : Nat) (cs : Array Value), off + k + l.length ≤ cs.size →
    (l.zipIdx k).foldl (fun cs (p : Value × Nat) => cs.setIfInBounds (off + p.2) p.1) cs = (cs.toList.take (off + k) ++ l ++ cs.toList.drop (off + k + l.length)).toArray
  | [], k, cs, _ => by simp
  | v :: l, k, cs, h => by
    simp only [List.zipIdx_cons, List.foldl_cons]
    rw [foldl_over off l (k + 1) _ (by simp at h ⊢; omega)]
    have e := list_seg_step cs.toList (off + k) v l (by simp at h ⊢; omega)
    simp only [Array.toList_setIfInBounds, List.length_cons]
    rw [show off + (k + 1) = off + k + 1 by omega, e]
/-- a stretch of a row is put in the place of another -/
theorem reps_splice {hp : Array Obj} {ds xs : List D} {vs ws : List Value} {o s : Nat} (r : Reps F hp β ds vs) (rx : Reps F hp β xs ws) (hl : xs.length = s) (ho : o + s ≤ ds.length) :
    Reps F hp β (ds.take o ++ xs ++ ds.drop (o + s)) (vs.take o ++ ws ++ vs.drop (o + s)) := by
  have l1 := r.length
  have l2 := rx.length
  refine Reps.append (Reps.append ?_ rx) ?_
  · have := r.take_drop 0 o; simpa using this
  · have := r.take_drop (o + s) ds.length
    rw [List.take_of_length_le (by simp), List.take_of_length_le (by simp; omega)] at this
    exact this
theorem fill_rep {hp : Array Obj} {places : List (Nat × Nat)} {f : Nat → Option (Nat × Nat)} (hf : ∀ i p, places[i]? = some p → f i = some p) {ρD : List (Nat × D)} : ∀ {ds : List D} {vs : Array Value} {parts : List (Nat × Value)} {out : List D},
    fillD places ds ρD = some out → Reps F hp β ds vs.toList → parts.map (·.1) = ρD.map (·.1) → (∀ (i : Nat) (hi : i < ρD.length) (hi' : i < parts.length), Rep F hp β ρD[i].2 parts[i].2) →
    ∃ c, Instr.fill f vs parts = some c ∧ Reps F hp β out c.toList := by
  induction ρD with
  | nil =>
    intro ds vs parts out h r hm _
    simp only [fillD, Option.some.injEq] at h; subst h
    have : parts = [] := by simpa using hm
    subst this
    exact ⟨vs, rfl, r⟩
  | cons p ρD ih =>
    obtain ⟨i, d⟩ := p
    intro ds vs parts out h r hm hr
    cases parts with
    | nil => simp at hm
    | cons q parts =>
      obtain ⟨i', v⟩ := q
      simp only [List.map_cons, List.cons.injEq] at hm
      obtain ⟨hi, hm⟩ := hm
      have hi' : i' = i := hi
      subst hi'
      simp only [fillD] at h
      split at h
      · rename_i o s hp1
        split at h
        · rename_i hc
          obtain ⟨h1, h2, h3⟩ := hc
          have rv : Rep F hp β d v := hr 0 (by simp) (by simp)
          have rc := rv.cells h3
          have hlen : v.cells.size = s := by have := rc.length; simp at this; omega
          have hlv : vs.size = ds.length := by have := r.length; simpa using this
          have r' := reps_splice r rc h1 h2
          obtain ⟨c, hc1, hc2⟩ := ih (vs := (vs.toList.take o ++ v.cells.toList ++ vs.toList.drop (o + s)).toArray) (parts := parts) h (by simpa using r') hm
            (fun j hj hj' => by have := hr (j + 1) (by simpa using hj) (by simpa using hj'); simpa using this)
          refine ⟨c, ?_, hc2⟩
          have hp2 : f i' = some (o, s) := hf _ _ hp1
          have hfo := foldl_over o v.cells.toList 0 vs (by simp; omega)
          simp only [Instr.fill, hp2]
          rw [if_neg (by simp; omega)]
          have e0 : v.cells.zipIdx.foldl (fun cs x => match x with | (c, j) => cs.setIfInBounds (o + j) c) vs = (vs.toList.take o ++ v.cells.toList ++ vs.toList.drop (o + s)).toArray := by
            rw [← Array.foldl_toList]
            simp only [Array.toList_zipIdx]
            simp only [Nat.add_zero, Array.length_toList, hlen] at hfo
            exact hfo
          rw [e0]
          exact hc1
        · simp at h
      · simp at h
theorem places_ok (hΓ : Γ.ok P) : ∀ {fs : List Field} {places}, placesD Γ (fs.map fun f => (f.offset, f.type)) = some places →
    fs.mapM (fun f => (P.info? f.type).map fun i => (f.offset, i.size)) = some places
  | [], places, h => by simp [placesD] at h; subst h; rfl
  | f :: fs, places, h => by
    simp only [List.map_cons, placesD] at h
    split at h
    · rename_i x l hx hl
      simp only [Option.some.injEq] at h; subst h
      have h1 := (Ctx.get_ok hΓ hx).size
      cases hi : P.info? f.type with
      | none => simp [hi] at h1
      | some i =>
        simp [hi] at h1
        simp [List.mapM_cons, hi, places_ok hΓ hl, h1]
    · simp at h

theorem getElem?_splice {α : Type} (l ws : List α) (o : Nat) (h : o + ws.length ≤ l.length) (j : Nat) :
    (l.take o ++ ws ++ l.drop (o + ws.length))[j]? = if j < o then l[j]? else if j < o + ws.length then ws[j - o]? else l[j]? := by
  have t1 : (l.take o).length = o := by simp; omega
  have t2 : (l.take o ++ ws).length = o + ws.length := by simp; omega
  split
  · rename_i k
    rw [List.append_assoc, List.getElem?_append_left (by omega), List.getElem?_take, if_pos k]
  · split
    · rw [List.getElem?_append_left (by omega), List.getElem?_append_right (by omega), t1]
    · rw [List.getElem?_append_right (by omega), List.getElem?_drop, t2]
      congr 1; omega
/-- a part of a value in memory is written -/
theorem run_storePart (ht : ti.ok P t) {hp : Array Obj} {b base off : Nat} {c : Array Value} {e} (hb : w.heap[b]? = some (.cells c e (0, 0))) {d d' x : D} {v vx : Value} (hs : Seg c base v.cells) (hz : base + v.cells.size ≤ c.size)
    (hu : updD ti d off x = some d') (r : Rep F hp β d v) (rx : Rep F hp β x vx) (h1c : d.isAgg = false → v.cells.size = 1) :
    ∃ (v' : Value) (c' : Array Value), Rep F hp β d' v' ∧ (okD d = true → okD d' = true) ∧ v'.cells.size = v.cells.size ∧ (do Instr.storeAt t (.pointer (some ⟨b, base + off, none⟩)) vx; pure .skip : Sem Next).run P w = .ok .skip (w.setRow b c') ∧ Seg c' base v'.cells ∧ c'.size = c.size ∧
      ∀ j, (j < base ∨ base + v.cells.size ≤ j) → c'[j]? = c[j]? := by
  have go : okD x = true → vx.cells.toList.length = ti.size → off + ti.size ≤ v.cells.size → (do Instr.storeAt t (.pointer (some ⟨b, base + off, none⟩)) vx; pure .skip : Sem Next).run P w =
      .ok .skip (w.setRow b (c.toList.take (base + off) ++ vx.cells.toList ++ c.toList.drop (base + off + vx.cells.toList.length)).toArray) := by
    intro hok hsz hle
    have hst := run_storeCells_at P b (base + off) e vx.cells.toList 0 c w hb (by omega) (rx.ones hok)
    simp only [Nat.add_zero] at hst
    simp only [Instr.storeAt, Instr.sureAddr, storeVar, Sem.run_bind, Sem.run_pure, Result.andThen_ok, ht.run_size]
    rw [if_neg (by simp at hsz ⊢; omega)]
    simp only [Result.andThen_ok, Sem.run_pure, Sem.run_bind, hst]
  have fin : ∀ (v' : Value), okD x = true → vx.cells.toList.length = ti.size → off + ti.size ≤ v.cells.size → v'.cells.toList = v.cells.toList.take off ++ vx.cells.toList ++ v.cells.toList.drop (off + vx.cells.toList.length) → 
      v'.cells.size = v.cells.size ∧ (do Instr.storeAt t (.pointer (some ⟨b, base + off, none⟩)) vx; pure .skip : Sem Next).run P w = .ok .skip (w.setRow b (c.toList.take (base + off) ++ vx.cells.toList ++ c.toList.drop (base + off + vx.cells.toList.length)).toArray) ∧
      Seg (c.toList.take (base + off) ++ vx.cells.toList ++ c.toList.drop (base + off + vx.cells.toList.length)).toArray base v'.cells ∧ (c.toList.take (base + off) ++ vx.cells.toList ++ c.toList.drop (base + off + vx.cells.toList.length)).toArray.size = c.size ∧
      ∀ j, (j < base ∨ base + v.cells.size ≤ j) → (c.toList.take (base + off) ++ vx.cells.toList ++ c.toList.drop (base + off + vx.cells.toList.length)).toArray[j]? = c[j]? := by
    intro v' hok hsz hle hv'
    have hl : v'.cells.size = v.cells.size := by
      have := congrArg List.length hv'
      simp only [Array.length_toList, List.length_append, List.length_take, List.length_drop] at this hsz
      omega
    have hcl : (base + off) + vx.cells.toList.length ≤ c.toList.length := by simp only [Array.length_toList] at *; omega
    have hvl : off + vx.cells.toList.length ≤ v.cells.toList.length := by simp only [Array.length_toList] at *; omega
    refine ⟨hl, go hok hsz hle, fun j hj => ?_, ?_, fun j hj => ?_⟩
    · have e1 : v'.cells[j]? = v'.cells.toList[j]? := by simp
      rw [e1, hv', List.getElem?_toArray, getElem?_splice _ _ _ hcl, getElem?_splice _ _ _ hvl]
      have hsj := hs j (by omega)
      have hlen : vx.cells.toList.length = ti.size := hsz
      by_cases k1 : j < off
      · rw [if_pos (by omega), if_pos k1]; simpa using hsj
      · by_cases k2 : j < off + vx.cells.toList.length
        · rw [if_neg (by omega), if_pos (by omega), if_neg k1, if_pos k2]; congr 1; omega
        · rw [if_neg (by omega), if_neg (by omega), if_neg k1, if_neg k2]; simpa using hsj
    · simp only [List.size_toArray, List.length_append, List.length_take, List.length_drop, Array.length_toList] at hcl ⊢
      omega
    · rw [List.getElem?_toArray, getElem?_splice _ _ _ hcl]
      have : vx.cells.toList.length = ti.size := hsz
      rcases hj with hj | hj
      · rw [if_pos (by omega)]; simp
      · rw [if_neg (by omega), if_neg (by omega)]; simp
  unfold updD at hu
  split at hu
  · rename_i cs
    split at hu
    · rename_i hc
      obtain ⟨h1, h2, h3⟩ := hc
      simp only [Option.some.injEq] at hu; subst hu
      simp only [Rep] at r
      obtain ⟨vs, rfl, r⟩ := r
      have rc := rx.cells h3
      have l1 := r.length
      have l2 := rc.length
      obtain ⟨f1, f2, f3, f4, f5⟩ := fin (.agg (vs.take off ++ vx.cells.toList ++ vs.drop (off + ti.size)).toArray) h3 (by omega) (by simp [Value.cells]; omega) (by rw [show vx.cells.toList.length = ti.size from by omega]; rfl)
      refine ⟨_, _, ?_, fun hok => ?_, f1, f2, f3, f4, f5⟩
      · simp only [Rep]; exact ⟨_, rfl, reps_splice r rc h1 h2⟩
      · have hx : (cellsD x).all oneD = true := by cases x <;> simp_all [cellsD, okD]
        simp only [okD, List.all_append, Bool.and_eq_true] at hok ⊢
        refine ⟨⟨?_, hx⟩, ?_⟩
        · exact List.all_eq_true.2 fun y hy => List.all_eq_true.1 hok y (List.mem_of_mem_take hy)
        · exact List.all_eq_true.2 fun y hy => List.all_eq_true.1 hok y (List.mem_of_mem_drop hy)
    · simp at hu
  · rename_i hnagg
    split at hu
    · rename_i hc
      obtain ⟨rfl, h1, h2, h3⟩ := hc
      simp only [Option.some.injEq] at hu; subst hu
      have o1 := oneD_oneCell h3 rx
      have c1 := cells_of_one o1
      have okx : okD x = true := by cases x <;> first | exact h3 | simp [D.isAgg] at h2
      have hv1 : v.cells.size = 1 := h1c (by cases d <;> first | rfl | exact absurd rfl (hnagg _))
      have hv2 : v.cells.toList.length = 1 := by simpa using hv1
      obtain ⟨f1, f2, f3, f4, f5⟩ := fin vx okx (by rw [c1]; exact h1.symm) (by omega) (by rw [List.take_zero, List.nil_append, c1, List.drop_eq_nil_of_le (by simp; omega)]; simp)
      exact ⟨_, _, rx, fun _ => okx, f1, f2, f3, f4, f5⟩
    · simp at hu
end
end Go.Eng
namespace Go.Eng
set_option linter.unusedVariables false
set_option linter.unusedSimpArgs false

section
variable {P : Program} {Γ : Ctx} {W0 : World} {M0 F0 F : Nat → Prop} {β : Beta} {γ : Nm → Nat → Prop} {tab : Tab} {gen : Nat} {w : World}

/-- what an operation of the given abstract answer does -/
def Does (W0 : World) (M0 F0 F : Nat → Prop) (β : Beta) (tab : Tab) (gen : Nat) (w : World) (nm : Nm) (r : AR) (res : Result Next) : Prop :=
  ∃ (w' : World) (F' : Nat → Prop) (β' : Beta) (γ' : Nm → Nat → Prop) (nx : Next) (v : Value), res = .ok nx w' ∧ (nx = .value v ∨ (nx = .skip ∧ v = undef)) ∧ Own W0 M0 F0 F' β' γ' (applyE tab nm r.eff) gen w' ∧
    (∀ b, F b → F' b ∧ w'.heap[b]? = w.heap[b]?) ∧ (∀ n x, β n = some x → β' n = some x) ∧ Rep F' w'.heap β' r.d v

theorem val_run {w w' : World} {v : Value} {s : Sem Value} (h : s.run P w = .ok v w') : (do pure (.value (← s)) : Sem Next).run P w = .ok (.value v) w' := by simp [h]
theorem does_val {nm : Nm} {r : AR} {res : Result Next} {v : Value} (O : Own W0 M0 F0 F β γ tab gen w) (he : r.eff = .none) (h : res = .ok (.value v) w) (hr : Rep F w.heap β r.d v) : Does W0 M0 F0 F β tab gen w nm r res := by
  refine ⟨w, F, β, γ, _, v, h, .inl rfl, ?_, fun b hb => ⟨hb, rfl⟩, fun _ _ h => h, hr⟩
  rw [he]; exact O
theorem okR_some {d : D} {r : AR} (h : okR d = some r) : r.eff = .none ∧ r.d = d := by
  simp only [okR, Option.some.injEq] at h; subst h; exact ⟨rfl, rfl⟩

/-- a new object -/
theorem does_new {nm : Nm} {r : AR} {res : Result Next} {v : Value} {o0 : OO} {ob : Obj} {w' : World} (O : Own W0 M0 F0 F β γ tab gen w) (hn : tab.get nm = none) (hg : nm.2 = gen) (he : r.eff = .new o0)
    (hw : w'.heap = w.heap.push ob) (hos : w'.os = w.os) (htp : w'.tape = w.tape) (hout : w'.output = w.output) (h : res = .ok (.value v) w') (bo : Option Nat) (s cap : Nat) (hbo : bo = none ∨ bo = some w.heap.size)
    (ok : ∀ β' : Beta, (∀ n x, β n = some x → β' n = some x) → β' nm = some (bo, s, cap) → OwnOK F w'.heap β' (fun _ => False) nm o0)
    (rep : ∀ β' : Beta, (∀ n x, β n = some x → β' n = some x) → β' nm = some (bo, s, cap) → Rep F w'.heap β' r.d v) : Does W0 M0 F0 F β tab gen w nm r res := by
  have hβn : β nm = none := by
    cases hb : β nm with
    | none => rfl
    | some x => rcases O.gen _ _ hb with h | ⟨_, h⟩
                · omega
                · simp [hn] at h
  let β' : Beta := fun n => if n = nm then some (bo, s, cap) else β n
  have hβ : ∀ n x, β n = some x → β' n = some x := fun n x h => by
    simp only [β']; rw [if_neg]
    · exact h
    · rintro rfl; rw [hβn] at h; cases h
  have hβ0 : β' nm = some (bo, s, cap) := by simp [β']
  have hold : ∀ b, b < w.heap.size → w'.heap[b]? = w.heap[b]? := fun b hb => by rw [hw]; simp [Array.getElem?_push, Nat.ne_of_lt hb]
  refine ⟨w', F, β', fun n => if n = nm then fun _ => False else γ n, _, v, h, .inl rfl, ?_, fun b hb => ⟨hb, hold b (O.Flt b hb)⟩, hβ, rep β' hβ hβ0⟩
  rw [he]
  refine O.one nm o0 (fun n hne => .inl ?_) ?_ (Nat.le_of_eq hg) hβ (fun n hne => if_neg hne) (fun n hne => if_neg hne) (fun _ => False) (fun b hb _ => hold b hb) (fun _ h => h.elim) (fun _ _ _ _ _ _ h => h.elim) (fun _ h => h.elim) (by rw [hw]; simp) hos htp hout (fun _ => Iff.rfl) ?_ ?_
  · simp only [applyE, Tab.get_set]; rw [if_neg (Ne.symm hne)]
  · simp only [applyE, Tab.get_set, if_true]
  · have := ok β' hβ hβ0; simpa using this
  · intro hd x hx
    rcases hx with ⟨s', cap', hx⟩ | hx
    · rw [hβ0] at hx
      simp only [Option.some.injEq, Prod.mk.injEq] at hx
      rcases hbo with hb | hb
      · rw [hb] at hx; simp at hx
      · rw [hb] at hx; simp only [Option.some.injEq] at hx
        refine .inl ⟨by omega, ?_⟩
        rw [hw]; simp; omega
    · simp at hx

/-- an object's new contents, in its old place -/
theorem does_set {nm nm0 : Nm} {r : AR} {res : Result Next} {v : Value} {nx : Next} {o o0 : OO} {w' : World} {b s cap : Nat} (O : Own W0 M0 F0 F β γ tab gen w) (ho : tab.get nm0 = some o) (hod : o ≠ .dead) (ho0 : o0 ≠ .dead) (he : r.eff = .set nm0 o0)
    (hβ : β nm0 = some (some b, s, cap)) (hw : ∀ i, i ≠ b → w'.heap[i]? = w.heap[i]?) (hsz : w'.heap.size = w.heap.size) (hos : w'.os = w.os) (htp : w'.tape = w.tape) (hout : w'.output = w.output) (h : res = .ok nx w')
    (hnx : nx = .value v ∨ (nx = .skip ∧ v = undef)) (ok : OwnOK F w'.heap β (γ nm0) nm0 o0) (rep : Rep F w'.heap β r.d v) : Does W0 M0 F0 F β tab gen w nm r res := by
  have hb := O.fps nm0 o ho hod b (.inl ⟨s, cap, hβ⟩)
  refine ⟨w', F, β, γ, nx, v, h, hnx, ?_, fun i hi => ⟨hi, hw i fun e => hb.1 (e ▸ hi)⟩, fun _ _ h => h, rep⟩
  rw [he]
  refine O.one nm0 o0 (fun n hne => .inl ?_) ?_ ?_ (fun _ _ h => h) (fun _ _ => rfl) (fun _ _ => rfl) (fun i => i = b) (fun i _ hi => hw i hi) (fun i hi => hi ▸ hb.1) (fun n o' hne h' hd i hi hfp => ?_) (fun i hi => hi ▸ hb.2.2) (Nat.le_of_eq hsz.symm) hos htp hout (fun _ => Iff.rfl) ok ?_
  · simp only [applyE, Tab.get_set]; rw [if_neg (Ne.symm hne)]
  · simp only [applyE, Tab.get_set, if_true]
  · rcases O.gen _ _ hβ with h | h <;> omega
  · subst hi
    simp only [applyE, Tab.get_set] at h'; rw [if_neg (Ne.symm hne)] at h'
    exact O.dis n nm0 o' o h' ho hd hod hne i hfp (.inl ⟨s, cap, hβ⟩)
  · intro _ x hx
    exact .inr ⟨nm0, o, ho, hod, hx, .inl rfl⟩

theorem setRow_size (w : World) (b : Nat) (c : Array Value) : (w.setRow b c).heap.size = w.heap.size := by simp [World.setRow]

theorem newBox_sound {nm : Nm} {d : D} {v : Value} {r : AR} {e : TypeId} (O : Own W0 M0 F0 F β γ tab gen w) (hn : tab.get nm = none) (hg : nm.2 = gen) (h : newBox nm d = some r) (rd : Rep F w.heap β d v) :
    Does W0 M0 F0 F β tab gen w nm r (.ok (.value (.pointer (some ⟨w.heap.size, 0, none⟩))) { w with heap := w.heap.push (.cells v.cells e) }) := by
  unfold newBox at h
  split at h
  · rename_i hd
    simp only [Option.some.injEq] at h; subst h
    refine does_new (w' := { w with heap := w.heap.push (.cells v.cells e) }) (o0 := .box d) (ob := .cells v.cells e) O hn hg rfl rfl rfl rfl rfl rfl (some w.heap.size) 0 0 (.inr rfl) (fun β' h1 h2 => ⟨w.heap.size, 0, 0, e, v, h2, by simp, hd, ?_⟩) (fun β' h1 h2 => ?_)
    · refine Rep.mono (fun b hb => ⟨hb, ?_⟩) d h1 rd
      simp [Array.getElem?_push, Nat.ne_of_lt (O.Flt b hb)]
    · simp only [Rep]; exact ⟨w.heap.size, 0, 0, h2, rfl⟩
  · simp at h

theorem loadD_sound {nm : Nm} {t : TypeId} {ti : TI} {x : D} {vx : Value} {r : AR} (ht : ti.ok P t) (O : Own W0 M0 F0 F β γ tab gen w) (h : loadD ti tab x = some r) (hob : r.ob) (rx : Rep F w.heap β x vx) :
    r.eff = .none ∧ ∃ v, (Instr.loadAt t vx).run P w = .ok v w ∧ Rep F w.heap β r.d v := by
  unfold loadD at h
  split at h
  · rename_i nm off
    split at h
    · rename_i d hd
      split at h
      · rename_i d' hp
        obtain ⟨e1, e2⟩ := okR_some h
        refine ⟨e1, ?_⟩
        simp only [Rep] at rx
        obtain ⟨b, s, cap, hβ, rfl⟩ := rx
        obtain ⟨b', s', cap', e, v, hβ', hb, hok, hr⟩ := O.own nm _ hd
        rw [hβ] at hβ'
        simp only [Option.some.injEq, Prod.mk.injEq] at hβ'
        obtain ⟨rfl, rfl, rfl⟩ := hβ'
        rw [e2]
        have := run_loadPart ht hb (base := 0) (v := v) (fun j hj => by simp) hp hr
        simpa using this
      · simp at h
    · simp at h
  · rename_i nm i off
    split at h
    · rename_i p s z xs hx
      split at h
      · rename_i d' hp
        split at h
        · rename_i hpl
          simp only [Option.some.injEq] at h; subst h
          refine ⟨rfl, ?_⟩
          have hob' : i < xs.length := hob
          simp only [Rep] at rx
          obtain ⟨b, s', cap, hβ, rfl⟩ := rx
          obtain ⟨bo, cap', hβ', hbo, hcells⟩ := O.own nm _ hx
          rw [hβ] at hβ'
          simp only [Option.some.injEq, Prod.mk.injEq] at hβ'
          obtain ⟨rfl, rfl, rfl⟩ := hβ'
          obtain ⟨hnG, c, e, hb, hcs, hcap, hrep⟩ := hcells b rfl
          subst hpl
          simp only [RowP_false] at hrep
          obtain ⟨u, h1, h2, h3⟩ := hrep.getD z i hob'
          simp only [Nat.zero_add] at h3
          obtain ⟨v, hv, hr⟩ := run_loadPart ht hb h3 hp h1
          refine ⟨v, hv, ?_⟩
          exact Rep.mono (fun b hb => ⟨hb, rfl⟩) d' (fun _ _ h => by simp [Beta.none] at h) hr
        · simp at h
      · simp at h
    · simp at h
  · rename_i d
    split at h
    · rename_i d' hp
      obtain ⟨e1, e2⟩ := okR_some h
      refine ⟨e1, ?_⟩
      simp only [Rep] at rx
      obtain ⟨b, off, c, e, fr, u, rfl, hF, hb, hr, hs⟩ := rx
      rw [e2]
      have := run_loadPart ht hb hs hp hr
      simpa using this
    · simp at h
  · simp at h

theorem storeD_sound {nm : Nm} {t : TypeId} {ti : TI} {x y : D} {vx vy : Value} {r : AR} (ht : ti.ok P t) (O : Own W0 M0 F0 F β γ tab gen w) (h : storeD ti tab x y = some r) (hob : r.ob) (rx : Rep F w.heap β x vx) (ry : Rep F w.heap β y vy) :
    Does W0 M0 F0 F β tab gen w nm r ((do Instr.storeAt t vx vy; pure .skip : Sem Next).run P w) := by
  unfold storeD at h
  split at h
  · rename_i n0 off
    split at h
    · rename_i d hd
      split at h
      · rename_i d' hu
        simp only [Option.some.injEq] at h; subst h
        simp only [Rep] at rx
        obtain ⟨b, s, cap, hβ, rfl⟩ := rx
        obtain ⟨b', s', cap', e, v, hβ', hb, hok, hr⟩ := O.own n0 _ hd
        rw [hβ] at hβ'
        simp only [Option.some.injEq, Prod.mk.injEq] at hβ'
        obtain ⟨rfl, rfl, rfl⟩ := hβ'
        have h1c : d.isAgg = false → v.cells.size = 1 := fun hna => by
          rw [cells_of_one (oneD_oneCell (d := d) (by cases d <;> first | exact hok | simp [D.isAgg] at hna) hr)]; rfl
        obtain ⟨v', c', g1, g2, g3, g4, g5, g6, g7⟩ := run_storePart ht hb (base := 0) (off := off) (v := v) (fun j hj => by simp) (by simp) hu hr ry h1c
        have hnF := (O.fps n0 _ hd (by simp) b (.inl ⟨_, _, hβ⟩)).1
        have hc' : c' = v'.cells := by
          apply Array.ext_getElem?
          intro j
          by_cases hj : j < v'.cells.size
          · have := g5 j hj; simpa using this
          · rw [Array.getElem?_eq_none (by omega), Array.getElem?_eq_none (by omega)]
        subst hc'
        simp only [Nat.zero_add] at g4
        refine does_set (o0 := .box d') O hd (by simp) (by simp) rfl hβ (fun i hi => setRow_other w b i _ hi) (setRow_size w b _) rfl rfl rfl g4 (.inr ⟨rfl, rfl⟩) ⟨b, _, _, e, v', hβ, setRow_heap w b _ _ e (0, 0) hb, g2 hok, ?_⟩ (by simp only [Rep])
        exact Rep.mono (fun i hi => ⟨hi, setRow_other w b i _ fun e => hnF (e ▸ hi)⟩) d' (fun _ _ h => h) g1
      · simp at h
    · simp at h
  · rename_i n0 i off
    split at h
    · rename_i p s z xs hx
      split at h
      · rename_i d' hu
        split at h
        · rename_i hcond
          obtain ⟨hpure, hpl, hag⟩ := hcond
          simp only [Option.some.injEq] at h; subst h
          have hob' : i < xs.length := hob
          simp only [Rep] at rx
          obtain ⟨b, s', cap, hβ, rfl⟩ := rx
          obtain ⟨bo, cap', hβ', hbo, hcells⟩ := O.own n0 _ hx
          rw [hβ] at hβ'
          simp only [Option.some.injEq, Prod.mk.injEq] at hβ'
          obtain ⟨rfl, rfl, rfl⟩ := hβ'
          obtain ⟨hnG, c, e, hb, hcs, hcap, hrep⟩ := hcells b rfl
          subst hpl
          simp only [RowP_false] at hrep
          obtain ⟨u, h1, h2, h3⟩ := hrep.getD z i hob'
          simp only [Nat.zero_add] at h3
          have hnF := (O.fps n0 _ hx (by simp) b (.inl ⟨_, _, hβ⟩)).1
          have ry' : Rep F w.heap Beta.none y vy := Rep.rebeta y hpure ry
          have hmul : (i + 1) * s' ≤ cap * s' := Nat.mul_le_mul_right _ (by omega)
          rw [Nat.add_mul] at hmul
          have h22 := h2.2
          obtain ⟨v', c', g1, g2, g3, g4, g5, g6, g7⟩ := run_storePart ht hb (base := i * s') (off := off) (v := u) h3 (by omega) hu h1 ry' (fun hna => by
            rcases hag with h | h
            · rw [h] at hna; cases hna
            · rw [h2.2, h])
          refine does_set (o0 := .arr false s' z (xs.set i d')) O hx (by simp) (by simp) rfl hβ (fun i hi => setRow_other w b i _ hi) (setRow_size w b _) rfl rfl rfl g4 (.inr ⟨rfl, rfl⟩) ?_ (by simp only [Rep])
          refine ⟨some b, cap, hβ, (fun h => by cases h), fun b' hb' => ?_⟩
          cases hb'
          refine ⟨hnG, c', e, setRow_heap w b c c' e (0, 0) hb, by rw [g6, hcs], by simpa using hcap, ?_⟩
          refine Repx.of_get fun j hj => ?_
          simp only [List.length_set] at hj
          have mono : ∀ {d : D} {v : Value}, Rep F w.heap Beta.none d v → Rep F (w.setRow b c').heap Beta.none d v := by
            intro d v hr
            refine Rep.mono (fun k hk => ⟨hk, setRow_other w b k _ fun e => ?_⟩) d (fun _ _ h => h) hr
            subst e
            exact hnF hk
          by_cases hij : j = i
          · subst hij
            refine ⟨v', by rw [List.getElem_set_self]; exact mono g1, ⟨by rw [List.getElem_set_self]; exact g2 h2.1, by rw [g3, h2.2]⟩, by simpa using g5⟩
          · obtain ⟨u2, k1, k2, k3⟩ := hrep.get j hj
            refine ⟨u2, by rw [List.getElem_set_ne (Ne.symm hij)]; exact mono k1, ⟨by rw [List.getElem_set_ne (Ne.symm hij)]; exact k2.1, k2.2⟩, fun q hq => ?_⟩
            rw [g7 _ ?_]
            · exact k3 q hq
            · rw [k2.2] at hq
              rw [h2.2]
              rcases Nat.lt_or_gt_of_ne hij with hlt | hlt
              · left
                have : (j + 1) * s' ≤ i * s' := Nat.mul_le_mul_right _ hlt
                rw [Nat.add_mul] at this; omega
              · right
                have : (i + 1) * s' ≤ j * s' := Nat.mul_le_mul_right _ hlt
                rw [Nat.add_mul] at this; omega
        · simp at h
      · simp at h
    · simp at h
  · simp at h
/-- a box is frozen, and an object that may read it gets new contents -/
theorem does_putf {nm nv nm0 : Nm} {r : AR} {res : Result Next} {v : Value} {nx : Next} {o ov o0 : OO} {w' : World} {b s cap : Nat} (O : Own W0 M0 F0 F β γ tab gen w) (hv : tab.get nv = some ov) (hvd : ov ≠ .dead)
    (ho : tab.get nm0 = some o) (hod : o ≠ .dead) (ho0 : o0 ≠ .dead) (hne : nv ≠ nm0) (he : r.eff = .put nv nm0 o0)
    (hβ : β nm0 = some (some b, s, cap)) (hw : ∀ i, i ≠ b → w'.heap[i]? = w.heap[i]?) (hsz : w'.heap.size = w.heap.size) (hos : w'.os = w.os) (htp : w'.tape = w.tape) (hout : w'.output = w.output) (h : res = .ok nx w')
    (hnx : nx = .value v ∨ (nx = .skip ∧ v = undef)) (ok : OwnOK (fun x => F x ∨ fp β γ nv x) w'.heap β (γ nm0) nm0 o0) (rep : Rep F w'.heap β r.d v) : Does W0 M0 F0 F β tab gen w nm r res := by
  have O1 := O.freeze hv hvd
  have ho1 : (tab.set nv .dead).get nm0 = some o := by rw [Tab.get_set, if_neg hne]; exact ho
  have := does_set (nm := nm) (r := ⟨r.ob, r.d, .set nm0 o0⟩) O1 ho1 hod ho0 rfl hβ hw hsz hos htp hout h hnx ok (Rep.mono (fun x hx => ⟨.inl hx, rfl⟩) _ (fun _ _ h => h) rep)
  obtain ⟨w1, F1, β1, γ1, nx1, v1, e1, e2, O2, hF, hb, hr⟩ := this
  refine ⟨w1, F1, β1, γ1, nx1, v1, e1, e2, ?_, fun x hx => hF x (.inl hx), hb, hr⟩
  rw [he]; exact O2
/-- an object's memory goes over to another one, which gets new contents -/
theorem does_put {nm nv nm0 : Nm} {r : AR} {res : Result Next} {v : Value} {nx : Next} {o ov o0 : OO} {w' : World} {b s cap : Nat} (O : Own W0 M0 F0 F β γ tab gen w) (hv : tab.get nv = some ov) (hvd : ov ≠ .dead)
    (ho : tab.get nm0 = some o) (hod : o ≠ .dead) (ho0 : o0 ≠ .dead) (hne : nv ≠ nm0) (he : r.eff = .put nv nm0 o0)
    (hβ : β nm0 = some (some b, s, cap)) (hw : ∀ i, i ≠ b → w'.heap[i]? = w.heap[i]?) (hsz : w'.heap.size = w.heap.size) (hos : w'.os = w.os) (htp : w'.tape = w.tape) (hout : w'.output = w.output) (h : res = .ok nx w')
    (hnx : nx = .value v ∨ (nx = .skip ∧ v = undef)) (ok : OwnOK F w'.heap β (fun x => γ nm0 x ∨ fp β γ nv x) nm0 o0) (rep : Rep F w'.heap β r.d v) : Does W0 M0 F0 F β tab gen w nm r res := by
  have hb := O.fps nm0 o ho hod b (.inl ⟨s, cap, hβ⟩)
  refine ⟨w', F, β, fun n => if n = nm0 then (fun x => γ nm0 x ∨ fp β γ nv x) else γ n, nx, v, h, hnx, ?_, fun i hi => ⟨hi, hw i fun e => hb.1 (e ▸ hi)⟩, fun _ _ h => h, rep⟩
  have htab : ∀ n, (applyE tab nm (.put nv nm0 o0)).get n = if n = nm0 then some o0 else if n = nv then some .dead else tab.get n := fun n => by
    simp only [applyE, Tab.get_set]
    by_cases e : n = nm0
    · simp [e]
    · by_cases e2 : n = nv
      · subst e2; simp [hne, Ne.symm hne]
      · simp [e, e2, Ne.symm e, Ne.symm e2]
  rw [he]
  refine O.one nm0 o0 (fun n hn => ?_) (by rw [htab, if_pos rfl]) ?_ (fun _ _ h => h) (fun _ _ => rfl) (fun n hn => if_neg hn) (fun i => i = b) (fun i _ hi => hw i hi) (fun i hi => hi ▸ hb.1) (fun n o' hn h' hd i hi hfp => ?_) (fun i hi => hi ▸ hb.2.2) (Nat.le_of_eq hsz.symm) hos htp hout (fun _ => Iff.rfl) (by simpa using ok) ?_
  · rw [htab, if_neg hn]
    split
    · rename_i e; exact .inr ⟨rfl, by rw [e, hv]; rfl⟩
    · exact .inl rfl
  · rcases O.gen _ _ hβ with h | h <;> omega
  · subst hi
    rw [htab, if_neg hn] at h'
    split at h'
    · cases h'; exact hd rfl
    · exact O.dis n nm0 o' o h' ho hd hod hn i hfp (.inl ⟨s, cap, hβ⟩)
  · intro _ x hx
    rcases hx with ⟨s', c', hx⟩ | hx
    · exact .inr ⟨nm0, o, ho, hod, .inl ⟨s', c', hx⟩, .inl rfl⟩
    · simp only [if_true] at hx
      rcases hx with hx | hx
      · exact .inr ⟨nm0, o, ho, hod, .inr hx, .inl rfl⟩
      · exact .inr ⟨nv, ov, hv, hvd, hx, .inr (by rw [htab, if_neg hne, if_pos rfl])⟩
end
end Go.Eng
namespace Go.Eng
set_option linter.unusedVariables false
set_option linter.unusedSimpArgs false

section
variable {P : Program} {Γ : Ctx} {W0 : World} {M0 F0 F : Nat → Prop} {β : Beta} {γ : Nm → Nat → Prop} {tab : Tab} {gen : Nat} {w : World}

theorem fieldAddrD_sound {t : TypeId} {ti : TI} {x : D} {vx : Value} {i : Nat} {r : AR} (hΓ : Γ.ok P) (ht : ti.ok P t) (h : fieldAddrD Γ ti x i = some r) (rx : Rep F w.heap β x vx) :
    r.eff = .none ∧ ∃ v, (Instr.fieldAt t vx i).run P w = .ok v w ∧ Rep F w.heap β r.d v := by
  unfold fieldAddrD at h
  split at h
  · rename_i fs hk
    split at h
    · rename_i o ft hi
      split at h
      · rename_i fi hf
        have hfo := Ctx.get_ok hΓ hf
        split at h
        · simp at h
        · rename_i hz
          split at h
          · obtain ⟨e1, e2⟩ := okR_some h
            simp only [Rep] at rx
            obtain ⟨b, s, cap, hβ, rfl⟩ := rx
            refine ⟨e1, _, run_fieldAt ht hk hi hfo hz b _, ?_⟩
            rw [e2]; simp only [Rep]; exact ⟨b, s, cap, hβ, rfl⟩
          · obtain ⟨e1, e2⟩ := okR_some h
            simp only [Rep] at rx
            obtain ⟨b, s, cap, hβ, rfl⟩ := rx
            refine ⟨e1, _, run_fieldAt ht hk hi hfo hz b _, ?_⟩
            rw [e2]; simp only [Rep]; exact ⟨b, s, cap, hβ, by rw [Nat.add_assoc]⟩
          · rename_i cs
            split at h
            · rename_i d hd
              split at h
              · rename_i hok
                obtain ⟨e1, e2⟩ := okR_some h
                simp only [Rep] at rx
                obtain ⟨b, off, c, e, fr, u, rfl, hF, hb, ⟨vs, rfl, hr⟩, hs⟩ := rx
                refine ⟨e1, _, run_fieldAt ht hk hi hfo hz b off, ?_⟩
                rw [e2]; simp only [Rep]
                rcases sub_rep hd hr with ⟨ha, hl, hrep⟩ | ⟨ha, u, hu, hrep⟩
                · refine ⟨b, off + o, c, e, fr, _, rfl, hF, hb, hrep, fun j hj => ?_⟩
                  simp only [Value.cells, List.size_toArray, List.length_take, List.length_drop] at hj
                  have := hs (o + j) (by simp [Value.cells]; omega)
                  rw [Nat.add_assoc, this]
                  simp [Value.cells, List.getElem?_take, show j < fi.size by omega, List.getElem?_drop]
                · have h1 : oneD d = true := by simpa [ha] using hok
                  have hc := cells_of_one (oneD_oneCell h1 hrep)
                  refine ⟨b, off + o, c, e, fr, u, rfl, hF, hb, hrep, fun j hj => ?_⟩
                  rw [hc] at hj ⊢
                  simp at hj; subst hj
                  have := hs o (by simp [Value.cells]; exact (List.getElem?_eq_some_iff.1 hu).1)
                  simp only [Nat.add_zero]
                  rw [this]; simp [Value.cells, hu]
              · simp at h
            · simp at h
          · simp at h
      · simp at h
    · simp at h
  · simp at h

theorem fieldD_sound {t : TypeId} {ti : TI} {x : D} {vx : Value} {i : Nat} {r : AR} (hΓ : Γ.ok P) (ht : ti.ok P t) (h : fieldD Γ ti x i = some r) (rx : Rep F w.heap β x vx) :
    r.eff = .none ∧ ∃ v, (Instr.field t vx i).run P w = .ok v w ∧ Rep F w.heap β r.d v := by
  unfold fieldD at h
  split at h
  · rename_i fs hk
    split at h
    · rename_i o ft hi
      split at h
      · rename_i fi hf
        have hfo := Ctx.get_ok hΓ hf
        split at h
        · rename_i cs
          split at h
          · rename_i d hd
            obtain ⟨e1, e2⟩ := okR_some h
            simp only [Rep] at rx
            obtain ⟨vs, rfl, hr⟩ := rx
            have hrun := run_field (w := w) ht hk hi hfo vs
            refine ⟨e1, ?_⟩
            rw [e2]
            rcases sub_rep hd hr with ⟨ha, hl, hrep⟩ | ⟨ha, u, hu, hrep⟩
            · exact ⟨_, hrun.1 ha hl, hrep⟩
            · exact ⟨_, hrun.2 ha u hu, hrep⟩
          · simp at h
        · simp at h
      · simp at h
    · simp at h
  · simp at h

theorem indexAddrD_sound {t : TypeId} {ti : TI} {x y : D} {vx vy : Value} {r : AR} (hΓ : Γ.ok P) (ht : ti.ok P t) (O : Own W0 M0 F0 F β γ tab gen w) (h : indexAddrD Γ ti x y = some r) (hob : r.ob) (rx : Rep F w.heap β x vx) (ry : Rep F w.heap β y vy) :
    r.eff = .none ∧ ∃ v, (Instr.indexAt t vx vy).run P w = .ok v w ∧ Rep F w.heap β r.d v := by
  unfold indexAddrD at h
  split at h
  · rename_i e hk
    have hu : P.underlying t = some (.slice e) := by have := ht.kind; rw [hk] at this; exact this
    split at h
    · rename_i ei hei
      have heo := Ctx.get_ok hΓ hei
      split at h
      · rename_i tt s z xs k j
        split at h
        · rename_i hs
          simp only [Option.some.injEq] at h; subst h
          have hob' : 0 ≤ j ∧ j < xs.length := hob
          refine ⟨rfl, ?_⟩
          simp only [Rep] at ry; subst ry
          simp only [Rep] at rx
          rcases rx with ⟨rfl, _⟩ | ⟨b, off, cap, c, e', fr, rfl, hF, hb, hcap, ht', hrow⟩
          · simp at hob'; omega
          · obtain ⟨u, hu1, hu2, hu3⟩ := hrow.getD z j.toNat (by omega)
            refine ⟨.pointer (some ⟨b, off + j.toNat * s, none⟩), ?_, ?_⟩
            · simp [Instr.indexAt, asIntOf, run_und hu, hob'.1, hob'.2, heo.run_size, hs, Addr.add_lit]
            · simp only [Rep]; exact ⟨b, off + j.toNat * s, c, e', fr, u, rfl, hF, hb, Rep.mono (fun b hb => ⟨hb, rfl⟩) _ (fun _ _ h => by simp [Beta.none] at h) hu1, hu3⟩
        · simp at h
      · rename_i s xs k j
        split at h
        · rename_i hs
          simp only [Option.some.injEq] at h; subst h
          have hob' : 0 ≤ j ∧ j < xs.length := hob
          refine ⟨rfl, ?_⟩
          simp only [Rep] at ry; subst ry
          simp only [Rep] at rx
          rcases rx with ⟨rfl, _⟩ | ⟨b, off, c, e', fr, rfl, hF, hb, hrow⟩
          · simp at hob'; omega
          · obtain ⟨u, hu1, hu2, hu3⟩ := hrow.getD .any j.toNat (by omega)
            refine ⟨.pointer (some ⟨b, off + j.toNat * s, none⟩), ?_, ?_⟩
            · simp [Instr.indexAt, asIntOf, run_und hu, hob'.1, hob'.2, heo.run_size, hs, Addr.add_lit]
            · simp only [Rep]; exact ⟨b, off + j.toNat * s, c, e', fr, u, rfl, hF, hb, hu1, hu3⟩
        · simp at h
      · rename_i nm s o n k j
        split at h
        · rename_i hs
          simp only [Option.some.injEq] at h; subst h
          have hob' : 0 ≤ j ∧ j < n := hob
          refine ⟨rfl, ?_⟩
          simp only [Rep] at ry; subst ry
          simp only [Rep] at rx
          rcases rx with ⟨_, rfl, _⟩ | ⟨b, cap, hβ, rfl, hle⟩
          · omega
          · refine ⟨.pointer (some ⟨b, o * s + j.toNat * s, none⟩), ?_, ?_⟩
            · simp [Instr.indexAt, asIntOf, run_und hu, hob'.1, hob'.2, heo.run_size, hs, Addr.add_lit]
            · simp only [Rep]; exact ⟨b, s, cap, hβ, by rw [Nat.add_mul]; rfl⟩
        · simp at h
      · simp at h
    · simp at h
  · rename_i n e hk
    have hu : P.underlying t = some (.array n e) := by have := ht.kind; rw [hk] at this; exact this
    split at h
    · rename_i ei hei
      have heo := Ctx.get_ok hΓ hei
      split at h
      · rename_i hs
        split at h
        · rename_i cs k j
          split at h
          · rename_i hn
            simp only [Option.some.injEq] at h; subst h
            have hob' : 0 ≤ j ∧ j < n := hob
            refine ⟨rfl, ?_⟩
            simp only [Rep] at ry; subst ry
            simp only [Rep] at rx
            obtain ⟨b, off, c, e', fr, u, rfl, hF, hb, ⟨vs, rfl, hr⟩, hseg⟩ := rx
            have hl := hr.length
            obtain ⟨v, hv, rv⟩ := hr.get j.toNat (by omega)
            refine ⟨.pointer (some ⟨b, off + j.toNat * 1, none⟩), ?_, ?_⟩
            · have hlt : j < (n : Int) := hob'.2
              simp [Instr.indexAt, asIntOf, Instr.sureAddr, run_und hu, hob'.1, hlt, heo.run_size, hs.1, Addr.add_lit]
            · simp only [Rep]
              have e1 : cs.getD j.toNat .any = cs[j.toNat] := by simp [List.getD, List.getElem?_eq_getElem (show j.toNat < cs.length by omega)]
              rw [e1]
              refine ⟨b, off + j.toNat * 1, c, e', fr, v, rfl, hF, hb, rv, ?_⟩
              have hone : v.cells = #[v] := cells_of_one (oneD_oneCell (List.all_eq_true.1 hn.2 _ (List.getElem_mem _)) rv)
              rw [hone]
              intro k hk
              have hk0 : k = 0 := by simpa using hk
              subst hk0
              have := hseg j.toNat (by simp [Value.cells]; omega)
              simpa [Value.cells, hv, Nat.mul_one] using this
          · simp at h
        · simp at h
      · simp at h
    · simp at h
  · simp at h

theorem indexD_sound {t : TypeId} {ti : TI} {x y : D} {vx vy : Value} {r : AR} (hΓ : Γ.ok P) (ht : ti.ok P t) (h : indexD Γ ti x y = some r) (hob : r.ob) (rx : Rep F w.heap β x vx) (ry : Rep F w.heap β y vy) :
    r.eff = .none ∧ ∃ v, (Instr.index t vx vy).run P w = .ok v w ∧ Rep F w.heap β r.d v := by
  unfold indexD at h
  split at h
  · rename_i hk
    have hu : P.underlying t = some .string := by have := ht.kind; rw [hk] at this; exact this
    split at h
    · rename_i s k j
      simp only [Option.some.injEq] at h; subst h
      have hob' : 0 ≤ j ∧ j < s.size := hob
      refine ⟨rfl, ?_⟩
      simp only [Rep] at rx ry; subst rx; subst ry
      refine ⟨.int .u8 (s.get! j.toNat).toNat, ?_, by simp only [Rep]⟩
      have hlt : j.toNat < s.size := by omega
      have he : s[j.toNat]? = some (s.get! j.toNat) := by
        rw [getElem?_pos s j.toNat hlt]
        congr 1
        have hlt' : j.toNat < s.data.size := hlt
        simp only [ByteArray.get!, ByteArray.getElem_eq_getElem_data]
        rw [getElem!_pos s.data j.toNat hlt']
      simp [Instr.index, asIntOf, run_und hu, hob'.1, he]
    · simp at h
  · rename_i n e hk
    have hu : P.underlying t = some (.array n e) := by have := ht.kind; rw [hk] at this; exact this
    split at h
    · rename_i ei hei
      have heo := Ctx.get_ok hΓ hei
      split at h
      · rename_i hs
        split at h
        · rename_i cs k j
          simp only [Option.some.injEq] at h; subst h
          have hob' : 0 ≤ j ∧ j < n ∧ j < cs.length := hob
          refine ⟨rfl, ?_⟩
          simp only [Rep] at rx ry; subst ry
          obtain ⟨vs, rfl, hr⟩ := rx
          obtain ⟨v, hv, rv⟩ := hr.get j.toNat (by omega)
          refine ⟨v, ?_, by simpa [List.getD, List.getElem?_eq_getElem (show j.toNat < cs.length by omega)] using rv⟩
          have hlt : ¬ (j < 0 ∨ (n : Int) ≤ j) := by omega
          simp [Instr.index, asIntOf, run_und hu, hob'.1, hob'.2.1, asAgg, part, heo.run_isAgg, heo.run_size, hs.2, hs.1, hv]
        · simp at h
      · simp at h
    · simp at h
  · simp at h

theorem buildD_sound {t : TypeId} {ti : TI} {ps : Array (Nat × Operand)} {ρ : Operand → D} {ρv : Operand → Value} {r : AR} (hΓ : Γ.ok P) (ht : ti.ok P t) (h : buildD Γ ti (ps.toList.map fun p => (p.1, ρ p.2)) = some r)
    (hr : ∀ p ∈ ps.toList, Rep F w.heap β (ρ p.2) (ρv p.2)) :
    r.eff = .none ∧ ∃ v, (Instr.build t (ps.map fun p => (p.1, ρv p.2))).run P w = .ok v w ∧ Rep F w.heap β r.d v := by
  have rz := (ht.zok.2.2.2.2 F w.heap β).cells ht.zok.1
  have hrr : ∀ (i : Nat) (hi : i < (ps.toList.map fun p => (p.1, ρ p.2)).length) (hi' : i < (ps.map fun p => (p.1, ρv p.2)).toList.length), Rep F w.heap β (ps.toList.map fun p => (p.1, ρ p.2))[i].2 (ps.map fun p => (p.1, ρv p.2)).toList[i].2 := fun i hi hi' => by
    simp only [List.length_map] at hi
    have := hr ps.toList[i] (List.getElem_mem _)
    simpa using this
  unfold buildD at h
  split at h
  · rename_i fs hk
    split at h
    · rename_i pl hpl
      split at h
      · rename_i cs hcs
        obtain ⟨e1, e2⟩ := okR_some h
        refine ⟨e1, ?_⟩
        obtain ⟨a, ha, hfs⟩ := und_st ht hk
        have hpl' : a.toList.mapM (fun f : Field => (P.info? f.type).map fun i => (f.offset, i.size)) = some pl := places_ok hΓ (by rw [hfs]; exact hpl)
        obtain ⟨c, hc1, hc2⟩ := fill_rep (f := (pl.toArray[·]?)) (parts := (ps.map fun p => (p.1, ρv p.2)).toList) (fun i p hp => by simpa using hp) hcs rz (by simp [Function.comp_def]) hrr
        have hb : P.built t (ps.map fun p => (p.1, ρv p.2)).toList = some c := by
          obtain ⟨it, hi, _, _, h2⟩ := ht.info
          simp only [Program.built, hi, ha, h2, hpl']
          exact hc1
        refine ⟨_, run_build w t _ c hb, ?_⟩
        rw [e2]; simp only [Rep]; exact ⟨c.toList, rfl, hc2⟩
      · simp at h
    · simp at h
  · rename_i n e hk
    have hu : P.underlying t = some (.array n e) := by have := ht.kind; rw [hk] at this; exact this
    split at h
    · rename_i ei hei
      have heo := Ctx.get_ok hΓ hei
      split at h
      · rename_i cs hcs
        obtain ⟨e1, e2⟩ := okR_some h
        refine ⟨e1, ?_⟩
        obtain ⟨c, hc1, hc2⟩ := fill_rep (f := fun i => some (i * ei.size, ei.size)) (parts := (ps.map fun p => (p.1, ρv p.2)).toList) (fun i p hp => by
          simp only [List.getElem?_map] at hp
          by_cases hi : i < n
          · simpa [List.getElem?_range hi] using hp
          · rw [List.getElem?_eq_none (by simp; omega)] at hp; simp at hp) hcs rz (by simp [Function.comp_def]) hrr
        have hb : P.built t (ps.map fun p => (p.1, ρv p.2)).toList = some c := by
          obtain ⟨it, hi, _, _, h2⟩ := ht.info
          obtain ⟨ie, hie, _, hse, _⟩ := heo.info
          simp only [Program.built, hi, hu, h2, hie, hse]
          exact hc1
        refine ⟨_, run_build w t _ c hb, ?_⟩
        rw [e2]; simp only [Rep]; exact ⟨c.toList, rfl, hc2⟩
      · simp at h
    · simp at h
  · simp at h

theorem assertD_sound {t xt : TypeId} {ti : TI} {x : D} {vx : Value} {ok : Bool} {r : AR} (ht : ti.ok P t) (hc : ti.kind.concrete = true) (h : assertD t ti x ok = some r) (rx : Rep F w.heap β x vx) :
    r.eff = .none ∧ ∃ v, (Instr.typeAssert vx xt t ok).run P w = .ok v w ∧ Rep F w.heap β r.d v := by
  have hk := ht.kind
  have hz := ht.zok.2.2.2.2 F w.heap β
  have hd : ∃ d, P.underlying t = some d ∧ ∀ ms, d ≠ .interface ms := by
    cases hx : ti.kind <;> simp only [hx, TK.ok] at hk
    case st => exact ⟨_, hk.choose_spec.1, by simp⟩
    case func => obtain ⟨_, _, _, hk⟩ := hk; exact ⟨_, hk, by simp⟩
    case iface => simp [hx, TK.concrete] at hc
    case other => simp [hx, TK.concrete] at hc
    all_goals exact ⟨_, hk, by simp⟩
  obtain ⟨d, hd, hni⟩ := hd
  unfold assertD at h
  split at h
  · rename_i u d'
    simp only [Rep] at rx
    obtain ⟨v, rfl, rv⟩ := rx
    split at h
    · rename_i hut; subst hut
      obtain ⟨e1, e2⟩ := okR_some h
      refine ⟨e1, if ok then .tuple #[v, .bool true] else v, ?_, ?_⟩
      · unfold Instr.typeAssert
        simp only [Sem.run_bind, run_und hd, Result.andThen_ok]
        cases d <;> first | exact absurd rfl (hni _) | (cases ok <;> simp)
      · rw [e2]
        cases ok
        · simpa using rv
        · simp only [if_true, Rep, Reps]; exact ⟨[v, .bool true], rfl, v, _, rfl, rv, _, _, rfl, rfl, rfl⟩
    · rename_i hut
      split at h
      · rename_i hok; subst hok
        obtain ⟨e1, e2⟩ := okR_some h
        refine ⟨e1, .tuple #[ti.zero, .bool false], ?_, ?_⟩
        · unfold Instr.typeAssert
          simp only [Sem.run_bind, run_und hd, Result.andThen_ok]
          cases d <;> first | exact absurd rfl (hni _) | simp [hut, ht.run_zero]
        · rw [e2]
          simp only [Rep, Reps]; exact ⟨[ti.zero, .bool false], rfl, _, _, rfl, hz, _, _, rfl, rfl, rfl⟩
      · simp at h
  · simp only [Rep] at rx; subst rx
    split at h
    · rename_i hok; subst hok
      obtain ⟨e1, e2⟩ := okR_some h
      refine ⟨e1, .tuple #[ti.zero, .bool false], ?_, ?_⟩
      · unfold Instr.typeAssert
        simp only [Sem.run_bind, run_und hd, Result.andThen_ok]
        cases d <;> first | exact absurd rfl (hni _) | simp [ht.run_zero]
      · rw [e2]
        simp only [Rep, Reps]; exact ⟨[ti.zero, .bool false], rfl, _, _, rfl, hz, _, _, rfl, rfl, rfl⟩
    · simp at h
  · simp at h

theorem concrete_ok {t : TypeId} {ti : TI} (ht : ti.ok P t) (hc : ti.kind.concrete = true) : P.concrete t = true := by
  have hk := ht.kind
  unfold Program.concrete
  cases hx : ti.kind <;> simp only [hx, TK.ok] at hk
  case bool | int | str | slice | arr | map | ptr => simp [hk]
  case func => obtain ⟨_, _, _, hk⟩ := hk; simp [hk]
  case st => obtain ⟨a, ha, _⟩ := hk; simp [ha]
  case iface => simp [hx, TK.concrete] at hc
  case other => simp [hx, TK.concrete] at hc

theorem lenD_sound {t : TypeId} {x : D} {vx : Value} {r : AR} {ty : TypeId} (hΓ : Γ.ok P) (h : lenD Γ t x = some r) (rx : Rep F w.heap β x vx) :
    r.eff = .none ∧ ∃ v, (Builtin.len_ #[t] ty #[vx]).run P w = .ok v w ∧ Rep F w.heap β r.d v := by
  unfold lenD at h
  split at h
  · simp at h
  · rename_i ti hti
    have hk := (Ctx.get_ok hΓ hti).kind
    split at h
    · rename_i e tt s z xs hx
      rw [hx] at hk
      have hu : P.underlying t = some (.slice e) := hk
      obtain ⟨e1, e2⟩ := valR_sound h
      simp only [Rep] at rx
      refine ⟨e1, .int .i64 xs.length, ?_, rep_of_lit e2⟩
      rcases rx with ⟨rfl, _, _, rfl, _⟩ | ⟨_, _, _, _, _, _, rfl, _⟩ <;> simp [Builtin.len_, run_und hu, goInt]
    · rename_i e s xs hx
      rw [hx] at hk
      have hu : P.underlying t = some (.slice e) := hk
      obtain ⟨e1, e2⟩ := valR_sound h
      simp only [Rep] at rx
      refine ⟨e1, .int .i64 xs.length, ?_, rep_of_lit e2⟩
      rcases rx with ⟨rfl, _, rfl⟩ | ⟨_, _, _, _, _, rfl, _⟩ <;> simp [Builtin.len_, run_und hu, goInt]
    · rename_i e nm s o n hx
      rw [hx] at hk
      have hu : P.underlying t = some (.slice e) := hk
      obtain ⟨e1, e2⟩ := valR_sound h
      simp only [Rep] at rx
      refine ⟨e1, .int .i64 n, ?_, rep_of_lit e2⟩
      rcases rx with ⟨_, rfl, rfl⟩ | ⟨_, _, _, rfl, _⟩ <;> simp [Builtin.len_, run_und hu, goInt]
    · rename_i s hx
      rw [hx] at hk
      have hu : P.underlying t = some .string := hk
      obtain ⟨e1, e2⟩ := valR_sound h
      simp only [Rep] at rx; subst rx
      exact ⟨e1, .int .i64 s.size, by simp [Builtin.len_, run_und hu, goInt], rep_of_lit e2⟩
    · simp at h
theorem capD_sound {t : TypeId} {x : D} {vx : Value} {r : AR} {ty : TypeId} (hΓ : Γ.ok P) (h : capD Γ t x = some r) (rx : Rep F w.heap β x vx) :
    r.eff = .none ∧ ∃ v, (Builtin.cap_ #[t] ty #[vx]).run P w = .ok v w ∧ Rep F w.heap β r.d v := by
  unfold capD at h
  split at h
  · simp at h
  · rename_i ti hti
    have hk := (Ctx.get_ok hΓ hti).kind
    split at h
    · rename_i e s z xs hx
      rw [hx] at hk
      have hu : P.underlying t = some (.slice e) := hk
      obtain ⟨e1, e2⟩ := valR_sound h
      simp only [Rep] at rx
      refine ⟨e1, .int .i64 xs.length, ?_, rep_of_lit e2⟩
      rcases rx with ⟨rfl, _, c, rfl, hc⟩ | ⟨_, _, c, _, _, _, rfl, _, _, _, hc, _⟩
      · have := hc trivial; subst this; simp [Builtin.cap_, run_und hu, goInt]
      · have := hc trivial; subst this; simp [Builtin.cap_, run_und hu, goInt]
    · simp at h
end
end Go.Eng
namespace Go.Eng
set_option linter.unusedVariables false
set_option linter.unusedSimpArgs false

/-- a value whose elements are these cells -/
structure Src (P : Program) (w : World) (s : Nat) (vx : Value) (n : Nat) (cells : List Value) : Prop where
  len : ∀ w' : World, (Builtin.lenOf vx).run P w' = .ok n w'
  first : ∀ k, k ≤ n → ∀ w' : World, w'.heap = w.heap → (Builtin.firstCells s k vx).run P w' = .ok (cells.take (k * s)).toArray w'
  cl : cells.length = n * s

section
variable {P : Program} {Γ : Ctx} {W0 : World} {M0 F0 F : Nat → Prop} {β : Beta} {γ : Nm → Nat → Prop} {tab : Tab} {gen : Nat} {w : World}

theorem src_row {s b off cap n : Nat} {c : Array Value} {e fr} (hb : w.heap[b]? = some (.cells c e fr)) (hle : off + n * s ≤ c.size ∨ n * s = 0) : Src P w s (.slice (some ⟨b, off, none⟩) n cap) n ((c.toList.drop off).take (n * s)) := by
  refine ⟨fun w' => rfl, fun k hk w' hw => ?_, ?_⟩
  · have hks : k * s ≤ n * s := Nat.mul_le_mul_right _ hk
    have := run_firstCells_some (P := P) w' s k ⟨b, off, none⟩ n cap (((c.toList.drop off).take (n * s)).take (k * s)) (by simp; omega) (fun j v hj => by
      rw [Addr.add_lit]
      simp only [List.getElem?_take, List.getElem?_drop, Array.getElem?_toList] at hj
      split at hj
      · split at hj
        · simp [World.cell?, hw, hb, hj]
        · simp at hj
      · simp at hj)
    exact this
  · simp; omega
theorem src_nil {s : Nat} {a : Option Addr} {cap : Nat} : Src P w s (.slice a 0 cap) 0 [] := by
  refine ⟨fun w' => rfl, fun k hk w' hw => ?_, by simp⟩
  have : k = 0 := by omega
  subst this
  cases a with
  | none => simp [Builtin.firstCells]
  | some a => have := run_firstCells_some (P := P) w' s 0 a 0 cap [] (by simp) (by simp); simpa using this
theorem src_str {s : ByteArray} : Src P w 1 (.string s) s.size (s.toList.map fun c => .int .u8 c.toNat) := by
  have e : s.toList = s.data.toList := ByteArray.toList_eq s
  have hl : s.size = s.data.toList.length := Array.length_toList.symm
  refine ⟨fun w' => rfl, fun k hk w' hw => ?_, by rw [e, List.length_map, hl]; simp⟩
  simp only [Builtin.firstCells, Sem.run_pure]
  congr 1
  apply Array.ext'
  rw [e]
  simp [ByteArray.extract, ByteArray.copySlice, List.extract_eq_take_drop]

theorem repx_take {F : Nat → Prop} {h : Array Obj} {β : Beta} {s : Nat} {c : Array Value} {xs : List D} {off : Nat} (r : Repx F h β s c xs off) {c' : Array Value} {off' : Nat}
    (hc : ∀ j, j < xs.length * s → c'[off' + j]? = ((c.toList.drop off).take (xs.length * s))[j]?) : Repx F h β s c' xs off' :=
  r.cells fun j hj => by rw [hc j hj, List.getElem?_take, if_pos hj, List.getElem?_drop]; simp
theorem repx_ones {F : Nat → Prop} {h : Array Obj} {β : Beta} {s : Nat} {c : Array Value} {xs : List D} {off : Nat} (r : Repx F h β s c xs off) : ∀ u ∈ (c.toList.drop off).take (xs.length * s), u.oneCell' = true := by
  intro u hu
  obtain ⟨j, hj, rfl⟩ := List.getElem_of_mem hu
  simp only [List.length_take, List.length_drop, Array.length_toList] at hj
  have hs : 0 < s := by
    rcases Nat.eq_zero_or_pos s with h | h
    · subst h; simp at hj
    · exact h
  have hi : j / s < xs.length := by rw [Nat.div_lt_iff_lt_mul hs]; omega
  obtain ⟨v, h1, ⟨h2, h3⟩, h4⟩ := r.get (j / s) hi
  have hjs : j % s < v.cells.size := by rw [h3]; exact Nat.mod_lt _ hs
  have := h4 (j % s) hjs
  have hd : off + j / s * s + j % s = off + j := by have := Nat.div_add_mod' j s; omega
  rw [hd, Array.getElem?_eq_getElem hjs] at this
  have he : ((c.toList.drop off).take (xs.length * s))[j]'(by simp; omega) = v.cells[j % s] := by
    simp only [List.getElem_take, List.getElem_drop, Array.getElem_toList]
    rw [Array.getElem?_eq_getElem (by omega)] at this
    exact Option.some.inj this
  rw [he]
  exact h1.ones h2 _ (by simp)

theorem elems_src {s : Nat} {x : D} {vx : Value} {ys : List D} (hs : 0 < s) (O : Own W0 M0 F0 F β γ tab gen w) (h : elemsD tab s x = some ys) (hok : elemsOk tab x) (rx : Rep F w.heap β x vx) :
    ∃ cells, Src P w s vx ys.length cells ∧ (∀ u ∈ cells, u.oneCell' = true) ∧ (∀ (c' : Array Value) (off' : Nat), (∀ j, j < ys.length * s → c'[off' + j]? = cells[j]?) → Repx F w.heap Beta.none s c' ys off') := by
  unfold elemsD at h
  split at h
  · rename_i t s' z xs
    split at h
    · rename_i hc
      simp only [Option.some.injEq] at h; subst h
      simp only [Rep] at rx
      rcases rx with ⟨rfl, a, cap, rfl, _⟩ | ⟨b, off, cap, c, e, fr, rfl, hF, hb, hcap, ht, hrow⟩
      · exact ⟨[], src_nil, by simp, fun c' off' _ => by simp only [Repx]⟩
      · by_cases hx : xs = []
        · subst hx
          exact ⟨[], src_nil, by simp, fun c' off' _ => by simp only [Repx]⟩
        · have hss : s' = s := by
            simp only [Bool.or_eq_true, List.isEmpty_iff, beq_iff_eq] at hc
            exact hc.resolve_left hx
          subst hss
          exact ⟨_, src_row hb (.inl (hrow.size hs hx)), repx_ones hrow, fun c' off' hc' => repx_take hrow hc'⟩
    · simp at h
  · rename_i nm s0 o n
    split at h
    · rename_i s' z xs ht
      split at h
      · rename_i hss; subst hss
        simp only [Option.some.injEq] at h
        have hle : o + n ≤ xs.length := by
          have := hok; unfold elemsOk at this; simpa [ht] using this
        have hyl : ys.length = n := by rw [← h]; simp; omega
        obtain ⟨bo, cap, hβ, hbo, hcells⟩ := O.own nm _ ht
        simp only [Rep] at rx
        rcases rx with ⟨a, rfl, rfl⟩ | ⟨b, cap', hβ', rfl, hle'⟩
        · have : ys = [] := List.eq_nil_of_length_eq_zero hyl
          subst this
          exact ⟨[], src_nil, by simp, fun c' off' _ => by simp only [Repx]⟩
        · rw [hβ] at hβ'
          simp only [Option.some.injEq, Prod.mk.injEq] at hβ'
          obtain ⟨rfl, rfl, rfl⟩ := hβ'
          obtain ⟨hnG, c, e, hb, hcs, hcl, hrow⟩ := hcells b rfl
          have hrow' := hrow.take_drop o n
          rw [h] at hrow'
          simp only [Nat.zero_add, Bool.false_eq_true, if_false] at hrow'
          have hfit : o * s' + n * s' ≤ c.size := by
            rw [hcs, ← Nat.add_mul]; exact Nat.mul_le_mul_right _ (by omega)
          rw [← hyl] at hfit ⊢
          exact ⟨_, src_row hb (.inl hfit), repx_ones hrow', fun c' off' hc' => repx_take hrow' hc'⟩
      · simp at h
    · simp at h
  · rename_i b
    split at h
    · rename_i hs1; subst hs1
      simp only [Option.some.injEq] at h; subst h
      simp only [Rep] at rx; subst rx
      have hl : b.size = (b.toList.map fun c => (D.lit (.int .u8 c.toNat) : D)).length := by rw [List.length_map, ByteArray.toList_eq]; exact Array.length_toList.symm
      refine ⟨_, hl ▸ src_str, fun u hu => ?_, fun c' off' hc' => Repx.of_get fun i hi => ?_⟩
      · simp only [List.mem_map] at hu; obtain ⟨q, _, rfl⟩ := hu; rfl
      · simp only [List.length_map] at hi
        refine ⟨.int .u8 (b.toList[i]).toNat, by simp [Rep], ⟨by simp [okD, oneD, Value.oneCell'], rfl⟩, fun j hj => ?_⟩
        have : j = 0 := by simp [Value.cells] at hj; exact hj
        subst this
        have := hc' i (by simpa using hi)
        simpa [Value.cells, List.getElem?_eq_getElem hi] using this
    · simp at h
  · simp only [Option.some.injEq] at h; subst h
    simp only [Rep] at rx; subst rx
    exact ⟨[], src_nil, by simp, fun c' off' _ => by simp only [Repx]⟩
  · simp at h

/-! ### append -/
theorem run_append_in {t u ty e : TypeId} {i : TypeInfo} {d : TypeDesc} (ht : P.underlying t = some (.slice e)) (hu : P.underlying u = some d) (hd : ∀ k, d ≠ .int k) (hi : P.info? e = some i) {g sLen sCap m : Nat} {cur : Array Value} {e' : TypeId} (hg : w.heap[g]? = some (.cells cur e' (0, 0)))
    {vx : Value} {news : List Value} (hx : Src P w i.size vx m news) (h1 : ∀ u ∈ news, u.oneCell' = true) (hroom : sLen + m ≤ sCap) (hfit : sLen * i.size + news.length ≤ cur.size) :
    (Builtin.append_ #[t, u] ty #[.slice (some ⟨g, 0, none⟩) sLen sCap, vx]).run P w =
      .ok (.slice (some ⟨g, 0, none⟩) (sLen + m) sCap) (w.setRow g (cur.toList.take (sLen * i.size) ++ news ++ cur.toList.drop (sLen * i.size + news.length)).toArray) := by
  have hf := hx.first m (Nat.le_refl _) w rfl
  rw [List.take_of_length_le (Nat.le_of_eq hx.cl)] at hf
  have hst := run_storeCells_at P g (sLen * i.size) e' news 0 cur w hg (by simpa using hfit) h1
  simp only [Nat.add_zero] at hst
  have hz : (match d with | .int _ => true | _ => false) = false := by cases d <;> first | rfl | exact absurd rfl (hd _)
  simp [Builtin.append_, run_underlying ht, run_underlying hu, hz, sizeOf, typeInfo, hi, hx.len, hroom, hf, Addr.add_lit, hst]
theorem run_append_zero {t u ty e : TypeId} {i : TypeInfo} {d : TypeDesc} (ht : P.underlying t = some (.slice e)) (hu : P.underlying u = some d) (hd : ∀ k, d ≠ .int k) (hi : P.info? e = some i) {a : Option Addr} 
    {vx : Value} {news : List Value} (hx : Src P w i.size vx 0 news) : (Builtin.append_ #[t, u] ty #[.slice a 0 0, vx]).run P w = .ok (.slice a 0 0) w := by
  have hf := hx.first 0 (Nat.le_refl _) w rfl
  simp only [Nat.zero_mul, List.take_zero] at hf
  have hz : (match d with | .int _ => true | _ => false) = false := by cases d <;> first | rfl | exact absurd rfl (hd _)
  cases a <;> simp [Builtin.append_, run_underlying ht, run_underlying hu, hz, sizeOf, typeInfo, hi, hx.len, hf, storeCells]
theorem run_append_new {t u ty e : TypeId} {i : TypeInfo} {d : TypeDesc} {z : Value} (ht : P.underlying t = some (.slice e)) (hu : P.underlying u = some d) (hd : ∀ k, d ≠ .int k) (hi : P.info? e = some i) (hzz : i.zero = some z) {a : Option Addr} {sLen sCap m : Nat}
    {vx : Value} {olds news : List Value} (ho : Src P w i.size (.slice a sLen sCap) sLen olds) (hx : Src P w i.size vx m news) (hgt : sCap < sLen + m) (h63 : ((sLen + m : Nat) : Int) ≤ 9223372036854775807) (hfit : Builtin.nextslicecap (sLen + m) sCap * i.bytes ≤ 281474976710656) :
    (Builtin.append_ #[t, u] ty #[.slice a sLen sCap, vx]).run P w =
      .ok (.slice (some ⟨w.heap.size, 0, none⟩) (sLen + m) (grownCap w (sLen + m) sCap e))
        (w.drew.alloc (.cells (olds.toArray ++ news.toArray ++ Builtin.zeroCells z.cells (grownCap w (sLen + m) sCap e - (sLen + m))) e)) := by
  have hn : ¬ (sLen + m ≤ sCap) := by omega
  have h63' : ¬ (9223372036854775807 < ((sLen : Int) + (m : Int))) := by omega
  have h48' : ¬ (281474976710656 < Builtin.nextslicecap (sLen + m) sCap * i.bytes) := by omega
  have hf := hx.first m (Nat.le_refl _) w.drew rfl
  rw [List.take_of_length_le (Nat.le_of_eq hx.cl)] at hf
  have hfo := ho.first sLen (Nat.le_refl _) w.drew rfl
  rw [List.take_of_length_le (Nat.le_of_eq ho.cl)] at hfo
  have hz : (match d with | .int _ => true | _ => false) = false := by cases d <;> first | rfl | exact absurd rfl (hd _)
  simp [Builtin.append_, run_underlying ht, run_underlying hu, hz, sizeOf, typeInfo, zeroValue, hi, hzz, hx.len, hn, h63', h48', Question.forced, hf, hfo, newRow, grownCap]
  congr 2
  apply Array.ext'
  simp [List.append_assoc]
theorem run_append_zeros0 {t u ty e : TypeId} {i : TypeInfo} {k k' : IntKind} (ht : P.underlying t = some (.slice e)) (hu : P.underlying u = some (.int k)) (hi : P.info? e = some i) {a : Option Addr} :
    (Builtin.append_ #[t, u] ty #[.slice a 0 0, .int k' 0]).run P w = .ok (.slice a 0 0) w := by
  cases a <;> simp [Builtin.append_, run_underlying ht, run_underlying hu, sizeOf, typeInfo, hi, storeCells, asInt, asIntOf, show IntKind.i64.wrap 0 = 0 from rfl]
theorem run_append_zeros {t u ty e : TypeId} {i : TypeInfo} {k k' : IntKind} {z : Value} {n : Int} (ht : P.underlying t = some (.slice e)) (hu : P.underlying u = some (.int k)) (hi : P.info? e = some i) (hzz : i.zero = some z) {a : Option Addr}
    (h0 : 0 < n) (h63 : n ≤ 9223372036854775807) (hb : n * i.bytes ≤ 281474976710656) (hs : 0 < i.size) (hfit : Builtin.nextslicecap n.toNat 0 * i.bytes ≤ 281474976710656) :
    (Builtin.append_ #[t, u] ty #[.slice a 0 0, .int k' n]).run P w =
      .ok (.slice (some ⟨w.heap.size, 0, none⟩) n.toNat (grownCap w n.toNat 0 e))
        (w.drew.alloc (.cells (Builtin.zeroCells z.cells n.toNat ++ Builtin.zeroCells z.cells (grownCap w n.toNat 0 e - n.toNat)) e)) := by
  have w1 : IntKind.i64.wrap n = n := by rw [IntKind.wrap_i64]; omega
  have n1 : ¬ n < 0 := by omega
  have n2 : ¬ (281474976710656 < n * (i.bytes : Int)) := by omega
  have n3 : ¬ (n ≤ 0) := by omega
  have n4 : ¬ (9223372036854775807 < n) := by omega
  have n5 : ¬ (n.toNat * i.size = 0) := by
    have : 0 < n.toNat * i.size := Nat.mul_pos (by omega) hs
    omega
  have n6 : ¬ (281474976710656 < Builtin.nextslicecap n.toNat 0 * i.bytes) := by omega
  have n7 : ¬ (n.toNat = 0 ∨ i.size = 0) := by omega
  have n8 : ((n.toNat : Nat) : Int) = n := by omega
  have n9 : ¬ (9223372036854775807 < max n 0) := by omega
  have hfo := (src_nil (P := P) (w := w) (s := i.size) (a := a) (cap := 0)).first 0 (Nat.le_refl _) w.drew rfl
  simp only [Nat.zero_mul, List.take_nil] at hfo
  simp [hfo, Builtin.append_, run_underlying ht, run_underlying hu, sizeOf, typeInfo, zeroValue, hi, hzz, w1, n1, n2, n3, n4, n5, n6, n7, n8, n9, asInt, asIntOf, Question.forced, newRow, grownCap]
end
end Go.Eng
namespace Go.Eng
set_option linter.unusedVariables false
set_option linter.unusedSimpArgs false

section
variable {P : Program} {Γ : Ctx} {W0 : World} {M0 F0 F : Nat → Prop} {β : Beta} {γ : Nm → Nat → Prop} {tab : Tab} {gen : Nat} {w : World}

theorem does_app {nm : Nm} {r : AR} {res : Result Next} {v : Value} {dead : Option Nm} {o0 : OO} {w' : World} (O : Own W0 M0 F0 F β γ tab gen w) (hn : tab.get nm = none) (hg : nm.2 = gen) (he : r.eff = .app dead o0)
    (hdd : ∀ d, dead = some d → ∃ o, tab.get d = some o ∧ o ≠ .dead) (X : Nat → Prop) (hX : ∀ b, b < w.heap.size → ¬ X b → w'.heap[b]? = w.heap[b]?) (hXd : ∀ b, X b → ∃ d, dead = some d ∧ fp β γ d b)
    (hsz : w.heap.size ≤ w'.heap.size) (hos : w'.os = w.os) (htp : w'.tape = w.tape) (hout : w'.output = w.output) (h : res = .ok (.value v) w') (bo : Option Nat) (s cap : Nat)
    (hbo : ∀ b, bo = some b → (w.heap.size ≤ b ∧ b < w'.heap.size) ∨ ∃ d, dead = some d ∧ fp β γ d b)
    (ok : ∀ β' : Beta, (∀ n x, β n = some x → β' n = some x) → β' nm = some (bo, s, cap) → (∀ b, F b → w'.heap[b]? = w.heap[b]?) → OwnOK F w'.heap β' (fun _ => False) nm o0)
    (rep : ∀ β' : Beta, (∀ n x, β n = some x → β' n = some x) → β' nm = some (bo, s, cap) → Rep F w'.heap β' r.d v) : Does W0 M0 F0 F β tab gen w nm r res := by
  have hβn : β nm = none := by
    cases hb : β nm with
    | none => rfl
    | some x => rcases O.gen _ _ hb with h | ⟨_, h⟩
                · omega
                · simp [hn] at h
  let β' : Beta := fun n => if n = nm then some (bo, s, cap) else β n
  have hβ : ∀ n x, β n = some x → β' n = some x := fun n x h => by
    simp only [β']; rw [if_neg]
    · exact h
    · rintro rfl; rw [hβn] at h; cases h
  have hβ0 : β' nm = some (bo, s, cap) := by simp [β']
  have hXF : ∀ b, X b → ¬ F b := fun b hb hf => by
    obtain ⟨d, hd, hfp⟩ := hXd b hb
    obtain ⟨o, ho, hod⟩ := hdd d hd
    exact (O.fps d o ho hod b hfp).1 hf
  have hFs : ∀ b, F b → w'.heap[b]? = w.heap[b]? := fun b hb => hX b (O.Flt b hb) fun hx => hXF b hx hb
  have hdn : ∀ d, dead = some d → d ≠ nm := fun d hd e => by
    obtain ⟨o, ho, _⟩ := hdd d hd
    rw [e, hn] at ho; cases ho
  have htab : ∀ n, (applyE tab nm (.app dead o0)).get n = if n = nm then some o0 else if dead = some n then some .dead else tab.get n := by
    intro n
    cases dead with
    | none =>
      simp only [applyE, Tab.get_set]
      by_cases e : n = nm
      · simp [e]
      · simp [e, Ne.symm e]
    | some d =>
      simp only [applyE, Tab.get_set]
      by_cases e : n = nm
      · simp [e]
      · by_cases e2 : d = n <;> simp [e, Ne.symm e, e2]
  refine ⟨w', F, β', fun n => if n = nm then fun _ => False else γ n, _, v, h, .inl rfl, ?_, fun b hb => ⟨hb, hFs b hb⟩, hβ, rep β' hβ hβ0⟩
  rw [he]
  refine O.one nm o0 (fun n hne => ?_) ?_ (Nat.le_of_eq hg) hβ (fun n hne => if_neg hne) (fun n hne => if_neg hne) X hX hXF (fun n o hne h' hd b hb hfp => ?_) (fun b hb => ?_) hsz hos htp hout (fun _ => Iff.rfl) ?_ ?_
  · rw [htab, if_neg hne]
    split
    · rename_i e
      obtain ⟨o, ho, _⟩ := hdd n e
      exact .inr ⟨rfl, by rw [ho]; rfl⟩
    · exact .inl rfl
  · rw [htab, if_pos rfl]
  · rw [htab, if_neg hne] at h'
    obtain ⟨d, hd', hfp'⟩ := hXd b hb
    obtain ⟨o1, ho1, hod1⟩ := hdd d hd'
    by_cases e : dead = some n
    · rw [if_pos e] at h'; cases h'; exact hd rfl
    · rw [if_neg e] at h'
      exact O.dis n d o o1 h' ho1 hd hod1 (fun e2 => e (by rw [hd', e2])) b hfp hfp'
  · obtain ⟨d, hd', hfp'⟩ := hXd b hb
    obtain ⟨o1, ho1, hod1⟩ := hdd d hd'
    exact (O.fps d o1 ho1 hod1 b hfp').2.2
  · have := ok β' hβ hβ0 hFs; simpa using this
  · intro hd x hx
    rcases hx with ⟨s', cap', hx⟩ | hx
    · rw [hβ0] at hx
      simp only [Option.some.injEq, Prod.mk.injEq] at hx
      rcases hbo x hx.1 with h1 | ⟨d, hd', hfp'⟩
      · exact .inl h1
      · obtain ⟨o1, ho1, hod1⟩ := hdd d hd'
        refine .inr ⟨d, o1, ho1, hod1, hfp', .inr ?_⟩
        rw [htab, if_neg (hdn d hd'), if_pos hd']
    · simp at hx

theorem repx_of_append {h : Array Obj} {s : Nat} {c : Array Value} {xs ys : List D} (hx : Repx F h Beta.none s c xs 0) (hy : Repx F h Beta.none s c ys (xs.length * s)) : Repx F h Beta.none s c (xs ++ ys) 0 := hx.append (by simpa using hy)

set_option maxHeartbeats 2000000 in
theorem appendD_sound {nm : Nm} {t u ty e : TypeId} {ei : TI} {d : TypeDesc} {a x : D} {va vx : Value} {r : AR} (ht : P.underlying t = some (.slice e)) (hu : P.underlying u = some d) (hd : ∀ k, d ≠ .int k) (he : ei.ok P e) (O : Own W0 M0 F0 F β γ tab gen w)
    (hn : tab.get nm = none) (hg : nm.2 = gen) (h : appendD nm ei tab a x = some r) (hob : r.ob) (ra : Rep F w.heap β a va) (rx : Rep F w.heap β x vx) :
    Does W0 M0 F0 F β tab gen w nm r ((do pure (.value (← Builtin.append_ #[t, u] ty #[va, vx])) : Sem Next).run P w) := by
  unfold appendD at h
  split at h
  · rename_i hpos
    obtain ⟨hs, hby⟩ := hpos
    obtain ⟨i, hi, hib, his, hiz⟩ := he.info
    have hzc : ei.zero.cells.size = ei.size := by
      have := ((he.zok.2.2.2.2 F w.heap β).cells he.zok.1).length
      rw [he.zok.2.2.1] at this; simpa using this
    split at h
    · simp at h
    · rename_i ys hys
      -- a new row that holds 'olds' and then what is appended
      have grown : ∀ {sa : Option Addr} {sLen sCap : Nat} {xs : List D} {olds : List Value} {dead : Option Nm}, va = .slice sa sLen sCap → sLen = xs.length → Src P w ei.size va sLen olds → elemsOk tab x → sCap < sLen + ys.length → (sLen + ys.length) * ei.bytes ≤ 140737488355328 →
          (∀ (c' : Array Value) (off' : Nat), (∀ j, j < xs.length * ei.size → c'[off' + j]? = olds[j]?) → Repx F w.heap Beta.none ei.size c' xs off') → (∀ d, dead = some d → ∃ o, tab.get d = some o ∧ o ≠ .dead) → ∀ zz,
          Does W0 M0 F0 F β tab gen w nm ⟨True, .own nm ei.size 0 (sLen + ys.length), .app dead (.arr false ei.size zz (xs ++ ys))⟩ ((do pure (.value (← Builtin.append_ #[t, u] ty #[va, vx])) : Sem Next).run P w) := by
        intro sa sLen sCap xs olds dead hva hsl hso hxok hgt hle hrow hdd zz
        obtain ⟨news, hsrc, hones, hnrow⟩ := elems_src (P := P) hs O hys hxok rx
        subst hva
        subst hsl
        have h63 : ((xs.length + ys.length : Nat) : Int) ≤ 9223372036854775807 := by
          have : xs.length + ys.length ≤ (xs.length + ys.length) * ei.bytes := Nat.le_mul_of_pos_right _ hby
          omega
        have hfit : Builtin.nextslicecap (xs.length + ys.length) sCap * i.bytes ≤ 281474976710656 := by rw [hib]; exact growslice_fits hgt hle
        have hrun := run_append_new (P := P) (w := w) (ty := ty) ht hu hd hi hiz (m := ys.length) (a := sa) (sLen := xs.length) (sCap := sCap) (olds := olds) (news := news) (vx := vx) (by rw [his]; exact hso) (by rw [his]; exact hsrc) hgt h63 hfit
        have hge := grownCap_ge w (xs.length + ys.length) sCap e
        have hol : olds.length = xs.length * ei.size := hso.cl
        have hnl : news.length = ys.length * ei.size := hsrc.cl
        refine does_app (w' := w.drew.alloc (.cells (olds.toArray ++ news.toArray ++ Builtin.zeroCells ei.zero.cells (grownCap w (xs.length + ys.length) sCap e - (xs.length + ys.length))) e)) O hn hg rfl hdd (fun _ => False)
          (fun b hb _ => heap_alloc_old w.drew _ b hb) (fun _ h => h.elim) (by simp) rfl rfl rfl (val_run hrun) (some w.heap.size) ei.size (grownCap w (xs.length + ys.length) sCap e) (fun b hb => by cases hb; exact .inl ⟨Nat.le_refl _, by simp⟩) (fun β' h1 h2 hFs => ?_) (fun β' h1 h2 => ?_)
        · refine ⟨_, _, h2, (fun h => by cases h), fun b hb => ?_⟩
          cases hb
          refine ⟨fun h => h, _, e, heap_alloc_new w.drew _, ?_, ?_, ?_⟩
          · simp only [Array.size_append, List.size_toArray, size_zeroCells, hzc, hol, hnl, ← Nat.add_mul]
            congr 1; omega
          · simpa using hge
          · have e1 : ∀ j : Nat, (olds.toArray ++ news.toArray ++ Builtin.zeroCells ei.zero.cells (grownCap w (xs.length + ys.length) sCap e - (xs.length + ys.length)))[j]? = (olds ++ (news ++ (Builtin.zeroCells ei.zero.cells (grownCap w (xs.length + ys.length) sCap e - (xs.length + ys.length))).toList))[j]? := by
              intro j; rw [← Array.getElem?_toList]; simp
            rw [RowP_false]
            refine Repx.mono (fun b hb => ⟨hb, hFs b hb⟩) _ (fun _ _ h => h) (repx_of_append (hrow (olds.toArray ++ news.toArray ++ Builtin.zeroCells ei.zero.cells (grownCap w (xs.length + ys.length) sCap e - (xs.length + ys.length))) 0 fun j hj => ?_) (hnrow _ _ fun j hj => ?_))
            · rw [Nat.zero_add, e1, List.getElem?_append_left (by omega)]
            · rw [e1, List.getElem?_append_right (by omega), hol, Nat.add_sub_cancel_left, List.getElem?_append_left (by omega)]
        · simp only [Rep]
          exact .inr ⟨w.heap.size, _, h2, by simp, by omega⟩
      split at h
      · rename_i nm' s0 o n
        split at h
        · rename_i s z xs0 htab
          split at h
          · rename_i hc
            obtain ⟨rfl, rfl, hne⟩ := hc
            simp only [Option.some.injEq] at h; subst h
            obtain ⟨hxok, hnx, hle⟩ := (hob : elemsOk tab x ∧ n ≤ xs0.length ∧ (n + ys.length) * ei.bytes ≤ 140737488355328)
            have hdd : ∀ d, some nm' = some d → ∃ o, tab.get d = some o ∧ o ≠ .dead := fun d hd => by cases hd; exact ⟨_, htab, by simp⟩
            obtain ⟨bo, cap, hβ, hbo0, hcells0⟩ := O.own nm' _ htab
            have hlen : (preL n xs0).length = n := by simp only [preL, List.length_take]; omega
            have hcells : ∀ b, bo = some b → ¬ γ nm' b ∧ ∃ c e, w.heap[b]? = some (.cells c e (0, 0)) ∧ c.size = cap * ei.size ∧ (preL n xs0).length ≤ cap ∧ RowP false F w.heap (γ nm') ei.size c (preL n xs0) := by
              intro b hb
              obtain ⟨g0, c, e, g1, g2, g3, g4⟩ := hcells0 b hb
              refine ⟨g0, c, e, g1, g2, by omega, ?_⟩
              have := Repx.take_drop (RowP_false ▸ g4) 0 n
              simpa [preL] using this
            have hbo : bo = none → preL n xs0 = [] ∧ cap = 0 := fun hb => by
              obtain ⟨h1, h2⟩ := hbo0 hb
              exact ⟨by rw [h1]; simp [preL], h2⟩
            clear hcells0 hbo0 hnx
            generalize hzs : preL n xs0 = xs at hlen hcells hbo ⊢
            subst hlen
            clear hzs
            obtain ⟨news, hsrc, hones, hnrow⟩ := elems_src (P := P) hs O hys hxok rx
            simp only [Rep] at ra
            rcases ra with ⟨sa, hx0, rfl⟩ | ⟨b, cap', hβ', hva, hle'⟩
            · -- an empty row without room
              have hx0' : xs = [] := List.eq_nil_of_length_eq_zero hx0
              subst hx0'
              by_cases hm : ys = []
              · subst hm
                have hrun := run_append_zero (P := P) (w := w) (ty := ty) ht hu hd hi (a := sa) (vx := vx) (news := news) (by rw [his]; exact hsrc)
                refine does_app (w' := w) O hn hg rfl hdd (fun _ => False) (fun _ _ _ => rfl) (fun _ h => h.elim) (Nat.le_refl _) rfl rfl rfl (val_run hrun) none ei.size 0 (fun b hb => by cases hb) (fun β' h1 h2 _ => ⟨none, 0, h2, (fun _ => ⟨by simp, rfl⟩), (fun b hb => by cases hb)⟩) (fun β' h1 h2 => ?_)
                simp only [Rep]; exact .inl ⟨sa, by simp, rfl⟩
              · have hyl : 0 < ys.length := List.length_pos_iff.2 hm
                refine grown (sa := sa) (sLen := 0) (sCap := 0) (xs := []) (olds := []) rfl rfl src_nil hxok (by omega) (by simpa using hle) (fun c' off' _ => by simp only [Repx]) hdd z
            · simp only [Nat.zero_mul, Nat.sub_zero] at hva
              subst hva
              rw [hβ] at hβ'
              simp only [Option.some.injEq, Prod.mk.injEq] at hβ'
              obtain ⟨rfl, rfl, rfl⟩ := hβ'
              obtain ⟨hnG, c, e', hb, hcs, hcl, hrow⟩ := hcells b rfl
              rw [RowP_false] at hrow
              by_cases hroom : xs.length + ys.length ≤ cap
              · have hmul : xs.length * ei.size + ys.length * ei.size ≤ cap * ei.size := by rw [← Nat.add_mul]; exact Nat.mul_le_mul_right _ hroom
                have hnl : news.length = ys.length * ei.size := hsrc.cl
                have hrun := run_append_in (P := P) (w := w) (ty := ty) ht hu hd hi (m := ys.length) (sLen := xs.length) (sCap := cap) (news := news) (vx := vx) hb (by rw [his]; exact hsrc) hones hroom (by rw [his, hnl, hcs]; exact hmul)
                rw [his] at hrun
                have hsp := getElem?_splice c.toList news (xs.length * ei.size) (by simp only [Array.length_toList]; omega)
                refine does_app (w' := w.setRow b (c.toList.take (xs.length * ei.size) ++ news ++ c.toList.drop (xs.length * ei.size + news.length)).toArray) O hn hg rfl hdd (fun i => i = b) (fun i _ hi => setRow_other w b i _ hi)
                  (fun i hi => ⟨nm', rfl, by subst hi; exact .inl ⟨_, _, hβ⟩⟩) (Nat.le_of_eq (setRow_size w b _).symm) rfl rfl rfl (val_run hrun) (some b) ei.size cap (fun i hi => by cases hi; exact .inr ⟨nm', rfl, .inl ⟨_, _, hβ⟩⟩) (fun β' h1 h2 hFs => ?_) (fun β' h1 h2 => ?_)
                · refine ⟨_, _, h2, (fun h => by cases h), fun i hi => ?_⟩
                  cases hi
                  refine ⟨fun h => h, _, e', setRow_heap w b c _ e' (0, 0) hb, ?_, by simpa using hroom, ?_⟩
                  · simp only [List.size_toArray, List.length_append, List.length_take, List.length_drop, Array.length_toList]; omega
                  · rw [RowP_false]
                    refine Repx.mono (fun b hb => ⟨hb, hFs b hb⟩) _ (fun _ _ h => h) (repx_of_append (hrow.cells fun j hj => ?_) (hnrow _ _ fun j hj => ?_))
                    · rw [Nat.zero_add, List.getElem?_toArray, hsp, if_pos hj]; simp
                    · rw [List.getElem?_toArray, hsp, if_neg (by omega), if_pos (by omega), Nat.add_sub_cancel_left]
                · simp only [Rep]; exact .inr ⟨b, cap, h2, by simp, by omega⟩
              · refine grown (sa := some ⟨b, 0, none⟩) (sLen := xs.length) (sCap := cap) (xs := xs) (olds := ((c.toList.drop 0).take (xs.length * ei.size))) rfl rfl (src_row hb (.inl ?_)) hxok (by omega) hle (fun c' off' hc' => repx_take hrow hc') hdd z
                rw [hcs, Nat.zero_add]; exact Nat.mul_le_mul_right _ hcl
          · simp at h
        · simp at h
      · rename_i s z xs
        split at h
        · rename_i hc
          simp only [Option.some.injEq] at h; subst h
          obtain ⟨hxok, hxy, hle⟩ := (hob : elemsOk tab x ∧ (xs = [] ∨ ys ≠ []) ∧ (xs.length + ys.length) * ei.bytes ≤ 140737488355328)
          have hdd : ∀ d, (none : Option Nm) = some d → ∃ o, tab.get d = some o ∧ o ≠ .dead := fun d hd => by cases hd
          obtain ⟨news, hsrc, hones, hnrow⟩ := elems_src (P := P) hs O hys hxok rx
          simp only [Rep] at ra
          rcases ra with ⟨rfl, sa, cap, rfl, hcap⟩ | ⟨b, off, cap, c, e', fr, rfl, hF, hb, hcl, htt, hrow⟩
          · have hcap0 := hcap trivial; subst hcap0
            by_cases hm : ys = []
            · subst hm
              have hrun := run_append_zero (P := P) (w := w) (ty := ty) ht hu hd hi (a := sa) (vx := vx) (news := news) (by rw [his]; exact hsrc)
              refine does_app (w' := w) O hn hg rfl hdd (fun _ => False) (fun _ _ _ => rfl) (fun _ h => h.elim) (Nat.le_refl _) rfl rfl rfl (val_run hrun) none ei.size 0 (fun b hb => by cases hb) (fun β' h1 h2 _ => ⟨none, 0, h2, (fun _ => ⟨by simp, rfl⟩), (fun b hb => by cases hb)⟩) (fun β' h1 h2 => ?_)
              simp only [Rep]; exact .inl ⟨sa, by simp, rfl⟩
            · have hyl : 0 < ys.length := List.length_pos_iff.2 hm
              exact grown (sa := sa) (sLen := 0) (sCap := 0) (xs := []) (olds := []) rfl rfl src_nil hxok (by omega) (by simpa using hle) (fun c' off' _ => by simp only [Repx]) hdd ei.y
          · have hcap := htt trivial
            subst hcap
            by_cases hx0 : xs = []
            · subst hx0
              by_cases hm : ys = []
              · subst hm
                have hrun := run_append_zero (P := P) (w := w) (ty := ty) ht hu hd hi (a := some ⟨b, off, none⟩) (vx := vx) (news := news) (by rw [his]; exact hsrc)
                refine does_app (w' := w) O hn hg rfl hdd (fun _ => False) (fun _ _ _ => rfl) (fun _ h => h.elim) (Nat.le_refl _) rfl rfl rfl (val_run hrun) none ei.size 0 (fun b hb => by cases hb) (fun β' h1 h2 _ => ⟨none, 0, h2, (fun _ => ⟨by simp, rfl⟩), (fun b hb => by cases hb)⟩) (fun β' h1 h2 => ?_)
                simp only [Rep]; exact .inl ⟨some ⟨b, off, none⟩, by simp, rfl⟩
              · have hyl : 0 < ys.length := List.length_pos_iff.2 hm
                exact grown (sa := some ⟨b, off, none⟩) (sLen := 0) (sCap := 0) (xs := []) (olds := []) rfl rfl src_nil hxok (by omega) (by simpa using hle) (fun c' off' _ => by simp only [Repx]) hdd ei.y
            · have hss : s = ei.size := by
                simp only [Bool.or_eq_true, List.isEmpty_iff, beq_iff_eq] at hc
                exact hc.resolve_left hx0
              subst hss
              have hyl : 0 < ys.length := List.length_pos_iff.2 (hxy.resolve_left hx0)
              exact grown (sa := some ⟨b, off, none⟩) (sLen := xs.length) (sCap := xs.length) (xs := xs) (olds := ((c.toList.drop off).take (xs.length * ei.size))) rfl rfl (src_row hb (.inl (hrow.size hs hx0))) hxok (by omega) hle (fun c' off' hc' => repx_take hrow hc') hdd ei.y
        · simp at h
      · simp at h
  · simp at h

set_option maxHeartbeats 1000000 in
theorem appendMakeD_sound {nm : Nm} {t u ty e : TypeId} {ei : TI} {k : IntKind} {a x : D} {va vx : Value} {r : AR} (ht : P.underlying t = some (.slice e)) (hu : P.underlying u = some (.int k)) (he : ei.ok P e) (O : Own W0 M0 F0 F β γ tab gen w)
    (hn : tab.get nm = none) (hg : nm.2 = gen) (h : appendMakeD nm ei a x = some r) (hob : r.ob) (ra : Rep F w.heap β a va) (rx : Rep F w.heap β x vx) :
    Does W0 M0 F0 F β tab gen w nm r ((do pure (.value (← Builtin.append_ #[t, u] ty #[va, vx])) : Sem Next).run P w) := by
  unfold appendMakeD at h
  split at h
  · rename_i s z kx n
    split at h
    · rename_i hpos
      obtain ⟨hs, hby⟩ := hpos
      simp only [Option.some.injEq] at h; subst h
      obtain ⟨h0, hle⟩ := (hob : 0 ≤ n ∧ n * ei.bytes ≤ 140737488355328)
      obtain ⟨i, hi, hib, his, hiz⟩ := he.info
      have hzc : ei.zero.cells.size = ei.size := by
        have := ((he.zok.2.2.2.2 F w.heap β).cells he.zok.1).length
        rw [he.zok.2.2.1] at this; simpa using this
      have hdd : ∀ d, (none : Option Nm) = some d → ∃ o, tab.get d = some o ∧ o ≠ .dead := fun d hd => by cases hd
      simp only [Rep] at rx; subst rx
      have hva : ∃ sa, va = .slice sa 0 0 := by
        simp only [Rep] at ra
        rcases ra with ⟨_, sa, cap, rfl, hcap⟩ | ⟨b, off, cap, c, e', fr, rfl, _, _, _, htt, _⟩
        · have := hcap trivial; subst this; exact ⟨sa, rfl⟩
        · have := htt trivial; simp at this; subst this; exact ⟨_, rfl⟩
      obtain ⟨sa, rfl⟩ := hva
      by_cases hn0 : n = 0
      · subst hn0
        have hrun := run_append_zeros0 (P := P) (w := w) (ty := ty) (k' := kx) ht hu hi (a := sa)
        refine does_app (w' := w) O hn hg rfl hdd (fun _ => False) (fun _ _ _ => rfl) (fun _ h => h.elim) (Nat.le_refl _) rfl rfl rfl (val_run hrun) none ei.size 0 (fun b hb => by cases hb) (fun β' h1 h2 _ => ⟨none, 0, h2, (fun _ => ⟨by simp, rfl⟩), (fun b hb => by cases hb)⟩) (fun β' h1 h2 => ?_)
        simp only [Rep]; exact .inl ⟨sa, by simp, rfl⟩
      · have hn1 : 0 < n := by omega
        have h63 : n ≤ 9223372036854775807 := by
          have h2 : n * 1 ≤ n * (ei.bytes : Int) := Int.mul_le_mul_of_nonneg_left (by omega) h0
          omega
        have hnn : n.toNat * ei.bytes ≤ 140737488355328 := by
          have h8 : ((n.toNat : Nat) : Int) = n := by omega
          have : ((n.toNat * ei.bytes : Nat) : Int) ≤ 140737488355328 := by rw [Int.natCast_mul, h8]; exact hle
          omega
        have hfit : Builtin.nextslicecap n.toNat 0 * i.bytes ≤ 281474976710656 := by rw [hib]; exact growslice_fits (by omega) hnn
        have hrun := run_append_zeros (P := P) (w := w) (ty := ty) (k' := kx) ht hu hi hiz (a := sa) hn1 h63 (by rw [hib]; omega) (by rw [his]; exact hs) hfit
        have hge := grownCap_ge w n.toNat 0 e
        generalize hcap : grownCap w n.toNat 0 e = cap at hrun hge
        have hsz : (Builtin.zeroCells ei.zero.cells n.toNat).size = n.toNat * ei.size := by rw [size_zeroCells, hzc]
        refine does_app (w' := w.drew.alloc (.cells (Builtin.zeroCells ei.zero.cells n.toNat ++ Builtin.zeroCells ei.zero.cells (cap - n.toNat)) e)) O hn hg rfl hdd (fun _ => False)
          (fun b hb _ => heap_alloc_old w.drew _ b hb) (fun _ h => h.elim) (by simp) rfl rfl rfl (val_run hrun) (some w.heap.size) ei.size cap (fun b hb => by cases hb; exact .inl ⟨Nat.le_refl _, by simp⟩) (fun β' h1 h2 hFs => ?_) (fun β' h1 h2 => ?_)
        · refine ⟨_, _, h2, (fun h => by cases h), fun b hb => ?_⟩
          cases hb
          refine ⟨fun h => h, _, e, heap_alloc_new w.drew _, ?_, ?_, ?_⟩
          · rw [Array.size_append, size_zeroCells, size_zeroCells, hzc, ← Nat.add_mul]; congr 1; omega
          · simpa using hge
          · rw [RowP_false]
            refine Repx.of_get fun j hj => ?_
            simp only [List.length_replicate] at hj
            refine ⟨ei.zero, by simpa using he.zok.2.2.2.2 _ _ _, ⟨by simpa using he.zok.1, hzc⟩, fun q hq => ?_⟩
            rw [hzc] at hq
            have hlt : j * ei.size + q < n.toNat * ei.size := by
              have : (j + 1) * ei.size ≤ n.toNat * ei.size := Nat.mul_le_mul_right _ (by omega)
              rw [Nat.add_mul] at this; omega
            have e1 : (j * ei.size + q) % ei.size = q := by rw [Nat.mul_comm, Nat.mul_add_mod, Nat.mod_eq_of_lt hq]
            rw [Nat.zero_add, Array.getElem?_append_left (by omega)]
            simp only [Builtin.zeroCells, Array.getElem?_map, hzc]
            rw [Array.getElem?_range, if_pos (by omega)]
            simp only [Option.map_some, e1]
            rw [getElem!_pos _ _ (by omega), Array.getElem?_eq_getElem]
        · simp only [Rep]; exact .inr ⟨w.heap.size, cap, h2, by simp, by omega⟩
    · simp at h
  · simp at h
end
end Go.Eng
namespace Go.Eng
set_option linter.unusedVariables false
set_option linter.unusedSimpArgs false

section
variable {P : Program} {Γ : Ctx} {W0 : World} {M0 F0 F : Nat → Prop} {β : Beta} {γ : Nm → Nat → Prop} {tab : Tab} {gen : Nat} {w : World}

theorem Own.retab {tab' : Tab} (O : Own W0 M0 F0 F β γ tab gen w) (h : ∀ n, tab'.get n = tab.get n) : Own W0 M0 F0 F β γ tab' gen w :=
  { O with gen := fun nm x hx => by rw [h]; exact O.gen nm x hx, own := fun nm o ho => O.own nm o (by rw [← h]; exact ho), fps := fun nm o ho => O.fps nm o (by rw [← h]; exact ho),
           dis := fun nm nm' o o' ho ho' => O.dis nm nm' o o' (by rw [← h]; exact ho) (by rw [← h]; exact ho') }
theorem fill_seq {s : Nat} : ∀ (vs : List Value) (k : Nat) (cs : Array Value), (∀ v ∈ vs, v.cells.size = s) → (k + vs.length) * s ≤ cs.size →
    ∃ out, Instr.fill (fun i => some (i * s, s)) cs ((List.range' k vs.length).zip vs) = some out ∧ out.size = cs.size ∧ (∀ j, j < k * s → out[j]? = cs[j]?) ∧ ∀ i v, vs[i]? = some v → Seg out ((k + i) * s) v.cells
  | [], k, cs, _, _ => ⟨cs, rfl, rfl, fun _ _ => rfl, fun i v h => by simp at h⟩
  | v :: vs, k, cs, hs, hl => by
    have hv : v.cells.size = s := hs v (by simp)
    have hmul : (k + (v :: vs).length) * s = k * s + s + vs.length * s := by simp [Nat.add_mul, Nat.mul_add]; omega
    have hfo := foldl_over (k * s) v.cells.toList 0 cs (by simp [hv]; omega)
    have e0 : v.cells.zipIdx.foldl (fun cs x => match x with | (c, j) => cs.setIfInBounds (k * s + j) c) cs = (cs.toList.take (k * s) ++ v.cells.toList ++ cs.toList.drop (k * s + s)).toArray := by
      rw [← Array.foldl_toList]
      simp only [Array.toList_zipIdx]
      simp only [Nat.add_zero, Array.length_toList, hv] at hfo
      exact hfo
    have hsz : (cs.toList.take (k * s) ++ v.cells.toList ++ cs.toList.drop (k * s + s)).toArray.size = cs.size := by simp [hv]; omega
    obtain ⟨out, h1, h2, h3, h4⟩ := fill_seq vs (k + 1) (cs.toList.take (k * s) ++ v.cells.toList ++ cs.toList.drop (k * s + s)).toArray (fun u hu => hs u (by simp [hu])) (by rw [hsz]; simp [Nat.add_mul]; omega)
    have hk1 : (k + 1) * s = k * s + s := by simp [Nat.add_mul]
    refine ⟨out, ?_, by rw [h2, hsz], fun j hj => ?_, fun i u hu => ?_⟩
    · simp only [List.length_cons, List.range'_succ, List.zip_cons_cons, Instr.fill]
      rw [if_neg (by simp [hv]; omega), e0]
      exact h1
    · rw [h3 j (by omega)]
      simp only [List.getElem?_toArray]
      rw [List.append_assoc, List.getElem?_append_left (by simp; omega), List.getElem?_take, if_pos hj]
      simp
    · cases i with
      | zero =>
        simp at hu; subst hu
        intro j hj
        simp only [Nat.add_zero]
        rw [h3 (k * s + j) (by omega)]
        simp only [List.getElem?_toArray]
        have ht : (cs.toList.take (k * s)).length = k * s := by simp; omega
        rw [List.getElem?_append_left (by simp [hv]; omega), List.getElem?_append_right (by omega), ht]
        simp
      | succ i =>
        have := h4 i u (by simpa using hu)
        rw [show k + (i + 1) = k + 1 + i by omega]
        exact this

theorem buildSliceD_sound {t e : TypeId} {ei : TI} {len : Nat} {ps : Array (Nat × Operand)} {ρ : Operand → D} {ρv : Operand → Value} {r : AR} {nm : Nm} (hu : P.underlying t = some (.slice e)) (he : ei.ok P e)
    (O : Own W0 M0 F0 F β γ tab gen w) (hn : r.eff = .frz ∨ tab.get nm = none) (hg : nm.2 = gen) (h : buildSliceD nm ei len (ps.toList.map fun p => (p.1, ρ p.2)) = some r) (hr : ∀ p ∈ ps.toList, Rep F w.heap β (ρ p.2) (ρv p.2)) :
    Does W0 M0 F0 F β tab gen w nm r ((do pure (.value (← Instr.buildSlice t len (ps.map fun p => (p.1, ρv p.2)))) : Sem Next).run P w) := by
  unfold buildSliceD at h
  split at h
  · rename_i hc
    obtain ⟨h1, h2, h3, hs0⟩ := hc
    have hlen : ps.toList.length = len := by have := congrArg List.length h1; simpa using this
    have hfst : ps.toList.map (·.1) = List.range len := by simpa [Function.comp_def] using h1
    have hall : ∀ p ∈ ps.toList, okD (ρ p.2) = true ∧ (cellsD (ρ p.2)).length = ei.size := by
      intro p hp
      have := List.all_eq_true.1 h2 (p.1, ρ p.2) (List.mem_map.2 ⟨p, hp, rfl⟩)
      simpa [Bool.and_eq_true] using this
    have hsz : ∀ v ∈ ps.toList.map (fun p => ρv p.2), v.cells.size = ei.size := by
      intro v hv
      obtain ⟨p, hp, rfl⟩ := List.mem_map.1 hv
      have := ((hr p hp).cells (hall p hp).1).length
      rw [(hall p hp).2] at this
      simpa using this
    have hparts : (ps.map fun p => (p.1, ρv p.2)).toList = (List.range' 0 (ps.toList.map fun p => ρv p.2).length).zip (ps.toList.map fun p => ρv p.2) := by
      rw [← List.range_eq_range', List.length_map, hlen, ← hfst, List.zip_map']
      simp
    have hgt : ¬ len * ei.size > 2 ^ 24 := by omega
    have hrun : ∃ out, (Instr.buildSlice t len (ps.map fun p => (p.1, ρv p.2))).run P w = .ok (.slice (some ⟨w.heap.size, 0, none⟩) len len) { w with heap := w.heap.push (.cells out e) } ∧ out.size = len * ei.size ∧
        ∀ i v, (ps.toList.map fun p => ρv p.2)[i]? = some v → Seg out (i * ei.size) v.cells := by
      have body : ∀ (zero : Array Value), ∃ out, Instr.fill (fun i => some (i * ei.size, ei.size)) ((Array.range (len * ei.size)).map (zero[· % zero.size]!)) (ps.map fun p => (p.1, ρv p.2)).toList = some out ∧ out.size = len * ei.size ∧
          ∀ i v, (ps.toList.map fun p => ρv p.2)[i]? = some v → Seg out (i * ei.size) v.cells := by
        intro zero
        obtain ⟨out, g1, g2, _, g4⟩ := fill_seq (ps.toList.map fun p => ρv p.2) 0 ((Array.range (len * ei.size)).map (zero[· % zero.size]!)) hsz (by simp [← hlen])
        rw [hparts]
        exact ⟨out, g1, by simpa using g2, fun i v hi => by simpa using g4 i v hi⟩
      by_cases h0 : len * ei.size = 0
      · obtain ⟨out, g1, g0, g2⟩ := body #[]
        refine ⟨out, ?_, g0, g2⟩
        simp only [Instr.buildSlice, Sem.run_bind, run_und hu, Result.andThen_ok, he.run_size, if_neg hgt, if_pos h0, Sem.run_pure, g1, newRow, run_newObj]
      · obtain ⟨out, g1, g0, g2⟩ := body ei.zero.cells
        refine ⟨out, ?_, g0, g2⟩
        simp only [Instr.buildSlice, Sem.run_bind, run_und hu, Result.andThen_ok, he.run_size, if_neg hgt, if_neg h0, he.run_zero, Sem.run_pure, g1, newRow, run_newObj]
    obtain ⟨out, hrun, hosz, hseg⟩ := hrun
    have hpl : ((ps.toList.map fun p => (p.1, ρ p.2)).map (·.2)).length = len := by simp [hlen]
    have rows : ∀ (F' : Nat → Prop) (h' : Array Obj) (β' : Beta), (∀ p ∈ ps.toList, Rep F' h' β' (ρ p.2) (ρv p.2)) → Repx F' h' β' ei.size out ((ps.toList.map fun p => (p.1, ρ p.2)).map (·.2)) 0 := by
      intro F' h' β' hrr
      refine Repx.of_get fun i hi => ?_
      have hil : i < ps.toList.length := by omega
      have hmem : ps.toList[i] ∈ ps.toList := List.getElem_mem _
      refine ⟨ρv ps.toList[i].2, by simpa using hrr _ hmem, ⟨by simpa using (hall _ hmem).1, hsz _ (List.mem_map.2 ⟨_, hmem, rfl⟩)⟩, ?_⟩
      have := hseg i (ρv ps.toList[i].2) (by rw [List.getElem?_map, List.getElem?_eq_getElem hil]; rfl)
      simpa using this
    split at h
    · rename_i hp
      split at h
      · simp only [Option.some.injEq] at h; subst h
        refine ⟨{ w with heap := w.heap.push (.cells out e) }, fun b => F b ∨ b = w.heap.size, β, γ, _, _, val_run hrun, .inl rfl, ?_, fun b hb => ⟨.inl hb, by simp [Array.getElem?_push, Nat.ne_of_lt (O.Flt b hb)]⟩, fun _ _ h => h, ?_⟩
        · simp only [applyE]
          refine O.frz (w' := { w with heap := w.heap.push (.cells out e) }) (fun b hb => by simp [Array.getElem?_push, Nat.ne_of_lt hb]) (by simp) rfl rfl rfl (F' := fun b => F b ∨ b = w.heap.size) (fun b hb => .inl hb) (fun b hb => by
            rcases hb with hb | hb
            · exact .inl hb
            · subst hb; exact .inr ⟨Nat.le_refl _, by show _ < (w.heap.push _).size; rw [Array.size_push]; exact Nat.lt_succ_self _⟩)
        · simp only [Rep]
          refine .inr ⟨w.heap.size, 0, len, out, e, (0, 0), by rw [hpl], .inr rfl, by simp, by rw [hpl]; exact Nat.le_refl _, (fun h => by cases h), ?_⟩
          refine Repx.rebeta (β := β) _ hp (rows _ _ _ fun p hp => Rep.mono (fun b hb => ⟨.inl hb, ?_⟩) _ (fun _ _ h => h) (hr p hp))
          simp [Array.getElem?_push, Nat.ne_of_lt (O.Flt b hb)]
      simp only [Option.some.injEq] at h; subst h
      have hn := hn.resolve_left (by simp)
      refine does_new (w' := { w with heap := w.heap.push (.cells out e) }) (ob := .cells out e) O hn hg rfl rfl rfl rfl rfl (val_run hrun) (some w.heap.size) ei.size len (.inr rfl) (fun β' h4 h5 => ?_) (fun β' h4 h5 => ?_)
      · refine ⟨_, len, h5, (fun h => by cases h), fun b hb => ?_⟩
        cases hb
        refine ⟨fun h => h, out, e, by simp, hosz, by simp [hlen], ?_⟩
        first | rw [RowP_false] | simp only [Bool.false_eq_true, if_false]
        refine Repx.rebeta (β := β) _ hp (rows _ _ _ fun p hp => Rep.mono (fun b hb => ⟨hb, ?_⟩) _ (fun _ _ h => h) (hr p hp))
        simp [Array.getElem?_push, Nat.ne_of_lt (O.Flt b hb)]
      · simp only [Rep]; exact .inr ⟨w.heap.size, len, h5, by simp, by omega⟩
    · simp only [Option.some.injEq] at h; subst h
      refine ⟨{ w with heap := w.heap.push (.cells out e) }, fun b => F b ∨ b = w.heap.size, β, γ, _, _, val_run hrun, .inl rfl, ?_, fun b hb => ⟨.inl hb, by simp [Array.getElem?_push, Nat.ne_of_lt (O.Flt b hb)]⟩, fun _ _ h => h, ?_⟩
      · simp only [applyE]
        refine O.frz (w' := { w with heap := w.heap.push (.cells out e) }) (fun b hb => by simp [Array.getElem?_push, Nat.ne_of_lt hb]) (by simp) rfl rfl rfl (F' := fun b => F b ∨ b = w.heap.size) (fun b hb => .inl hb) (fun b hb => by
          rcases hb with hb | hb
          · exact .inl hb
          · subst hb; exact .inr ⟨Nat.le_refl _, by show _ < (w.heap.push _).size; rw [Array.size_push]; exact Nat.lt_succ_self _⟩)
      · simp only [Rep]
        refine .inr ⟨w.heap.size, 0, out, e, (0, 0), by rw [hpl], .inr rfl, by simp, rows _ _ _ fun p hp => Rep.mono (fun b hb => ⟨.inl hb, ?_⟩) _ (fun _ _ h => h) (hr p hp)⟩
        simp [Array.getElem?_push, Nat.ne_of_lt (O.Flt b hb)]
  · simp at h

theorem makeSliceD_sound {t e : TypeId} {ei : TI} {l c : D} {vl vc : Value} {r : AR} {nm : Nm} (hu : P.underlying t = some (.slice e)) (he : ei.ok P e)
    (O : Own W0 M0 F0 F β γ tab gen w) (hn : tab.get nm = none) (hg : nm.2 = gen) (h : makeSliceD nm ei l c = some r) (hob : r.ob) (rl : Rep F w.heap β l vl) (rc : Rep F w.heap β c vc) :
    Does W0 M0 F0 F β tab gen w nm r ((do pure (.value (← Instr.makeSlice t vl vc)) : Sem Next).run P w) := by
  unfold makeSliceD at h
  split at h
  · rename_i kl l kc c
    split at h
    · rename_i hpos
      simp only [Option.some.injEq] at h; subst h
      obtain ⟨h0, hlc, hb⟩ := (hob : 0 ≤ l ∧ l ≤ c ∧ c * ei.bytes ≤ 140737488355328)
      simp only [Rep] at rl rc
      subst rl; subst rc
      obtain ⟨i, hi, hib, his, hiz⟩ := he.info
      have hzc : ei.zero.cells.size = ei.size := by
        have := ((he.zok.2.2.2.2 F w.heap β).cells he.zok.1).length
        rw [he.zok.2.2.1] at this; simpa using this
      have hbytes : (i.bytes : Int) * c ≤ 281474976710656 := by rw [hib, Int.mul_comm]; omega
      have h63 : c ≤ 9223372036854775807 := by
        have h1 : 0 ≤ c := by omega
        have h2 : c * 1 ≤ c * (ei.bytes : Int) := Int.mul_le_mul_of_nonneg_left (by omega) h1
        omega
      have hrun := run_make (P := P) w t e i ei.zero hu hi hiz kl kc l c h0 hlc hbytes h63
      rw [his] at hrun
      refine does_new (w' := w.alloc (.cells (madeCells ei.zero.cells (c.toNat * ei.size)) e)) (ob := .cells (madeCells ei.zero.cells (c.toNat * ei.size)) e) O hn hg rfl rfl rfl rfl rfl (val_run hrun) (some w.heap.size) ei.size c.toNat (.inr rfl) (fun β' h4 h5 => ?_) (fun β' h4 h5 => ?_)
      · refine ⟨_, c.toNat, h5, (fun h => by cases h), fun b hb => ?_⟩
        cases hb
        refine ⟨fun h => h, _, e, heap_alloc_new w _, size_madeCells _ _, by simp; omega, ?_⟩
        first | rw [RowP_false] | simp only [Bool.false_eq_true, if_false]
        refine Repx.of_get fun j hj => ?_
        simp only [List.length_replicate] at hj
        have hmul : (j + 1) * ei.size ≤ c.toNat * ei.size := Nat.mul_le_mul_right _ (by omega)
        rw [Nat.add_mul] at hmul
        refine ⟨ei.zero, by simpa using he.zok.2.2.2.2 _ _ _, ⟨by simpa using he.zok.1, hzc⟩, fun q hq => ?_⟩
        rw [hzc] at hq
        have e1 : (j * ei.size + q) % ei.size = q := by rw [Nat.mul_comm, Nat.mul_add_mod, Nat.mod_eq_of_lt hq]
        simp only [Nat.zero_add, madeCells, Array.getElem?_map]
        rw [Array.getElem?_range, if_pos (by omega)]
        simp only [Option.map_some, hzc, e1]
        rw [getElem!_pos _ _ (by omega), Array.getElem?_eq_getElem]
      · simp only [Rep]; exact .inr ⟨w.heap.size, c.toNat, h5, by simp, by omega⟩
    · simp at h
  · simp at h

theorem copyD_sound {t u ty e : TypeId} {ei : TI} {a x : D} {va vx : Value} {r : AR} {nm : Nm} (ht : P.underlying t = some (.slice e)) (he : ei.ok P e)
    (O : Own W0 M0 F0 F β γ tab gen w) (h : copyD ei tab a x = some r) (hob : r.ob) (ra : Rep F w.heap β a va) (rx : Rep F w.heap β x vx) :
    Does W0 M0 F0 F β tab gen w nm r ((do pure (.value (← Builtin.copy_ #[t, u] ty #[va, vx])) : Sem Next).run P w) := by
  unfold copyD at h
  split at h
  · rename_i nm0 s0 o n ys hys
    split at h
    · rename_i s z xs htab
      split at h
      · rename_i hc
        obtain ⟨rfl, rfl, hne, hs⟩ := hc
        simp only [Option.some.injEq] at h; subst h
        obtain ⟨hxok, hnx⟩ := (hob : elemsOk tab x ∧ n ≤ xs.length)
        obtain ⟨bo, cap, hβ, hbo, hcells⟩ := O.own nm0 _ htab
        obtain ⟨news, hsrc, hones, hnrow⟩ := elems_src (P := P) hs O hys hxok rx
        have hfi := hsrc.first (min ys.length n) (by omega) w rfl
        simp only [Rep] at ra
        rcases ra with ⟨sa, rfl, rfl⟩ | ⟨b, cap', hβ', rfl, hle'⟩
        · -- nothing to write
          have hrun : (Builtin.copy_ #[t, u] ty #[.slice sa 0 0, vx]).run P w = .ok (.int .i64 0) w := by
            simp only [Nat.min_zero, Nat.zero_mul, List.take_zero] at hfi
            cases sa <;> simp [Builtin.copy_, run_underlying ht, hsrc.len, he.run_size, hfi, storeCells, goInt]
          refine ⟨w, F, β, γ, _, _, val_run hrun, .inl rfl, ?_, fun b hb => ⟨hb, rfl⟩, fun _ _ h => h, by simp [Rep]⟩
          simp only [applyE, Nat.min_zero, List.take_zero, List.drop_zero, List.nil_append]
          exact O.retab fun nm' => by rw [Tab.get_set]; split <;> simp_all
        · rw [hβ] at hβ'
          simp only [Option.some.injEq, Prod.mk.injEq] at hβ'
          obtain ⟨rfl, rfl, rfl⟩ := hβ'
          obtain ⟨hnG, c, e', hb, hcs, hcl, hrow⟩ := hcells b rfl
          simp only [RowP_false] at hrow
          have hnl : news.length = ys.length * ei.size := hsrc.cl
          have hmul : min ys.length n * ei.size ≤ cap * ei.size := Nat.mul_le_mul_right _ (by omega)
          have hmul2 : min ys.length n * ei.size ≤ ys.length * ei.size := Nat.mul_le_mul_right _ (by omega)
          have htl : (news.take (min ys.length n * ei.size)).length = min ys.length n * ei.size := by rw [List.length_take]; omega
          have hst := run_storeCells_at P b 0 e' (news.take (min ys.length n * ei.size)) 0 c w hb (by rw [htl]; omega) (fun v hv => hones v (List.mem_of_mem_take hv))
          simp only [Nat.add_zero, Nat.zero_add, List.take_zero, List.nil_append, htl] at hst
          have hrun : (Builtin.copy_ #[t, u] ty #[.slice (some ⟨b, 0 * ei.size, none⟩) n (cap - 0), vx]).run P w = .ok (.int .i64 (min ys.length n : Nat)) (w.setRow b (news.take (min ys.length n * ei.size) ++ c.toList.drop (min ys.length n * ei.size)).toArray) := by
            simp only [Nat.zero_mul]
            have e0 : Nat.min ys.length n = min ys.length n := rfl
            simp only [Builtin.copy_, List.getElem?_toArray, List.getElem?_cons_zero, List.getElem?_cons_succ, Sem.run_bind, run_underlying ht, Result.andThen_ok, hsrc.len, he.run_size, e0, hfi, hst, Sem.run_pure, goInt]
          refine does_set (nm0 := nm0) (o0 := .arr false ei.size z (ys.take n ++ xs.drop (min ys.length n))) O htab (by simp) (by simp) rfl hβ (fun i hi => setRow_other w b i _ hi) (setRow_size w b _) rfl rfl rfl (val_run hrun) (.inl rfl) ⟨_, cap, hβ, (fun h => by cases h), fun i hi => ?_⟩ (by simp only [Rep])
          cases hi
          have hnF := (O.fps nm0 _ htab (by simp) b (.inl ⟨_, _, hβ⟩)).1
          refine ⟨hnG, _, e', setRow_heap w b c _ e' (0, 0) hb, ?_, by simp; omega, ?_⟩
          · simp only [List.size_toArray, List.length_append, htl, List.length_drop, Array.length_toList]; omega
          · first | rw [RowP_false] | simp only [Bool.false_eq_true, if_false]
            refine Repx.mono (fun k hk => ⟨hk, setRow_other w b k _ fun e => hnF (e ▸ hk)⟩) _ (fun _ _ h => h) (repx_of_append ?_ ?_)
            · have h1 := (hnrow news.toArray 0 fun j hj => by simp).take_drop 0 n
              simp only [List.drop_zero, Nat.zero_mul, Nat.add_zero] at h1
              refine h1.cells fun j hj => ?_
              have hj' : j < min ys.length n * ei.size := by rw [List.length_take, Nat.min_comm] at hj; exact hj
              rw [Nat.zero_add, List.getElem?_toArray, List.getElem?_append_left (by omega), List.getElem?_take, if_pos hj']; simp
            · have h1 := hrow.take_drop (min ys.length n) xs.length
              rw [List.take_of_length_le (by simp)] at h1
              have hl : (ys.take n).length = min ys.length n := by rw [List.length_take, Nat.min_comm]
              rw [hl]
              refine h1.cells fun j hj => ?_
              rw [List.getElem?_toArray, List.getElem?_append_right (by omega), htl, Nat.add_sub_cancel_left, List.getElem?_drop, Array.getElem?_toList]
              congr 1; omega
      · simp at h
    · simp at h
  · simp at h

theorem clearD_sound {t ty e : TypeId} {ei : TI} {a : D} {va : Value} {r : AR} {nm : Nm} (ht : P.underlying t = some (.slice e)) (he : ei.ok P e)
    (O : Own W0 M0 F0 F β γ tab gen w) (h : clearD ei tab a = some r) (hob : r.ob) (ra : Rep F w.heap β a va) :
    Does W0 M0 F0 F β tab gen w nm r ((do pure (.value (← Builtin.clear_ #[t] ty #[va])) : Sem Next).run P w) := by
  unfold clearD at h
  split at h
  · rename_i nm0 s0 o n
    split at h
    · rename_i s z xs htab
      split at h
      · rename_i hc
        obtain ⟨rfl, hs⟩ := hc
        simp only [Option.some.injEq] at h; subst h
        have hox : o + n ≤ xs.length := hob
        obtain ⟨bo, cap, hβ, hbo, hcells⟩ := O.own nm0 _ htab
        have hzc : ei.zero.cells.size = ei.size := by
          have := ((he.zok.2.2.2.2 F w.heap β).cells he.zok.1).length
          rw [he.zok.2.2.1] at this; simpa using this
        have zero_run : ∀ (sa : Option Addr) (cp : Nat), (Builtin.clear_ #[t] ty #[.slice sa 0 cp]).run P w = .ok (.tuple #[]) w := by
          intro sa cp
          cases sa <;> simp [Builtin.clear_, run_underlying ht]
        have same : n = 0 → ∀ nx, (do pure (.value (← Builtin.clear_ #[t] ty #[va])) : Sem Next).run P w = .ok (.value nx) w → nx = .tuple #[] → Does W0 M0 F0 F β tab gen w nm ⟨o + n ≤ xs.length, .tup [], .set nm0 (.arr false ei.size z (xs.take o ++ List.replicate n ei.z ++ xs.drop (o + n)))⟩
            ((do pure (.value (← Builtin.clear_ #[t] ty #[va])) : Sem Next).run P w) := by
          intro hn nx hr hnx
          subst hnx; subst hn
          refine ⟨w, F, β, γ, _, _, hr, .inl rfl, ?_, fun b hb => ⟨hb, rfl⟩, fun _ _ h => h, by simp [Rep, Reps]⟩
          simp only [applyE, Nat.add_zero, List.replicate_zero, List.append_nil, List.take_append_drop]
          exact O.retab fun nm' => by rw [Tab.get_set]; split <;> simp_all
        simp only [Rep] at ra
        rcases ra with ⟨sa, rfl, rfl⟩ | ⟨b, cap', hβ', rfl, hle'⟩
        · exact same rfl _ (val_run (zero_run sa 0)) rfl
        · by_cases hn : n = 0
          · subst hn
            exact same rfl _ (val_run (zero_run _ _)) rfl
          rw [hβ] at hβ'
          simp only [Option.some.injEq, Prod.mk.injEq] at hβ'
          obtain ⟨rfl, rfl, rfl⟩ := hβ'
          obtain ⟨hnG, c, e', hb, hcs, hcl, hrow⟩ := hcells b rfl
          simp only [RowP_false] at hrow
          have hzs : (Builtin.zeroCells ei.zero.cells n).toList.length = n * ei.size := by simp [size_zeroCells, hzc]
          have hmul : o * ei.size + n * ei.size ≤ cap * ei.size := by rw [← Nat.add_mul]; exact Nat.mul_le_mul_right _ (by omega)
          have hst := run_storeCells_at P b (o * ei.size) e' (Builtin.zeroCells ei.zero.cells n).toList 0 c w hb (by rw [hzs]; omega) (fun v hv => by
            simp only [Builtin.zeroCells, Array.toList_map, List.mem_map] at hv
            obtain ⟨i, _, rfl⟩ := hv
            have hlt : i % ei.zero.cells.size < ei.zero.cells.size := Nat.mod_lt _ (by omega)
            rw [getElem!_pos ei.zero.cells (i % ei.zero.cells.size) hlt]
            exact (he.zok.2.2.2.2 F w.heap β).ones he.zok.1 _ (by simp))
          simp only [Nat.add_zero] at hst
          have hrun : (Builtin.clear_ #[t] ty #[.slice (some ⟨b, o * ei.size, none⟩) n (cap - o)]).run P w = .ok (.tuple #[]) (w.setRow b (c.toList.take (o * ei.size) ++ (Builtin.zeroCells ei.zero.cells n).toList ++ c.toList.drop (o * ei.size + (Builtin.zeroCells ei.zero.cells n).toList.length)).toArray) := by
            cases n with
            | zero => exact absurd rfl hn
            | succ n => simp [Builtin.clear_, run_underlying ht, he.run_zero, hst]
          have hsp := getElem?_splice c.toList (Builtin.zeroCells ei.zero.cells n).toList (o * ei.size) (by rw [hzs]; simp only [Array.length_toList]; omega)
          refine does_set (nm0 := nm0) (o0 := .arr false ei.size z (xs.take o ++ List.replicate n ei.z ++ xs.drop (o + n))) O htab (by simp) (by simp) rfl hβ (fun i hi => setRow_other w b i _ hi) (setRow_size w b _) rfl rfl rfl (val_run hrun) (.inl rfl) ⟨_, cap, hβ, (fun h => by cases h), fun i hi => ?_⟩ (by simp [Rep, Reps])
          cases hi
          have hnF := (O.fps nm0 _ htab (by simp) b (.inl ⟨_, _, hβ⟩)).1
          refine ⟨hnG, _, e', setRow_heap w b c _ e' (0, 0) hb, ?_, by simp; omega, ?_⟩
          · simp only [List.size_toArray, List.length_append, List.length_take, hzs, List.length_drop, Array.length_toList]; omega
          · first | rw [RowP_false] | simp only [Bool.false_eq_true, if_false]
            refine Repx.mono (fun k hk => ⟨hk, setRow_other w b k _ fun e => hnF (e ▸ hk)⟩) _ (fun _ _ h => h) (Repx.of_get fun j hj => ?_)
            have hlen : (xs.take o ++ List.replicate n ei.z ++ xs.drop (o + n)).length = xs.length := by simp; omega
            rw [hlen] at hj
            have hg := getElem?_splice xs (List.replicate n ei.z) o (by simp; omega) j
            simp only [List.length_replicate] at hg
            have out : ∀ (k1 : j < o ∨ o + n ≤ j) (dd : D), xs[j]? = some dd → ∃ u, Rep F w.heap Beta.none dd u ∧ (okD dd = true ∧ u.cells.size = ei.size) ∧ Seg (c.toList.take (o * ei.size) ++ (Builtin.zeroCells ei.zero.cells n).toList ++ c.toList.drop (o * ei.size + (Builtin.zeroCells ei.zero.cells n).toList.length)).toArray (0 + j * ei.size) u.cells := by
              intro k1 dd hdd
              obtain ⟨u, g1, g2, g3⟩ := hrow.get j hj
              have : xs[j] = dd := by rw [List.getElem?_eq_getElem hj] at hdd; exact Option.some.inj hdd
              rw [this] at g1 g2
              refine ⟨u, g1, g2, fun q hq => ?_⟩
              rw [g2.2] at hq
              rw [List.getElem?_toArray, hsp]
              have hq1 : j * ei.size + ei.size = (j + 1) * ei.size := by rw [Nat.add_mul]; omega
              rcases k1 with k1 | k1
              · have : (j + 1) * ei.size ≤ o * ei.size := Nat.mul_le_mul_right _ k1
                rw [if_pos (by omega)]; have := g3 q (by rw [g2.2]; exact hq); simpa using this
              · have : (o + n) * ei.size ≤ j * ei.size := Nat.mul_le_mul_right _ k1
                rw [Nat.add_mul] at this
                rw [if_neg (by omega), if_neg (by rw [hzs]; omega)]; have := g3 q (by rw [g2.2]; exact hq); simpa using this
            by_cases k1 : j < o
            · rw [if_pos k1] at hg
              obtain ⟨u, g1, g2, g3⟩ := out (.inl k1) _ (List.getElem?_eq_getElem hj)
              have e1 : (xs.take o ++ List.replicate n ei.z ++ xs.drop (o + n))[j]'(by omega) = xs[j] := by
                rw [List.getElem?_eq_getElem (by omega), List.getElem?_eq_getElem hj] at hg; exact Option.some.inj hg
              exact ⟨u, by rw [e1]; exact g1, by rw [e1]; exact g2, g3⟩
            · by_cases k2 : j < o + n
              · rw [if_neg k1, if_pos k2] at hg
                have e1 : (xs.take o ++ List.replicate n ei.z ++ xs.drop (o + n))[j]'(by omega) = ei.z := by
                  rw [List.getElem?_eq_getElem (by omega), List.getElem?_replicate, if_pos (by omega)] at hg; exact Option.some.inj hg
                refine ⟨ei.zero, by rw [e1]; exact he.zok.2.2.2.2 _ _ _, by rw [e1]; exact ⟨he.zok.1, hzc⟩, fun q hq => ?_⟩
                rw [hzc] at hq
                have h1 : o * ei.size ≤ j * ei.size := Nat.mul_le_mul_right _ (by omega)
                have h2 : (j + 1) * ei.size ≤ (o + n) * ei.size := Nat.mul_le_mul_right _ (by omega)
                rw [Nat.add_mul, Nat.add_mul] at h2
                rw [List.getElem?_toArray, hsp, if_neg (by omega), if_pos (by rw [hzs]; omega)]
                have e2 : (j * ei.size - o * ei.size + q) % ei.size = q := by rw [← Nat.sub_mul, Nat.mul_comm, Nat.mul_add_mod, Nat.mod_eq_of_lt hq]
                rw [show 0 + j * ei.size + q - o * ei.size = j * ei.size - o * ei.size + q by omega]
                simp only [Builtin.zeroCells, Array.toList_map, List.getElem?_map, Array.toList_range]
                rw [List.getElem?_range (by rw [hzc]; omega)]
                simp only [Option.map_some, hzc, e2]
                rw [getElem!_pos _ _ (by omega), Array.getElem?_eq_getElem]
              · rw [if_neg k1, if_neg k2] at hg
                obtain ⟨u, g1, g2, g3⟩ := out (.inr (by omega)) _ (List.getElem?_eq_getElem hj)
                have e1 : (xs.take o ++ List.replicate n ei.z ++ xs.drop (o + n))[j]'(by omega) = xs[j] := by
                  rw [List.getElem?_eq_getElem (by omega), List.getElem?_eq_getElem hj] at hg; exact Option.some.inj hg
                exact ⟨u, by rw [e1]; exact g1, by rw [e1]; exact g2, g3⟩
      · simp at h
    · simp at h
  · simp at h
end
end Go.Eng
namespace Go.Eng
set_option linter.unusedVariables false
set_option linter.unusedSimpArgs false

section
variable {P : Program} {Γ : Ctx} {W0 : World} {M0 F0 F : Nat → Prop} {β : Beta} {γ : Nm → Nat → Prop} {tab : Tab} {gen : Nat} {w : World}

theorem Rep.loose {F : Nat → Prop} {h : Array Obj} {β : Beta} {t : Bool} {s : Nat} {z : D} {xs : List D} {v : Value} (r : Rep F h β (.sl t s z xs) v) : Rep F h β (.sl false s z xs) v := by
  simp only [Rep] at r ⊢
  rcases r with ⟨h1, a, cap, h2, h3⟩ | ⟨b, off, cap, c, e, fr, h1, h2, h3, h4, h5, h6⟩
  · exact .inl ⟨h1, a, cap, h2, by simp⟩
  · exact .inr ⟨b, off, cap, c, e, fr, h1, h2, h3, h4, by simp, h6⟩

theorem run_bound (k : IntKind) (i : Int) (y : Nat) (c : BoundsCode) (h0 : 0 ≤ i) (h : i ≤ y) : (Instr.sliceBound (.int k i) y c).run P w = .ok i.toNat w := by
  simp [Instr.sliceBound, asIntOf, h0, h]
theorem run_sliceAt {t e : TypeId} {x : Value} {lo hi mx : Option Value} (ht : P.underlying t = some (.slice e)) : (Instr.sliceAt t x lo hi mx).run P w = (Instr.slice t x lo hi mx).run P w := by
  simp [Instr.sliceAt, run_und ht]
theorem run_slice_bounds {t e : TypeId} {ei : TI} {lo hi mx : Option Value} {a : Option Addr} {len cap : Nat} {l h m : Int} (ht : P.underlying t = some (.slice e)) (he : ei.ok P e)
    (hl : lo = none ∧ l = 0 ∨ ∃ k, lo = some (.int k l)) (hh : hi = none ∧ h = len ∨ ∃ k, hi = some (.int k h)) (hm : mx = none ∧ m = cap ∨ (∃ k, mx = some (.int k m)) ∧ hi ≠ none)
    (h0 : 0 ≤ l) (h1 : l ≤ h) (h2 : h ≤ m) (h3 : m ≤ cap) : (Instr.sliceAt t (.slice a len cap) lo hi mx).run P w = .ok (.slice (if m = l then a else a.map (·.add (l.toNat * ei.size))) (h.toNat - l.toNat) (m.toNat - l.toNat)) w := by
  have e2 : (Instr.sliceBounds true len cap lo hi mx).run P w = .ok (l.toNat, h.toNat, m.toNat) w := by
    have c1 : l ≤ (h.toNat : Int) := by omega
    have c2 : h ≤ (m.toNat : Int) := by omega
    have c3 : ∀ k c, (Instr.sliceBound (.int k l) h.toNat c).run P w = .ok l.toNat w := fun k c => run_bound k l _ c h0 c1
    have c4 : ∀ k c, (Instr.sliceBound (.int k h) m.toNat c).run P w = .ok h.toNat w := fun k c => run_bound k h _ c (by omega) c2
    have c5 : ∀ k c, (Instr.sliceBound (.int k m) cap c).run P w = .ok m.toNat w := fun k c => run_bound k m _ c (by omega) h3
    rcases hm with ⟨rfl, rfl⟩ | ⟨⟨k3, rfl⟩, hne⟩
    · have c6 : ∀ k c, (Instr.sliceBound (.int k h) cap c).run P w = .ok h.toNat w := fun k c => run_bound k h _ c (by omega) h2
      rcases hl with ⟨rfl, rfl⟩ | ⟨k1, rfl⟩ <;> rcases hh with ⟨rfl, rfl⟩ | ⟨k2, rfl⟩
      · simp [Instr.sliceBounds]
      · simp [Instr.sliceBounds, c6]
      · have := c3 k1 .sliceB
        simp at this
        simp [Instr.sliceBounds, this]
      · simp [Instr.sliceBounds, c6, c3]
    · rcases hl with ⟨rfl, rfl⟩ | ⟨k1, rfl⟩ <;> rcases hh with ⟨rfl, rfl⟩ | ⟨k2, rfl⟩ <;> first | (exact absurd rfl hne) | simp [Instr.sliceBounds, c3, c4, c5]
  rw [run_sliceAt ht]
  simp only [Instr.slice, Sem.run_bind, run_und ht, Result.andThen_ok, e2, he.run_size, Sem.run_pure]
  congr 2
  by_cases hml : m = l
  · subst hml; simp
  · rw [if_neg hml, if_neg (by omega)]

theorem map_none' {α β γ : Type} {o : Option α} {f : α → β} {g : α → γ} (h : o.map f = none) : o.map g = none := by cases o <;> simp at h ⊢
theorem map_some' {α β γ : Type} {o : Option α} {f : α → β} {g : α → γ} {x : β} (h : o.map f = some x) : o.map g ≠ none := by cases o <;> simp at h ⊢
theorem bnd_val {lo : Option Operand} {ρ : Operand → D} {ρv : Operand → Value} {n l : Int} (h : bndD (lo.map ρ) n = some l) (hl : ∀ y, lo = some y → Rep F w.heap β (ρ y) (ρv y)) : lo.map ρv = none ∧ l = n ∨ ∃ k, lo.map ρv = some (.int k l) := by
  cases lo with
  | none => simp [bndD] at h; exact .inl ⟨rfl, h.symm⟩
  | some y =>
    right
    have := hl y rfl
    simp only [Option.map_some] at h ⊢
    unfold bndD at h
    split at h
    · rename_i e; cases e
    · rename_i k l' e
      simp only [Option.some.injEq] at h e
      subst h
      rw [e] at this
      simp only [Rep] at this
      exact ⟨k, by rw [this]⟩
    · simp at h
set_option maxHeartbeats 1000000 in
theorem sliceD_sound {t : TypeId} {ti : TI} {x : D} {vx : Value} {lo hi mx : Option Operand} {ρ : Operand → D} {ρv : Operand → Value} {r : AR} (hΓ : Γ.ok P) (ht : ti.ok P t)
    (h : sliceD Γ ti x (lo.map ρ) (hi.map ρ) (mx.map ρ) = some r) (hob : r.ob) (rx : Rep F w.heap β x vx) (hl : ∀ y, lo = some y → Rep F w.heap β (ρ y) (ρv y)) (hh : ∀ y, hi = some y → Rep F w.heap β (ρ y) (ρv y)) (hm : ∀ y, mx = some y → Rep F w.heap β (ρ y) (ρv y)) :
    r.eff = .none ∧ ∃ v, (Instr.sliceAt t vx (lo.map ρv) (hi.map ρv) (mx.map ρv)).run P w = .ok v w ∧ Rep F w.heap β r.d v := by
  -- a part of a row that nobody writes
  have part : ∀ {e : TypeId} {ei : TI} {t' : Bool} {s : Nat} {z : D} {xs : List D} {l hg m : Int} {lo' hi' mx' : Option Value} (tt : Bool), P.underlying t = some (.slice e) → ei.ok P e → (xs.isEmpty || ei.size == s) = true →
      (lo' = none ∧ l = 0 ∨ ∃ k, lo' = some (.int k l)) → (hi' = none ∧ hg = xs.length ∨ ∃ k, hi' = some (.int k hg)) → (mx' = none ∨ (∃ k, mx' = some (.int k m)) ∧ hi' ≠ none ∧ hg ≤ m ∧ m ≤ xs.length) → 0 ≤ l → l ≤ hg → hg ≤ xs.length →
      Rep F w.heap β (.sl t' s z xs) vx → (tt = true → (mx' = none ∧ t' = true ∧ hg = xs.length) ∨ (mx' ≠ none ∧ m = hg)) →
      ∃ v, (Instr.sliceAt t vx lo' hi' mx').run P w = .ok v w ∧ Rep F w.heap β (.sl tt s z ((xs.drop l.toNat).take (hg.toNat - l.toNat))) v := by
    intro e ei t' s z xs l hg m lo' hi' mx' tt hu he hc hlo hhi hmx h0 h1 h2 rx htt
    simp only [Rep] at rx
    rcases rx with ⟨rfl, a, cap, rfl, hcap⟩ | ⟨b, off, cap, c, e', fr, rfl, hF, hb, hle, htc, hrow⟩
    · simp only [List.length_nil, Int.natCast_zero] at h2 hmx hhi htt
      have hl0 : l = 0 := by omega
      have hg0 : hg = 0 := by omega
      subst hl0; subst hg0
      rcases hmx with rfl | ⟨⟨k, rfl⟩, hne, hm1, hm2⟩
      · refine ⟨_, run_slice_bounds hu he (m := cap) hlo hhi (.inl ⟨rfl, rfl⟩) (Int.le_refl _) (Int.le_refl _) (by omega) (Int.le_refl _), ?_⟩
        simp only [Rep]
        refine .inl ⟨by simp, _, _, rfl, fun h => ?_⟩
        rcases htt h with ⟨_, ht', _⟩ | ⟨hne, _⟩
        · rw [hcap ht']; rfl
        · exact absurd rfl hne
      · have hm0 : m = 0 := by omega
        subst hm0
        refine ⟨_, run_slice_bounds hu he (m := 0) hlo hhi (.inr ⟨⟨k, rfl⟩, hne⟩) (Int.le_refl _) (Int.le_refl _) (by omega) (by omega), ?_⟩
        simp only [Rep]
        exact .inl ⟨by simp, _, _, rfl, fun _ => rfl⟩
    · have fin : ∀ (m : Int), hg ≤ m → m ≤ cap → (tt = true → m = hg) → (mx' = none ∧ m = cap ∨ (∃ k, mx' = some (.int k m)) ∧ hi' ≠ none) →
          ∃ v, (Instr.sliceAt t (.slice (some ⟨b, off, none⟩) xs.length cap) lo' hi' mx').run P w = .ok v w ∧ Rep F w.heap β (.sl tt s z ((xs.drop l.toNat).take (hg.toNat - l.toNat))) v := by
        intro m hm1 hm2 hm3 hm4
        refine ⟨_, run_slice_bounds hu he (m := m) hlo hhi hm4 h0 h1 hm1 hm2, ?_⟩
        have hlen : ((xs.drop l.toNat).take (hg.toNat - l.toNat)).length = hg.toNat - l.toNat := by simp; omega
        simp only [Rep]
        by_cases hml : m = l
        · have : hg.toNat - l.toNat = 0 := by omega
          refine .inl ⟨List.eq_nil_of_length_eq_zero (by rw [hlen, this]), some ⟨b, off, none⟩, m.toNat - l.toNat, by rw [if_pos hml, this], fun _ => by omega⟩
        · by_cases hx0 : xs = []
          · subst hx0
            simp only [List.length_nil, Int.natCast_zero] at h2
            have : hg.toNat - l.toNat = 0 := by omega
            refine .inl ⟨by simp, _, _, by rw [this], fun h => ?_⟩
            have := hm3 h; omega
          · have hss : ei.size = s := by
              simp only [Bool.or_eq_true, List.isEmpty_iff, beq_iff_eq] at hc
              exact hc.resolve_left hx0
            refine .inr ⟨b, off + l.toNat * s, m.toNat - l.toNat, c, e', fr, ?_, hF, hb, by rw [hlen]; omega, fun h => by rw [hlen]; have := hm3 h; omega, hrow.take_drop _ _⟩
            rw [if_neg hml, hlen, hss]; simp [Addr.add_lit]
      rcases hmx with rfl | ⟨⟨k, rfl⟩, hne, hm1, hm2⟩
      · refine fin cap (by omega) (Int.le_refl _) (fun h => ?_) (.inl ⟨rfl, rfl⟩)
        rcases htt h with ⟨_, ht', hx⟩ | ⟨hne, _⟩
        · rw [htc ht', hx]
        · exact absurd rfl hne
      · refine fin m hm1 (by omega) (fun h => ?_) (.inr ⟨⟨k, rfl⟩, hne⟩)
        rcases htt h with ⟨hn, _⟩ | ⟨_, hmh⟩
        · cases hn
        · exact hmh
  unfold sliceD at h
  split at h
  · rename_i e t' s z xs hk
    have hu : P.underlying t = some (.slice e) := by have := ht.kind; rw [hk] at this; exact this
    split at h
    · rename_i ei hei
      have he := Ctx.get_ok hΓ hei
      split at h
      · rename_i hc
        split at h
        · rename_i l h1 h2 h3
          simp only [Option.some.injEq] at h; subst h
          obtain ⟨o1, o2⟩ := (hob : 0 ≤ l ∧ l ≤ xs.length)
          have hhi : hi.map ρv = none := map_none' h2
          have hmx : mx.map ρv = none := map_none' h3
          refine ⟨rfl, ?_⟩
          have := part (hg := xs.length) (m := 0) (lo' := lo.map ρv) (hi' := hi.map ρv) (mx' := mx.map ρv) t' hu he hc (bnd_val h1 hl) (.inl ⟨hhi, rfl⟩) (.inl hmx) o1 o2 (Int.le_refl _) rx (fun h => .inl ⟨hmx, h, rfl⟩)
          rwa [List.take_of_length_le (by simp)] at this
        · rename_i l k hg h1 h2 h3
          simp only [Option.some.injEq] at h; subst h
          obtain ⟨o1, o2, o3⟩ := (hob : 0 ≤ l ∧ l ≤ hg ∧ hg ≤ xs.length)
          have hmx : mx.map ρv = none := map_none' h3
          have hhi : ∃ k, hi.map ρv = some (.int k hg) := by
            rcases bnd_val (n := 0) (show bndD (hi.map ρ) 0 = some hg by rw [h2]; rfl) hh with ⟨e1, _⟩ | e1
            · exact absurd e1 (map_some' h2)
            · exact e1
          exact ⟨rfl, part (hg := hg) (m := 0) (lo' := lo.map ρv) (hi' := hi.map ρv) (mx' := mx.map ρv) (t' && decide (hg = xs.length)) hu he hc (bnd_val h1 hl) (.inr hhi) (.inl hmx) o1 o2 o3 rx (fun h => by simp only [Bool.and_eq_true, decide_eq_true_eq] at h; exact .inl ⟨hmx, h.1, h.2⟩)⟩
        · rename_i l k hg k' m h1 h2 h3
          simp only [Option.some.injEq] at h; subst h
          obtain ⟨o1, o2, o3, o4⟩ := (hob : 0 ≤ l ∧ l ≤ hg ∧ hg ≤ m ∧ m ≤ xs.length)
          have hhi : ∃ k, hi.map ρv = some (.int k hg) := by
            rcases bnd_val (n := 0) (show bndD (hi.map ρ) 0 = some hg by rw [h2]; rfl) hh with ⟨e1, _⟩ | e1
            · exact absurd e1 (map_some' h2)
            · exact e1
          have hmx : ∃ k, mx.map ρv = some (.int k m) := by
            rcases bnd_val (n := 0) (show bndD (mx.map ρ) 0 = some m by rw [h3]; rfl) hm with ⟨e1, _⟩ | e1
            · exact absurd e1 (map_some' h3)
            · exact e1
          have hne : hi.map ρv ≠ none := by obtain ⟨k, e⟩ := hhi; rw [e]; simp
          have hne2 : mx.map ρv ≠ none := by obtain ⟨k, e⟩ := hmx; rw [e]; simp
          exact ⟨rfl, part (hg := hg) (m := m) (lo' := lo.map ρv) (hi' := hi.map ρv) (mx' := mx.map ρv) (decide (hg = m)) hu he hc (bnd_val h1 hl) (.inr hhi) (.inr ⟨hmx, hne, o3, o4⟩) o1 o2 (by omega) rx (fun h => .inr ⟨hne2, by have := of_decide_eq_true h; omega⟩)⟩
        · simp at h
      · simp at h
    · simp at h
  · rename_i e nm s o n hk
    have hu : P.underlying t = some (.slice e) := by have := ht.kind; rw [hk] at this; exact this
    split at h
    · rename_i ei hei
      have he := Ctx.get_ok hΓ hei
      split at h
      · rename_i hc
        have hss : ei.size = s := by simpa using hc
        split at h
        · rename_i l hg h1 h2 h3
          simp only [Option.some.injEq] at h; subst h
          obtain ⟨o1, o2, o3⟩ := (hob : 0 ≤ l ∧ l ≤ hg ∧ hg ≤ n)
          have hmx : mx.map ρv = none := map_none' h3
          refine ⟨rfl, ?_⟩
          simp only [Rep] at rx
          have hhi : hi.map ρv = none ∧ hg = n ∨ ∃ k, hi.map ρv = some (.int k hg) := bnd_val h2 hh
          rcases rx with ⟨a, rfl, rfl⟩ | ⟨b, cap, hβ, rfl, hle⟩
          · have : l = 0 := by omega
            have : hg = 0 := by omega
            subst l; subst hg
            refine ⟨_, run_slice_bounds hu he (m := (0 : Nat)) (bnd_val h1 hl) hhi (.inl ⟨hmx, rfl⟩) (Int.le_refl _) (Int.le_refl _) (by omega) (Int.le_refl _), ?_⟩
            simp only [Rep]; exact .inl ⟨_, rfl, rfl⟩
          · refine ⟨_, run_slice_bounds hu he (m := (cap - o : Nat)) (bnd_val h1 hl) hhi (.inl ⟨hmx, rfl⟩) o1 o2 (by omega) (Int.le_refl _), ?_⟩
            simp only [Rep]
            by_cases hml : ((cap - o : Nat) : Int) = l
            · left
              exact ⟨some ⟨b, o * s, none⟩, by omega, by rw [if_pos hml]; congr 1 <;> omega⟩
            · right
              refine ⟨b, cap, hβ, ?_, by omega⟩
              rw [if_neg hml, hss]
              simp only [Option.map_some, Addr.add_lit, Nat.add_mul]
              congr 1; omega
        · simp at h
      · simp at h
    · simp at h
  · rename_i s hk
    have hu : P.underlying t = some .string := by have := ht.kind; rw [hk] at this; exact this
    split at h
    · rename_i l hg h1 h2 h3
      simp only [Option.some.injEq] at h; subst h
      obtain ⟨o1, o2, o3⟩ := (hob : 0 ≤ l ∧ l ≤ hg ∧ hg ≤ s.size)
      have hmx : mx.map ρv = none := map_none' h3
      refine ⟨rfl, .string (s.extract l.toNat hg.toNat), ?_, by simp only [Rep]⟩
      simp only [Rep] at rx; subst rx
      have c1 : l ≤ (hg.toNat : Int) := by omega
      have c3 : ∀ k c, (Instr.sliceBound (.int k l) hg.toNat c).run P w = .ok l.toNat w := fun k c => run_bound k l _ c o1 c1
      have c4 : ∀ k c, (Instr.sliceBound (.int k hg) s.size c).run P w = .ok hg.toNat w := fun k c => run_bound k hg _ c (by omega) o3
      have e2 : (Instr.sliceBounds false s.size s.size (lo.map ρv) (hi.map ρv) none).run P w = .ok (l.toNat, hg.toNat, s.size) w := by
        rcases bnd_val h1 hl with ⟨e1, rfl⟩ | ⟨k1, e1⟩ <;> rcases bnd_val h2 hh with ⟨e2, rfl⟩ | ⟨k2, e2⟩ <;> rw [e1, e2]
        · simp [Instr.sliceBounds]
        · simp [Instr.sliceBounds, c4]
        · have := c3 k1 .sliceB
          simp at this
          simp [Instr.sliceBounds, this]
        · simp [Instr.sliceBounds, c4, c3]
      rw [hmx]
      simp [Instr.sliceAt, Instr.slice, run_und hu, e2]
    · simp at h
  · simp at h
end
end Go.Eng
