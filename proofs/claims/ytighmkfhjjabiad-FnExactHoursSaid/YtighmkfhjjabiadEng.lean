/- The engine: Go text read on data. What a function answers is told of data (integers, strings, structs, slices as rows); a text's run is reckoned on data, and every run of the model follows it, in whatever order a statement is carried out. No condition of its own. -/
import Derived.Orders
import Derived.Still
import Derived.RowKit3
import Derived.Laws.Cells
import Derived.Laws.Tables
import Derived.Laws.CopyRow
import Derived.Laws.Build
import Derived.Below
import Derived.WideShapes
import Derived.ProofKit
import Derived.OpenShut
import Derived.Carry
namespace Go.Eng
set_option linter.unusedVariables false
set_option linter.unusedSimpArgs false

/-- abstract data -/
inductive D where
  | lit (v : Value)
  | any
  | agg (cs : List D)
  | tup (cs : List D)
  | sl (t : Bool) (s n : Nat) (f : Nat → D)
  | el (d : D)
  | ptr (k ver off : Nat)
  | own (k ver n : Nat)
    | fn (f : Fn) (fs cs : List D)
  | iface (t : TypeId) (d : D)
  | whn (g : Bool) (d : D)

instance : Inhabited D := ⟨.any⟩

/-- names ↦ versions ↦ (block, capacity) -/
abbrev Beta := Nat → Nat → Option (Option Nat × Nat)
def Beta.none : Beta := fun _ _ => Option.none

def Seg (c : Array Value) (off : Nat) (vs : Array Value) : Prop := ∀ j, j < vs.size → c[off + j]? = vs[j]?

mutual
def Rep (F : Nat → Prop) (h : Array Obj) (β : Beta) : D → Value → Prop
  | .lit u, v => v = u
  | .any, _ => True
  | .agg cs, v => ∃ vs : List Value, v = .agg vs.toArray ∧ Reps F h β cs vs
  | .tup cs, v => ∃ vs : List Value, v = .tuple vs.toArray ∧ Reps F h β cs vs
  | .sl t s n f, v => (n = 0 ∧ ∃ a cap, v = .slice a 0 cap ∧ (t = true → cap = 0)) ∨ ∃ b off cap c e fr, v = .slice (some ⟨b, off, Option.none⟩) n cap ∧ F b ∧ h[b]? = some (.cells c e fr) ∧ n ≤ cap ∧
      (t = true → cap = n) ∧ ∀ i, i < n → ∃ u, Rep F h Beta.none (f i) u ∧ u.cells.size = s ∧ Seg c (off + i * s) u.cells
  | .el d, v => ∃ b off c e fr u, v = .pointer (some ⟨b, off, Option.none⟩) ∧ F b ∧ h[b]? = some (.cells c e fr) ∧ Rep F h Beta.none d u ∧ Seg c off u.cells
  | .ptr id ver off, v => ∃ b cap, β id ver = some (some b, cap) ∧ v = .pointer (some ⟨b, off, Option.none⟩)
  | .own id ver n, v => ∃ x cap, β id ver = some (x, cap) ∧ v = .slice (x.map fun b => ⟨b, 0, Option.none⟩) n cap
  | .fn f fs cs, v => ∃ vf vc : List Value, v = .func f vf.toArray vc.toArray ∧ Reps F h β fs vf ∧ Reps F h β cs vc
  | .iface t d, v => ∃ u, v = .iface t u ∧ Rep F h β d u
  | .whn g d, v => (g = true → Rep F h β d v) ∧ (g = false → v = undef)
def Reps (F : Nat → Prop) (h : Array Obj) (β : Beta) : List D → List Value → Prop
  | [], vs => vs = []
  | d :: ds, vs => ∃ v vs', vs = v :: vs' ∧ Rep F h β d v ∧ Reps F h β ds vs'
end

mutual
theorem Rep.mono {F F' : Nat → Prop} {h h' : Array Obj} (hF : ∀ b, F b → F' b ∧ h'[b]? = h[b]?) : ∀ (d : D) {β β' : Beta} {v : Value},
    (∀ id ver x, β id ver = some x → β' id ver = some x) → Rep F h β d v → Rep F' h' β' d v
  | .lit u, _, _, _, _, r => by simpa only [Rep] using r
  | .any, _, _, _, _, r => by simp only [Rep]
  | .agg cs, _, _, _, hb, r => by
    simp only [Rep] at r ⊢
    obtain ⟨vs, e, r⟩ := r
    exact ⟨vs, e, Reps.mono hF cs hb r⟩
  | .tup cs, _, _, _, hb, r => by
    simp only [Rep] at r ⊢
    obtain ⟨vs, e, r⟩ := r
    exact ⟨vs, e, Reps.mono hF cs hb r⟩
  | .sl t s n f, _, _, _, hb, r => by
    simp only [Rep] at r ⊢
    rcases r with r | ⟨b, off, cap, c, e, fr, h1, h2, h3, h4, h5, h6⟩
    · exact .inl r
    · refine .inr ⟨b, off, cap, c, e, fr, h1, (hF b h2).1, (hF b h2).2.trans h3, h4, h5, fun i hi => ?_⟩
      obtain ⟨u, r, s1, s2⟩ := h6 i hi
      exact ⟨u, Rep.mono hF (f i) (fun _ _ _ h => h) r, s1, s2⟩
  | .el d, _, _, _, hb, r => by
    simp only [Rep] at r ⊢
    obtain ⟨b, off, c, e, fr, u, h1, h2, h3, h4, h5⟩ := r
    exact ⟨b, off, c, e, fr, u, h1, (hF b h2).1, (hF b h2).2.trans h3, Rep.mono hF d (fun _ _ _ h => h) h4, h5⟩
  | .ptr id ver off, _, _, _, hb, r => by
    simp only [Rep] at r ⊢
    obtain ⟨b, cap, h1, h2⟩ := r
    exact ⟨b, cap, hb _ _ _ h1, h2⟩
  | .own id ver n, _, _, _, hb, r => by
    simp only [Rep] at r ⊢
    obtain ⟨b, cap, h1, h2⟩ := r
    exact ⟨b, cap, hb _ _ _ h1, h2⟩
  | .fn f fs cs, _, _, _, hb, r => by
    simp only [Rep] at r ⊢
    obtain ⟨vf, vc, e, r1, r2⟩ := r
    exact ⟨vf, vc, e, Reps.mono hF fs hb r1, Reps.mono hF cs hb r2⟩
  | .iface t d, _, _, _, hb, r => by
    simp only [Rep] at r ⊢
    obtain ⟨u, e, r⟩ := r
    exact ⟨u, e, Rep.mono hF d hb r⟩
  | .whn g d, _, _, _, hb, r => by
    simp only [Rep] at r ⊢
    exact ⟨fun hg => Rep.mono hF d hb (r.1 hg), r.2⟩
theorem Reps.mono {F F' : Nat → Prop} {h h' : Array Obj} (hF : ∀ b, F b → F' b ∧ h'[b]? = h[b]?) : ∀ (ds : List D) {β β' : Beta} {vs : List Value},
    (∀ id ver x, β id ver = some x → β' id ver = some x) → Reps F h β ds vs → Reps F' h' β' ds vs
  | [], _, _, _, _, r => by simpa only [Reps] using r
  | d :: ds, _, _, _, hb, r => by
    simp only [Reps] at r ⊢
    obtain ⟨v, vs', e, r1, r2⟩ := r
    exact ⟨v, vs', e, Rep.mono hF d hb r1, Reps.mono hF ds hb r2⟩
end

theorem Reps.length {F h β} : ∀ {ds : List D} {vs : List Value}, Reps F h β ds vs → vs.length = ds.length
  | [], _, r => by simp only [Reps] at r; simp [r]
  | d :: ds, _, r => by
    simp only [Reps] at r
    obtain ⟨v, vs', rfl, _, r2⟩ := r
    simp [Reps.length r2]

theorem Reps.get {F h β} : ∀ {ds : List D} {vs : List Value}, Reps F h β ds vs → ∀ i (hi : i < ds.length), ∃ v, vs[i]? = some v ∧ Rep F h β ds[i] v
  | [], _, r, i, hi => by simp at hi
  | d :: ds, _, r, i, hi => by
    simp only [Reps] at r
    obtain ⟨v, vs', rfl, r1, r2⟩ := r
    cases i with
    | zero => exact ⟨v, by simp, by simpa using r1⟩
    | succ i =>
      obtain ⟨u, hu, ru⟩ := Reps.get r2 i (by simpa using hi)
      exact ⟨u, by simpa using hu, by simpa using ru⟩

theorem Reps.of_get {F h β} : ∀ {ds : List D} {vs : List Value}, vs.length = ds.length → (∀ i (hi : i < ds.length), ∃ v, vs[i]? = some v ∧ Rep F h β ds[i] v) → Reps F h β ds vs
  | [], vs, hl, _ => by simp only [Reps]; simpa using hl
  | d :: ds, [], hl, _ => by simp at hl
  | d :: ds, v :: vs, hl, hg => by
    simp only [Reps]
    refine ⟨v, vs, rfl, ?_, ?_⟩
    · obtain ⟨u, hu, ru⟩ := hg 0 (by simp)
      simp at hu; subst hu; simpa using ru
    · refine Reps.of_get (by simpa using hl) fun i hi => ?_
      obtain ⟨u, hu, ru⟩ := hg (i + 1) (by simpa using hi)
      exact ⟨u, by simpa using hu, by simpa using ru⟩

theorem Reps.take_drop {F h β} {ds : List D} {vs : List Value} (r : Reps F h β ds vs) (o k : Nat) : Reps F h β ((ds.drop o).take k) ((vs.drop o).take k) := by
  have hl := r.length
  refine Reps.of_get (by simp [hl]) fun i hi => ?_
  have hi' : o + i < ds.length := by simp at hi; omega
  obtain ⟨v, hv, rv⟩ := r.get (o + i) hi'
  refine ⟨v, ?_, ?_⟩
  · have : i < k := by simp at hi; omega
    simp [List.getElem?_take, this, List.getElem?_drop, hv]
  · simpa using rv

end Go.Eng
namespace Go.Eng
set_option linter.unusedVariables false
set_option linter.unusedSimpArgs false

/-! ### what is known of a type -/
inductive TK where
  | bool | int (k : IntKind) | str | slice (e : TypeId) | st (fs : List (Nat × TypeId)) | other
structure TI where
  size : Nat
  bytes : Nat
  zero : Value
  kind : TK
def TK.isAgg : TK → Bool
  | .st _ => true
  | _ => false
def TK.ok (P : Program) (t : TypeId) : TK → Prop
  | .bool => P.underlying t = some .bool
  | .int k => P.underlying t = some (.int k)
  | .str => P.underlying t = some .string
  | .slice e => P.underlying t = some (.slice e)
  | .st fs => ∃ a, P.underlying t = some (.struct a) ∧ a.toList.map (fun f => (f.offset, f.type)) = fs
  | .other => ∃ d, P.underlying t = some d ∧ (match d with | .struct _ | .array _ _ | .bool | .int _ | .string | .slice _ => false | _ => true) = true
structure TI.ok (P : Program) (t : TypeId) (x : TI) : Prop where
  size : (P.info? t).map (·.size) = some x.size
  bytes : (P.info? t).map (·.bytes) = some x.bytes
  zero : (P.info? t).bind (·.zero) = some x.zero
  kind : x.kind.ok P t
abbrev Ctx := List (TypeId × TI)
def Ctx.get : Ctx → TypeId → Option TI
  | [], _ => none
  | (k, x) :: r, t => if k = t then some x else Ctx.get r t
def Ctx.ok (P : Program) (Γ : Ctx) : Prop := ∀ p ∈ Γ, p.2.ok P p.1
theorem Ctx.get_ok {P : Program} : ∀ {Γ : Ctx} (h : Γ.ok P) {t x}, Γ.get t = some x → x.ok P t
  | [], _, _, _, h => by simp [Ctx.get] at h
  | (k, y) :: r, hΓ, t, x, h => by
    simp only [Ctx.get] at h
    split at h
    · rename_i e; cases h; subst e; exact hΓ (k, y) (by simp)
    · exact Ctx.get_ok (Γ := r) (fun p hp => hΓ p (by simp [hp])) h

section
variable {P : Program} {w : World} {t : TypeId} {x : TI}
theorem TI.ok.run_size (h : x.ok P t) : (sizeOf t).run P w = .ok x.size w := by
  have := h.size
  cases hi : P.info? t with
  | none => simp [hi] at this
  | some i => simp [hi] at this; simp [Go.sizeOf, typeInfo, hi, this]
theorem TI.ok.run_zero (h : x.ok P t) : (zeroValue t).run P w = .ok x.zero w := by
  have := h.zero
  cases hi : P.info? t with
  | none => simp [hi] at this
  | some i => simp [hi] at this; simp [zeroValue, typeInfo, hi, this]
theorem TI.ok.run_info (h : x.ok P t) : ∃ i, (typeInfo t).run P w = .ok i w ∧ i.bytes = x.bytes ∧ i.size = x.size := by
  have h1 := h.size
  have h2 := h.bytes
  cases hi : P.info? t with
  | none => simp [hi] at h1
  | some i => simp [hi] at h1 h2; exact ⟨i, by simp [typeInfo, hi], h2, h1⟩
theorem run_und {d : TypeDesc} (h : P.underlying t = some d) : (underlying t).run P w = .ok d w := by
  simp [underlying, h]
theorem TI.ok.run_isAgg (h : x.ok P t) : (isAgg t).run P w = .ok x.kind.isAgg w := by
  have hk := h.kind
  cases hx : x.kind <;> simp only [hx, TK.ok] at hk
  case bool => simp [isAgg, run_und hk, TK.isAgg]
  case int => simp [isAgg, run_und hk, TK.isAgg]
  case str => simp [isAgg, run_und hk, TK.isAgg]
  case slice => simp [isAgg, run_und hk, TK.isAgg]
  case st => obtain ⟨a, ha, _⟩ := hk; simp [isAgg, run_und ha, TK.isAgg]
  case other =>
    obtain ⟨d, hd, hk⟩ := hk
    simp only [isAgg, Sem.run_bind, run_und hd, Result.andThen_ok]
    cases d <;> simp_all [TK.isAgg]
end

/-! ### own objects, states -/
inductive OO where
  | box (cs : List D)
  | arr (s n : Nat) (f : Nat → D)
  | dead
abbrev Tab := Nat → Nat → Option OO
def Tab.upd (T : Tab) (k v : Nat) (o : OO) : Tab := fun k' v' => if k' = k then (if v' = v then some o else T k' v') else T k' v'
def Tab.nil : Tab := fun _ _ => none
structure S where
  ts : List D
  tab : Tab
  gen : Nat
def S.put (σ : S) (dst : Option Tmp) (d : D) : S :=
  match dst with
  | some t => { σ with ts := σ.ts.set t d }
  | none => σ

def D.isAgg : D → Bool
  | .agg _ => true
  | _ => false
def oneD : D → Bool
  | .lit v => v.oneCell'
  | .sl .. | .el _ | .ptr .. | .own .. | .fn .. | .iface .. => true
  | _ => false
/-- a whole value: one cell, or a struct of such -/
def okD : D → Bool
  | .agg cs => cs.all oneD
  | d => oneD d
def cellsD : D → List D
  | .agg cs => cs
  | d => [d]
theorem oneD_oneCell {F h β} : ∀ {d : D} {v : Value}, oneD d = true → Rep F h β d v → v.oneCell' = true
  | .lit u, v, h, r => by simp only [Rep] at r; subst r; exact h
  | .sl .., v, h, r => by
    simp only [Rep] at r
    rcases r with ⟨_, _, _, rfl, _⟩ | ⟨_, _, _, _, _, _, rfl, _⟩ <;> rfl
  | .el _, v, h, r => by simp only [Rep] at r; obtain ⟨_, _, _, _, _, _, rfl, _⟩ := r; rfl
  | .ptr .., v, h, r => by simp only [Rep] at r; obtain ⟨_, _, _, rfl⟩ := r; rfl
  | .own .., v, h, r => by simp only [Rep] at r; obtain ⟨_, _, _, rfl⟩ := r; rfl
  | .fn .., v, h, r => by simp only [Rep] at r; obtain ⟨_, _, rfl, _⟩ := r; rfl
  | .iface .., v, h, r => by simp only [Rep] at r; obtain ⟨_, rfl, _⟩ := r; rfl
  | .any, _, h, _ | .agg _, _, h, _ | .tup _, _, h, _ | .whn .., _, h, _ => by simp [oneD] at h
theorem cells_of_one {v : Value} (h : v.oneCell' = true) : v.cells = #[v] := by
  cases v <;> first | rfl | simp [Value.oneCell'] at h
theorem Rep.cells {F h β} {d : D} {v : Value} (hd : okD d = true) (r : Rep F h β d v) : Reps F h β (cellsD d) v.cells.toList := by
  by_cases ha : ∃ cs, d = .agg cs
  · obtain ⟨cs, rfl⟩ := ha
    simp only [Rep] at r
    obtain ⟨vs, rfl, r⟩ := r
    simpa [Value.cells, cellsD] using r
  · have h1 : oneD d = true := by cases d <;> first | exact hd | exact absurd ⟨_, rfl⟩ ha
    have : cellsD d = [d] := by cases d <;> first | rfl | exact absurd ⟨_, rfl⟩ ha
    rw [this, cells_of_one (oneD_oneCell h1 r)]
    simp only [Reps]
    exact ⟨v, [], rfl, r, rfl⟩
theorem Reps.all_one {F h β} : ∀ {ds : List D} {vs : List Value}, ds.all oneD = true → Reps F h β ds vs → ∀ v ∈ vs, v.oneCell' = true
  | [], vs, _, r => by simp only [Reps] at r; simp [r]
  | d :: ds, vs, h, r => by
    simp only [Reps] at r
    obtain ⟨v, vs', rfl, r1, r2⟩ := r
    simp only [List.all_cons, Bool.and_eq_true] at h
    intro u hu
    rcases List.mem_cons.1 hu with rfl | hu
    · exact oneD_oneCell h.1 r1
    · exact Reps.all_one h.2 r2 u hu

def OwnOK (W0 : World) (F : Nat → Prop) (h : Array Obj) (β : Beta) (k v : Nat) : OO → Prop
  | .dead => True
  | .box cs => ∃ b cap c e, β k v = some (some b, cap) ∧ ¬ F b ∧ W0.heap.size ≤ b ∧ h[b]? = some (.cells c e (0, 0)) ∧ Reps F h β cs c.toList
  | .arr s n f => ∃ x cap, β k v = some (x, cap) ∧ (x = none → n = 0 ∧ cap = 0) ∧ ∀ b, x = some b → ¬ F b ∧ W0.heap.size ≤ b ∧ ∃ c e, h[b]? = some (.cells c e (0, 0)) ∧ cap * s ≤ c.size ∧ n ≤ cap ∧
      ∀ i, i < n → ∃ u, Rep F h Beta.none (f i) u ∧ u.cells.size = s ∧ Seg c (i * s) u.cells

structure Cpl (W0 : World) (F0 : Nat → Prop) (F : Nat → Prop) (β : Beta) (σ : S) (a : Act) (w : World) : Prop where
  reps : Reps F w.heap β σ.ts a.tmps.toList
  defers : a.defers = []
  F0F : ∀ b, F0 b → F b
  Fsrc : ∀ b, F b → F0 b ∨ W0.heap.size ≤ b
  Flt : ∀ b, F b → b < w.heap.size
  keep : ∀ b, b < W0.heap.size → w.heap[b]? = W0.heap[b]?
  size : W0.heap.size ≤ w.heap.size
  os : w.os = W0.os
  tp : w.tape = W0.tape
  out : w.output = W0.output
  frz : ∀ b c e fr, W0.heap.size ≤ b → w.heap[b]? = some (.cells c e fr) → fr = (0, 0)
  gen : ∀ k v x, β k v = some x → v < σ.gen ∨ (v = σ.gen ∧ (σ.tab k v).isSome)
  own : ∀ k v o, σ.tab k v = some o → OwnOK W0 F w.heap β k v o
  inj : ∀ k v k' v' o o' b c c', σ.tab k v = some o → σ.tab k' v' = some o' → o ≠ .dead → o' ≠ .dead → β k v = some (some b, c) → β k' v' = some (some b, c') → k = k' ∧ v = v'

/-! ### operands -/
def constD1 : Value → D
  | .slice none 0 0 => .sl true 0 0 fun _ => .any
  | v => .lit v
def constD : Value → D
  | .agg cs => .agg (cs.toList.map constD1)
  | v => constD1 v
def opd (ts : List D) : Operand → D
  | .tmp t => ts.getD t .any
  | .const v => constD v
  | .global _ => .any
  | .func f => .fn (.func f) [] []
theorem rep_constD1 {F h β} (v : Value) : Rep F h β (constD1 v) v := by
  unfold constD1
  split
  · simp [Rep]
  · simp only [Rep]
theorem reps_constD1 {F h β} : ∀ (vs : List Value), Reps F h β (vs.map constD1) vs
  | [] => by simp only [List.map_nil, Reps]
  | v :: vs => by simp only [List.map_cons, Reps]; exact ⟨v, vs, rfl, rep_constD1 v, reps_constD1 vs⟩
theorem rep_constD {F h β} (v : Value) : Rep F h β (constD v) v := by
  unfold constD
  split
  · rename_i cs; simp only [Rep]; exact ⟨cs.toList, rfl, reps_constD1 _⟩
  · exact rep_constD1 v
theorem rep_opd {F h β} {ts : List D} {a : Act} (r : Reps F h β ts a.tmps.toList) (x : Operand) : Rep F h β (opd ts x) (a.eval x) := by
  cases x with
  | tmp t =>
    simp only [opd, Act.eval]
    by_cases ht : t < ts.length
    · obtain ⟨v, hv, rv⟩ := r.get t ht
      have : a.tmps.getD t undef = v := by simp at hv; simp [hv]
      rw [this]
      simpa [List.getD, List.getElem?_eq_getElem ht] using rv
    · simp [List.getD, List.getElem?_eq_none (Nat.le_of_not_lt ht), Rep]
  | const v => exact rep_constD v
  | global g => simp only [opd, Rep]
  | func f => simp only [opd, Act.eval, Rep, Reps]; exact ⟨[], [], rfl, rfl, rfl⟩
theorem reps_set {F h β} {ts : List D} {vs : List Value} (r : Reps F h β ts vs) (t : Nat) {d : D} {v : Value} (rd : Rep F h β d v) : Reps F h β (ts.set t d) (vs.set t v) := by
  have hl := r.length
  refine Reps.of_get (by simp [hl]) fun i hi => ?_
  simp at hi
  obtain ⟨u, hu, ru⟩ := r.get i hi
  by_cases hti : t = i
  · subst hti
    exact ⟨v, by simp [hl, hi], by simpa using rd⟩
  · exact ⟨u, by simp [List.getElem?_set, hti, hu], by simpa [List.getElem_set, hti] using ru⟩
end Go.Eng
namespace Go.Eng
set_option linter.unusedVariables false
set_option linter.unusedSimpArgs false

inductive Eff where
  | none
  | new (o : OO)
  | set (k v : Nat) (o : OO)
structure AR where
  ob : Prop
  d : D
  eff : Eff

def inR : IntKind → Int → Prop
  | .i64, n => -9223372036854775808 ≤ n ∧ n ≤ 9223372036854775807
  | .u8, n => 0 ≤ n ∧ n ≤ 255
  | k, n => k.min ≤ n ∧ n ≤ k.max
theorem wrap_inR {k : IntKind} {n : Int} (h : inR k n) : k.wrap n = n := by
  cases k <;> simp [inR, IntKind.wrap, IntKind.signed, IntKind.bits, IntKind.min, IntKind.max] at h ⊢ <;> omega

def valR (v : Value) : Option AR := some ⟨True, .lit v, .none⟩
def intRes (m : Bool) (k : IntKind) (n : Int) : Option AR :=
  match k, m with
  | .i64, false => some ⟨inR .i64 n, .lit (.int .i64 n), .none⟩
  | k, _ => valR (.int k (k.wrap n))
def cmpI : BinOp → Int → Int → Option Bool
  | .eql, a, b => some (a == b)
  | .neq, a, b => some (a != b)
  | .lss, a, b => some (decide (a < b))
  | .leq, a, b => some (decide (a ≤ b))
  | .gtr, a, b => some (decide (a > b))
  | .geq, a, b => some (decide (a ≥ b))
  | _, _, _ => none
def AR.and (p : Prop) : Option AR → Option AR
  | some r => some { r with ob := p ∧ r.ob }
  | none => none
def binI (m : Bool) (op : BinOp) (k : IntKind) (a b : Int) : Option AR :=
  match op with
  | .add => intRes m k (a + b)
  | .sub => intRes m k (a - b)
  | .mul => intRes m k (a * b)
  | .quo => AR.and (b ≠ 0) (intRes m k (a.tdiv b))
  | .rem => some ⟨b ≠ 0, .lit (.int k (a.tmod b)), .none⟩
  | .and => valR (.int k (k.wrap (BitVec.ofInt k.bits a &&& BitVec.ofInt k.bits b).toNat))
  | .or => valR (.int k (k.wrap (BitVec.ofInt k.bits a ||| BitVec.ofInt k.bits b).toNat))
  | .xor => valR (.int k (k.wrap (BitVec.ofInt k.bits a ^^^ BitVec.ofInt k.bits b).toNat))
  | .andNot => valR (.int k (k.wrap (BitVec.ofInt k.bits a &&& ~~~(BitVec.ofInt k.bits b)).toNat))
  | .shl => some ⟨0 ≤ b, .lit (.int k (k.wrap (a * 2 ^ (min b.toNat k.bits)))), .none⟩
  | .shr => some ⟨0 ≤ b, .lit (.int k (a.fdiv (2 ^ (min b.toNat k.bits)))), .none⟩
  | op => match cmpI op a b with
    | some c => valR (.bool c)
    | none => none
def strRes (op : BinOp) (a b : ByteArray) : Option AR :=
  match op with
  | .eql => valR (.bool (a.toList == b.toList))
  | .neq => valR (.bool !(a.toList == b.toList))
  | .add => some ⟨((a.size + b.size : Nat) : Int) ≤ 9223372036854775807, .lit (.string (a ++ b)), .none⟩
  | _ => none
def TK.isBool : TK → Bool
  | .bool => true
  | _ => false
def isShift : BinOp → Bool
  | .shl | .shr => true
  | _ => false
def binD (Γ : Ctx) (m : Bool) (op : BinOp) (t : TypeId) (x y : D) : Option AR :=
  match x, y with
  | .lit (.int k a), .lit (.int k' b) => if isShift op then binI m op k a b else if k = k' then binI m op k a b else none
  | .lit (.string a), .lit (.string b) => strRes op a b
  | .lit (.bool a), .lit (.bool b) => match Γ.get t with
    | some ti => if ti.kind.isBool then (match op with
      | .eql => valR (.bool (a == b))
      | .neq => valR (.bool !(a == b))
      | _ => none) else none
    | none => none
  | _, _ => none
def unD (m : Bool) (op : UnOp) (x : D) : Option AR :=
  match op, x with
  | .not, .lit (.bool b) => valR (.bool !b)
  | .neg, .lit (.int k n) => intRes m k (0 - n)
  | _, _ => none

section
variable {P : Program} {w : World} {F : Nat → Prop} {hp : Array Obj} {β : Beta} {Γ : Ctx}
theorem rep_of_lit {d : D} {v : Value} (e : d = .lit v) : Rep F hp β d v := by rw [e]; simp only [Rep]
theorem valR_sound {v : Value} {r : AR} (h : valR v = some r) : r.eff = .none ∧ r.d = .lit v := by
  simp only [valR, Option.some.injEq] at h; subst h; exact ⟨rfl, rfl⟩
theorem intRes_sound {m k n} {r : AR} (h : intRes m k n = some r) (ho : r.ob) : r.eff = .none ∧ r.d = .lit (.int k (k.wrap n)) := by
  unfold intRes at h
  split at h
  · simp only [Option.some.injEq] at h; subst h
    refine ⟨rfl, ?_⟩
    have ho' : inR .i64 n := ho
    rw [wrap_inR ho']
  · exact valR_sound h
theorem binI_sound {m op k a b t} {r : AR} (hs : isShift op = false) (h : binI m op k a b = some r) (ho : r.ob) :
    r.eff = .none ∧ ∃ v, (binOp op t (.int k a) (.int k b)).run P w = .ok v w ∧ r.d = .lit v := by
  cases op <;> simp only [binI, cmpI] at h <;> simp only [isShift, reduceCtorEq] at hs
  case add | sub | mul =>
    obtain ⟨e1, e2⟩ := intRes_sound h ho
    exact ⟨e1, _, by simp [binOp, Op.intArith], e2⟩
  case quo =>
    cases hq : intRes m k (a.tdiv b) with
    | none => simp [hq, AR.and] at h
    | some q =>
      simp only [hq, AR.and, Option.some.injEq] at h; subst h
      obtain ⟨e1, e2⟩ := intRes_sound hq ho.2
      refine ⟨e1, _, ?_, e2⟩
      have := ho.1
      simp [binOp, Op.intDiv, this]
  case rem =>
    simp only [Option.some.injEq] at h; subst h
    refine ⟨rfl, _, ?_, rfl⟩
    have : b ≠ 0 := ho
    simp [binOp, Op.intDiv, this]
  case and | or | xor | andNot =>
    obtain ⟨e1, e2⟩ := valR_sound h
    exact ⟨e1, _, by simp [binOp, Op.intBits], e2⟩
  all_goals
    obtain ⟨e1, e2⟩ := valR_sound h
    exact ⟨e1, _, by simp [binOp, Op.intCmp], e2⟩
theorem binS_sound {m op k k' a b t} {r : AR} (hs : isShift op = true) (h : binI m op k a b = some r) (ho : r.ob) :
    r.eff = .none ∧ ∃ v, (binOp op t (.int k a) (.int k' b)).run P w = .ok v w ∧ r.d = .lit v := by
  cases op <;> simp only [binI, cmpI] at h <;> simp only [isShift, reduceCtorEq, Bool.false_eq_true] at hs
  all_goals
    simp only [Option.some.injEq] at h; subst h
    refine ⟨rfl, _, ?_, rfl⟩
    have : ¬ b < 0 := Int.not_lt.2 ho
    simp [binOp, Op.shift, this]
theorem eqGuard_int {op t ox oy k a k' b} : (eqGuard op t ox oy (.int k a) (.int k' b)).run P w = .ok () w := by
  unfold eqGuard
  cases op <;> simp
theorem eqGuard_str {op t ox oy a b} : (eqGuard op t ox oy (.string a) (.string b)).run P w = .ok () w := by
  unfold eqGuard
  cases op <;> simp
theorem eqGuard_bool {op t ox oy a b} : (eqGuard op t ox oy (.bool a) (.bool b)).run P w = .ok () w := by
  unfold eqGuard
  cases op <;> simp
theorem strRes_sound {op a b t} {r : AR} (h : strRes op a b = some r) (ho : r.ob) :
    r.eff = .none ∧ ∃ v, (binOp op t (.string a) (.string b)).run P w = .ok v w ∧ r.d = .lit v := by
  cases op <;> simp only [strRes, reduceCtorEq] at h
  case add =>
    simp only [Option.some.injEq] at h; subst h
    refine ⟨rfl, _, ?_, rfl⟩
    have h2 : ((a.size : Int) + (b.size : Int)) ≤ 9223372036854775807 := by have := ho; simp only [Int.natCast_add] at this; exact this
    have h3 : ¬ (IntKind.i64.max < (a.size : Int) + (b.size : Int)) := by simp [IntKind.max, IntKind.signed, IntKind.bits]; omega
    simp [binOp, Op.stringOp, h3]
    try exact h2
  all_goals
    obtain ⟨e1, e2⟩ := valR_sound h
    exact ⟨e1, _, by simp [binOp, Op.stringOp], e2⟩
theorem equal_bool {t a b} (hk : P.underlying t = some .bool) : (Op.equal t (.bool a) (.bool b)).run P w = .ok (a == b) w := by
  have key : ∀ d, (Op.equalIn (d + 1) t (.bool a) (.bool b)).run P w = .ok (a == b) w := fun d => by
    simp only [Op.equalIn, Sem.run_bind, run_und hk, Result.andThen_ok, Sem.run_pure]
  exact key 9999
theorem binD_sound (hΓ : Γ.ok P) {m op t x y ox oy vx vy} {r : AR} (h : binD Γ m op t x y = some r) (ho : r.ob) (rx : Rep F hp β x vx) (ry : Rep F hp β y vy) :
    r.eff = .none ∧ ∃ v, (do eqGuard op t ox oy vx vy; binOp op t vx vy : Sem Value).run P w = .ok v w ∧ Rep F hp β r.d v := by
  unfold binD at h
  split at h
  · simp only [Rep] at rx ry
    subst rx; subst ry
    simp only [Sem.run_bind, eqGuard_int, Result.andThen_ok]
    split at h
    · rename_i hs
      obtain ⟨e, v, e1, e2⟩ := binS_sound (P := P) (w := w) (t := t) hs h ho
      exact ⟨e, v, e1, by rw [e2]; simp only [Rep]⟩
    · rename_i hs
      split at h
      · rename_i hk; subst hk
        obtain ⟨e, v, e1, e2⟩ := binI_sound (P := P) (w := w) (t := t) (by simpa using hs) h ho
        exact ⟨e, v, e1, by rw [e2]; simp only [Rep]⟩
      · simp at h
  · simp only [Rep] at rx ry
    subst rx; subst ry
    simp only [Sem.run_bind, eqGuard_str, Result.andThen_ok]
    obtain ⟨e, v, e1, e2⟩ := strRes_sound (P := P) (w := w) (t := t) h ho
    exact ⟨e, v, e1, by rw [e2]; simp only [Rep]⟩
  · rename_i a b
    simp only [Rep] at rx ry
    subst rx; subst ry
    simp only [Sem.run_bind, eqGuard_bool, Result.andThen_ok]
    split at h
    · rename_i ti hti
      split at h
      · rename_i hb
        have hk : P.underlying t = some .bool := by
          have := (Ctx.get_ok hΓ hti).kind
          cases hx : ti.kind <;> simp_all [TK.isBool, TK.ok]
        cases op <;> simp only [reduceCtorEq] at h
        all_goals
          obtain ⟨e1, e2⟩ := valR_sound h
          refine ⟨e1, _, ?_, rep_of_lit e2⟩
          simp only [binOp, Sem.run_bind, equal_bool hk, Result.andThen_ok, Sem.run_pure]
      · simp at h
    · simp at h
  · simp at h
theorem unD_sound {m op x vx} {r : AR} (h : unD m op x = some r) (ho : r.ob) (rx : Rep F hp β x vx) :
    r.eff = .none ∧ ∃ v, (Op.unary op vx).run P w = .ok v w ∧ Rep F hp β r.d v := by
  unfold unD at h
  split at h
  · simp only [Rep] at rx; subst rx
    obtain ⟨e1, e2⟩ := valR_sound h
    refine ⟨e1, _, ?_, rep_of_lit e2⟩
    simp only [Op.unary, Sem.run_pure]
  · simp only [Rep] at rx; subst rx
    obtain ⟨e1, e2⟩ := intRes_sound h ho
    refine ⟨e1, _, ?_, rep_of_lit e2⟩
    simp only [Op.unary, Op.intArith, Sem.run_pure]
  · simp at h
end
end Go.Eng
namespace Go.Eng
set_option linter.unusedVariables false
set_option linter.unusedSimpArgs false

/-- a part of a row of cells -/
def subD (fi : TI) (cs : List D) (o : Nat) : Option D :=
  if fi.kind.isAgg then (if o + fi.size ≤ cs.length then some (.agg ((cs.drop o).take fi.size)) else none) else cs[o]?
def placesD (Γ : Ctx) : List (Nat × TypeId) → Option (List (Nat × Nat))
  | [] => some []
  | (o, t) :: r => match Γ.get t, placesD Γ r with
    | some ti, some l => some ((o, ti.size) :: l)
    | _, _ => none
def fillD (places : List (Nat × Nat)) (cells : List D) : List (Nat × D) → Option (List D)
  | [] => some cells
  | (i, d) :: r => match places[i]? with
    | some (o, s) => if (cellsD d).length = s ∧ o + s ≤ cells.length ∧ okD d = true then fillD places (cells.take o ++ cellsD d ++ cells.drop (o + s)) r else none
    | none => none

section
variable {P : Program} {w : World} {F : Nat → Prop} {β : Beta} {Γ : Ctx} {t : TypeId} {ti : TI}

theorem sub_rep {hp : Array Obj} {cs : List D} {vs : List Value} {o : Nat} {d : D} (h : subD ti cs o = some d) (r : Reps F hp β cs vs) :
    (ti.kind.isAgg = true ∧ o + ti.size ≤ vs.length ∧ Rep F hp β d (.agg ((vs.drop o).take ti.size).toArray)) ∨
    (ti.kind.isAgg = false ∧ ∃ v, vs[o]? = some v ∧ Rep F hp β d v) := by
  have hl := r.length
  unfold subD at h
  split at h
  · rename_i ha
    split at h
    · rename_i hlt
      simp only [Option.some.injEq] at h; subst h
      refine .inl ⟨ha, by omega, ?_⟩
      simp only [Rep]
      exact ⟨_, rfl, r.take_drop o ti.size⟩
    · simp at h
  · rename_i ha
    have hlt : o < cs.length := (List.getElem?_eq_some_iff.1 h).1
    have he : cs[o] = d := (List.getElem?_eq_some_iff.1 h).2
    obtain ⟨v, hv, rv⟩ := r.get o hlt
    exact .inr ⟨by simpa using ha, v, hv, by rw [he] at rv; exact rv⟩

theorem run_load_row (ht : ti.ok P t) {b off : Nat} {c : Array Value} {e fr} (hb : w.heap[b]? = some (.cells c e fr)) {vs : List Value}
    (hs : ∀ j v, vs[j]? = some v → c[off + j]? = some v) :
    (ti.kind.isAgg = true → vs.length = ti.size → (Instr.loadAt t (.pointer (some ⟨b, off, none⟩))).run P w = .ok (.agg vs.toArray) w) ∧
    (ti.kind.isAgg = false → ∀ v, vs = [v] → (Instr.loadAt t (.pointer (some ⟨b, off, none⟩))).run P w = .ok v w) := by
  constructor
  · intro ha hl
    have hc : (loadCells ⟨b, off, none⟩ vs.length).run P w = .ok vs.toArray w := run_loadCells_list w _ vs fun j v hj => by
      rw [Addr.add_lit]; simp [World.cell?, hb, hs j v hj]
    rw [hl] at hc
    simp [Instr.loadAt, Instr.sureAddr, loadVar, ht.run_isAgg, ha, ht.run_size, hc]
  · intro ha v hv
    subst hv
    have := hs 0 v (by simp)
    simp only [Nat.add_zero] at this
    simp [Instr.loadAt, Instr.sureAddr, loadVar, ht.run_isAgg, ha, World.cell?, hb, this]

theorem und_st {fs} (ht : ti.ok P t) (hk : ti.kind = .st fs) : ∃ a, P.underlying t = some (.struct a) ∧ a.toList.map (fun f : Field => (f.offset, f.type)) = fs := by
  have := ht.kind; rw [hk] at this; exact this

theorem st_field {a : Array Field} {fs : List (Nat × TypeId)} (h : a.toList.map (fun f : Field => (f.offset, f.type)) = fs) {i o : Nat} {ft : TypeId} (hi : fs[i]? = some (o, ft)) :
    ∃ f, a[i]? = some f ∧ f.offset = o ∧ f.type = ft := by
  subst h
  simp only [List.getElem?_map, Array.getElem?_toList] at hi
  cases hf : a[i]? with
  | none => simp [hf] at hi
  | some f => simp [hf] at hi; exact ⟨f, rfl, hi.1, hi.2⟩

theorem run_fieldAt {fs : List (Nat × TypeId)} {i o : Nat} {ft : TypeId} {fi : TI} (ht : ti.ok P t) (hk : ti.kind = .st fs) (hi : fs[i]? = some (o, ft)) (hf : fi.ok P ft) (hz : fi.size ≠ 0) (b off : Nat) :
    (Instr.fieldAt t (.pointer (some ⟨b, off, none⟩)) i).run P w = .ok (.pointer (some ⟨b, off + o, none⟩)) w := by
  obtain ⟨a, ha, hfs⟩ := und_st ht hk
  obtain ⟨f, hf1, rfl, rfl⟩ := st_field hfs hi
  simp [Instr.fieldAt, run_und ha, hf1, Instr.sureAddr, fieldPlace, hf.run_size, hz, Addr.add_lit]

theorem run_field {fs : List (Nat × TypeId)} {i o : Nat} {ft : TypeId} {fi : TI} (ht : ti.ok P t) (hk : ti.kind = .st fs) (hi : fs[i]? = some (o, ft)) (hf : fi.ok P ft) (vs : List Value) :
    (fi.kind.isAgg = true → o + fi.size ≤ vs.length → (Instr.field t (.agg vs.toArray) i).run P w = .ok (.agg ((vs.drop o).take fi.size).toArray) w) ∧
    (fi.kind.isAgg = false → ∀ v, vs[o]? = some v → (Instr.field t (.agg vs.toArray) i).run P w = .ok v w) := by
  obtain ⟨a, ha, hfs⟩ := und_st ht hk
  obtain ⟨f, hf1, rfl, rfl⟩ := st_field hfs hi
  constructor
  · intro hagg hl
    simp only [Instr.field, Sem.run_bind, run_und ha, Result.andThen_ok, hf1, asAgg, Sem.run_pure, part, hf.run_isAgg, hagg, if_true, hf.run_size]
    congr 2
    apply Array.ext'
    simp [List.extract_eq_take_drop]
  · intro hagg v hv
    simp [Instr.field, run_und ha, hf1, asAgg, part, hf.run_isAgg, hagg, hv]

theorem foldl_over (off : Nat) : ∀ (l : List Value) (k : Nat) (cs : Array Value), off + k + l.length ≤ cs.size →
    (l.zipIdx k).foldl (fun cs (p : Value × Nat) => cs.setIfInBounds (off + p.2) p.1) cs = (cs.toList.take (off + k) ++ l ++ cs.toList.drop (off + k + l.length)).toArray
  | [], k, cs, _ => by simp
  | v :: l, k, cs, h => by
    simp only [List.zipIdx_cons, List.foldl_cons]
    rw [foldl_over off l (k + 1) _ (by simp at h ⊢; omega)]
    have e := list_seg_step cs.toList (off + k) v l (by simp at h ⊢; omega)
    simp only [Array.toList_setIfInBounds, List.length_cons]
    rw [show off + (k + 1) = off + k + 1 by omega, e]

theorem fill_rep {hp : Array Obj} {places : List (Nat × Nat)} {ρD : List (Nat × D)} : ∀ {ds : List D} {vs : Array Value} {parts : List (Nat × Value)} {out : List D},
    fillD places ds ρD = some out → Reps F hp β ds vs.toList → parts.map (·.1) = ρD.map (·.1) → (∀ (i : Nat) (hi : i < ρD.length) (hi' : i < parts.length), Rep F hp β ρD[i].2 parts[i].2) →
    ∃ c, Instr.fill (places.toArray[·]?) vs parts = some c ∧ Reps F hp β out c.toList := by
  induction ρD with
  | nil =>
    intro ds vs parts out h r hm _
    simp only [fillD, Option.some.injEq] at h; subst h
    have : parts = [] := by simpa using hm
    subst this
    exact ⟨vs, rfl, r⟩
  | cons p ρD ih =>
    obtain ⟨i, d⟩ := p
    intro ds vs parts out h r hm hr
    cases parts with
    | nil => simp at hm
    | cons q parts =>
      obtain ⟨i', v⟩ := q
      simp only [List.map_cons, List.cons.injEq] at hm
      obtain ⟨hi, hm⟩ := hm
      have hi' : i' = i := hi
      subst hi'
      simp only [fillD] at h
      split at h
      · rename_i o s hp1
        split at h
        · rename_i hc
          obtain ⟨h1, h2, h3⟩ := hc
          have rv : Rep F hp β d v := hr 0 (by simp) (by simp)
          have rc := rv.cells h3
          have hlen : v.cells.size = s := by have := rc.length; simp at this; omega
          have hlv : vs.size = ds.length := by have := r.length; simpa using this
          have r' : Reps F hp β (ds.take o ++ cellsD d ++ ds.drop (o + s)) (vs.toList.take o ++ v.cells.toList ++ vs.toList.drop (o + s)) := by
            refine Reps.of_get (by simp [hlv, hlen, h1]) fun k hk => ?_
            have hrl := r.length
            simp only [List.length_append, List.length_take, List.length_drop] at hk
            by_cases k1 : k < o
            · obtain ⟨u, hu, ru⟩ := r.get k (by omega)
              refine ⟨u, ?_, ?_⟩
              · rw [List.append_assoc, List.getElem?_append_left (by simp; omega), List.getElem?_take, if_pos k1]; exact hu
              · have : (ds.take o ++ cellsD d ++ ds.drop (o + s))[k]'(by simp; omega) = ds[k] := by
                  rw [List.getElem_append_left (by simp; omega), List.getElem_append_left (by simp; omega)]; simp
                rw [this]; exact ru
            · by_cases k2 : k < o + s
              · obtain ⟨u, hu, ru⟩ := rc.get (k - o) (by omega)
                refine ⟨u, ?_, ?_⟩
                · have ht : (vs.toList.take o).length = o := by simp; omega
                  rw [List.getElem?_append_left (by simp; omega), List.getElem?_append_right (by omega), ht]; exact hu
                · have ht : (ds.take o).length = o := by simp; omega
                  have : (ds.take o ++ cellsD d ++ ds.drop (o + s))[k]'(by simp; omega) = (cellsD d)[k - o] := by
                    rw [List.getElem_append_left (by simp; omega), List.getElem_append_right (by omega)]; simp [ht]
                  rw [this]; exact ru
              · obtain ⟨u, hu, ru⟩ := r.get k (by omega)
                have ht : (vs.toList.take o ++ v.cells.toList).length = o + s := by simp; omega
                have ht' : (ds.take o ++ cellsD d).length = o + s := by simp; omega
                refine ⟨u, ?_, ?_⟩
                · rw [List.getElem?_append_right (by omega), ht, List.getElem?_drop, show o + s + (k - (o + s)) = k by omega]; exact hu
                · have : (ds.take o ++ cellsD d ++ ds.drop (o + s))[k]'(by simp; omega) = ds[k] := by
                    rw [List.getElem_append_right (by omega)]; simp only [ht', List.getElem_drop]; congr 1; omega
                  rw [this]; exact ru
          obtain ⟨c, hc1, hc2⟩ := ih (vs := (vs.toList.take o ++ v.cells.toList ++ vs.toList.drop (o + s)).toArray) (parts := parts) h (by simpa using r') hm
            (fun j hj hj' => by have := hr (j + 1) (by simpa using hj) (by simpa using hj'); simpa using this)
          refine ⟨c, ?_, hc2⟩
          have hp2 : places.toArray[i']? = some (o, s) := by simpa using hp1
          have hfo := foldl_over o v.cells.toList 0 vs (by simp; omega)
          simp only [Instr.fill, hp2]
          rw [if_neg (by simp; omega)]
          have e0 : v.cells.zipIdx.foldl (fun cs x => match x with | (c, j) => cs.setIfInBounds (o + j) c) vs = (vs.toList.take o ++ v.cells.toList ++ vs.toList.drop (o + s)).toArray := by
            rw [← Array.foldl_toList]
            simp only [Array.toList_zipIdx]
            simp only [Nat.add_zero, Array.length_toList, hlen] at hfo
            exact hfo
          rw [e0]
          exact hc1
        · simp at h
      · simp at h

theorem places_ok (hΓ : Γ.ok P) : ∀ {fs : List Field} {places}, placesD Γ (fs.map fun f => (f.offset, f.type)) = some places →
    fs.mapM (fun f => (P.info? f.type).map fun i => (f.offset, i.size)) = some places
  | [], places, h => by simp [placesD] at h; subst h; rfl
  | f :: fs, places, h => by
    simp only [List.map_cons, placesD] at h
    split at h
    · rename_i x l hx hl
      simp only [Option.some.injEq] at h; subst h
      have h1 := (Ctx.get_ok hΓ hx).size
      cases hi : P.info? f.type with
      | none => simp [hi] at h1
      | some i =>
        simp [hi] at h1
        simp [List.mapM_cons, hi, places_ok hΓ hl, h1]
    · simp at h
end
end Go.Eng
namespace Go.Eng
set_option linter.unusedVariables false
set_option linter.unusedSimpArgs false

def okR (d : D) : Option AR := some ⟨True, d, .none⟩
def TK.concrete : TK → Bool
  | .other => false
  | _ => true
def lenD (Γ : Ctx) (t : TypeId) (x : D) : Option AR :=
  match Γ.get t with
  | none => none
  | some ti => match ti.kind, x with
    | .slice _, .sl _ _ n _ => valR (.int .i64 n)
    | .slice _, .own _ _ n => valR (.int .i64 n)
    | .str, .lit (.string s) => valR (.int .i64 s.size)
    | _, _ => none
def loadD (ti : TI) (tab : Tab) (x : D) : Option AR :=
  match x with
  | .ptr k v off => match tab k v with
    | some (.box cs) => match subD ti cs off with
      | some d => okR d
      | none => none
    | _ => none
  | .el d => if ti.kind.isAgg then (match d with
      | .agg cs => if cs.length = ti.size then okR (.agg cs) else none
      | _ => none) else if oneD d then okR d else none
  | _ => none
def storeD (ti : TI) (tab : Tab) (a x : D) : Option AR :=
  match a with
  | .ptr k v off => match tab k v with
    | some (.box cs) => if (cellsD x).length = ti.size ∧ off + ti.size ≤ cs.length ∧ okD x = true then
        some ⟨True, .any, .set k v (.box (cs.take off ++ cellsD x ++ cs.drop (off + ti.size)))⟩ else none
    | _ => none
  | _ => none
def fieldAddrD (Γ : Ctx) (ti : TI) (x : D) (i : Nat) : Option AR :=
  match ti.kind with
  | .st fs => match fs[i]? with
    | some (o, ft) => match Γ.get ft with
      | some fi => if fi.size = 0 then none else match x with
        | .ptr k v off => okR (.ptr k v (off + o))
        | .el (.agg cs) => match subD fi cs o with
          | some d => if fi.kind.isAgg || oneD d then okR (.el d) else none
          | none => none
        | _ => none
      | none => none
    | none => none
  | _ => none
def fieldD (Γ : Ctx) (ti : TI) (x : D) (i : Nat) : Option AR :=
  match ti.kind with
  | .st fs => match fs[i]? with
    | some (o, ft) => match Γ.get ft with
      | some fi => match x with
        | .agg cs => match subD fi cs o with
          | some d => okR d
          | none => none
        | _ => none
      | none => none
    | none => none
  | _ => none
def indexAddrD (Γ : Ctx) (ti : TI) (x i : D) : Option AR :=
  match ti.kind with
  | .slice e => match Γ.get e with
    | some ei => match x, i with
      | .sl _ s n f, .lit (.int _ j) => if ei.size = s then some ⟨0 ≤ j ∧ j < n, .el (f j.toNat), .none⟩ else none
      | _, _ => none
    | none => none
  | _ => none
def indexD (ti : TI) (x i : D) : Option AR :=
  match ti.kind with
  | .str => match x, i with
    | .lit (.string s), .lit (.int _ j) => some ⟨0 ≤ j ∧ j < s.size, .lit (.int .u8 (s.get! j.toNat).toNat), .none⟩
    | _, _ => none
  | _ => none
def buildD (Γ : Ctx) (ti : TI) (ps : List (Nat × D)) : Option AR :=
  match ti.kind with
  | .st fs => match placesD Γ fs with
    | some pl => match fillD pl (cellsD (constD ti.zero)) ps with
      | some cs => if okD (constD ti.zero) then okR (.agg cs) else none
      | none => none
    | none => none
  | _ => none
def convD (m : Bool) (si di : TI) (x : D) : Option AR :=
  match di.kind, x with
  | .int k, .lit (.int _ n) => intRes m k n
  | _, _ => none
def newBox (nm gen : Nat) (d : D) : Option AR := if okD d then some ⟨True, .ptr nm gen 0, .new (.box (cellsD d))⟩ else none

def aval (Γ : Ctx) (m : Bool) (tab : Tab) (nm gen : Nat) (ρ : Operand → D) (op : Op) : Option AR :=
  match op with
  | .move x => okR (ρ x)
  | .assign x => okR (ρ x)
  | .binOp b t x y _ => binD Γ m b t (ρ x) (ρ y)
  | .unOp u _ x => unD m u (ρ x)
  | .box _ x => newBox nm gen (ρ x)
  | .alloc e => match Γ.get e with
    | some ti => newBox nm gen (constD ti.zero)
    | none => none
  | .build t ps => match Γ.get t with
    | some ti => buildD Γ ti (ps.toList.map fun p => (p.1, ρ p.2))
    | none => none
  | .load t a => match Γ.get t with
    | some ti => loadD ti tab (ρ a)
    | none => none
  | .store t a x => match Γ.get t with
    | some ti => storeD ti tab (ρ a) (ρ x)
    | none => none
  | .fieldAddr t x i => match Γ.get t with
    | some ti => fieldAddrD Γ ti (ρ x) i
    | none => none
  | .field t x i => match Γ.get t with
    | some ti => fieldD Γ ti (ρ x) i
    | none => none
  | .extract x i => match ρ x with
    | .tup ds => match ds[i]? with
      | some d => okR d
      | none => none
    | _ => none
  | .indexAddr t x i => match Γ.get t with
    | some ti => indexAddrD Γ ti (ρ x) (ρ i)
    | none => none
  | .index t x i => match Γ.get t with
    | some ti => indexD ti (ρ x) (ρ i)
    | none => none
  | .convert src dst x => match Γ.get src, Γ.get dst with
    | some si, some di => convD m si di (ρ x)
    | _, _ => none
  | .makeInterface t x => match Γ.get t with
    | some ti => if ti.kind.concrete then okR (.iface t (ρ x)) else none
    | none => none
  | .makeFunc fn fs cs => okR (.fn fn (fs.toList.map ρ) (cs.toList.map ρ))
  | .call c => match c.callee with
    | .builtin .len => match c.args.toList, c.argTypes.toList with
      | [x], [t] => lenD Γ t (ρ x)
      | _, _ => none
    | _ => none
  | _ => none

section
variable {P : Program} {Γ : Ctx} {W0 : World} {F0 F : Nat → Prop} {β : Beta} {σ : S} {a : Act} {w : World}

/-- what an operation of the given abstract answer does -/
def Does (P : Program) (W0 : World) (F : Nat → Prop) (β : Beta) (σ : S) (w : World) (nm : Nat) (r : AR) (res : Result Next) : Prop :=
  match r.eff with
  | .none => ∃ v, res = .ok (.value v) w ∧ Rep F w.heap β r.d v
  | .new oo => ∃ c e v, res = .ok (.value v) { w with heap := w.heap.push (.cells c e) } ∧
      match oo with
      | .box cs => r.d = .ptr nm σ.gen 0 ∧ v = .pointer (some ⟨w.heap.size, 0, none⟩) ∧ Reps F w.heap β cs c.toList
      | _ => False
  | .set k u oo => ∃ b cap c e c', σ.tab k u ≠ none ∧ σ.tab k u ≠ some .dead ∧ β k u = some (some b, cap) ∧ ¬ F b ∧ W0.heap.size ≤ b ∧ w.heap[b]? = some (.cells c e (0, 0)) ∧ res = .ok .skip (w.setRow b c') ∧
      match oo with
      | .box cs => Reps F w.heap β cs c'.toList
      | _ => False

theorem val_run {v : Value} {s : Sem Value} (h : s.run P w = .ok v w) : (do pure (.value (← s)) : Sem Next).run P w = .ok (.value v) w := by simp [h]

theorem does_none {r : AR} {nm : Nat} {res : Result Next} (he : r.eff = .none) (h : ∃ v, res = .ok (.value v) w ∧ Rep F w.heap β r.d v) : Does P W0 F β σ w nm r res := by
  unfold Does; rw [he]; exact h
theorem okR_some {d : D} {r : AR} (h : okR d = some r) : r.eff = .none ∧ r.d = d := by
  simp only [okR, Option.some.injEq] at h; subst h; exact ⟨rfl, rfl⟩

theorem loadD_sound {t : TypeId} {ti : TI} {x : D} {vx : Value} {r : AR} (ht : ti.ok P t) (C : Cpl W0 F0 F β σ a w) (h : loadD ti σ.tab x = some r) (hob : r.ob) (rx : Rep F w.heap β x vx) :
    r.eff = .none ∧ ∃ v, (Instr.loadAt t vx).run P w = .ok v w ∧ Rep F w.heap β r.d v := by
  unfold loadD at h
  split at h
  · rename_i k v off
    split at h
    · rename_i cs hcs
      split at h
      · rename_i d hd
        obtain ⟨e1, e2⟩ := okR_some h
        refine ⟨e1, ?_⟩
        simp only [Rep] at rx
        obtain ⟨b, cap, hβ, rfl⟩ := rx
        obtain ⟨b', cap', c, e, hβ', hF, hW, hb, hr⟩ := C.own k v _ hcs
        rw [hβ] at hβ'
        simp only [Option.some.injEq, Prod.mk.injEq] at hβ'
        obtain ⟨rfl, rfl⟩ := hβ'
        rw [e2]
        rcases sub_rep hd hr with ⟨ha, hl, hrep⟩ | ⟨ha, u, hu, hrep⟩
        · refine ⟨_, (run_load_row ht hb (vs := (c.toList.drop off).take ti.size) ?_).1 ha (by simp at hl ⊢; omega), hrep⟩
          intro j u hj
          simp only [List.getElem?_take, List.getElem?_drop, Array.getElem?_toList] at hj
          split at hj
          · exact hj
          · simp at hj
        · refine ⟨u, (run_load_row ht hb (vs := [u]) ?_).2 ha u rfl, hrep⟩
          intro j u' hj
          cases j with
          | zero => simp at hj hu; subst hj; simpa using hu
          | succ j => simp at hj
      · simp at h
    · simp at h
  · rename_i d
    simp only [Rep] at rx
    obtain ⟨b, off, c, e, fr, u, rfl, hF, hb, hr, hs⟩ := rx
    split at h
    · rename_i ha
      split at h
      · rename_i cs
        split at h
        · rename_i hl
          obtain ⟨e1, e2⟩ := okR_some h
          refine ⟨e1, ?_⟩
          have hr0 := hr
          simp only [Rep] at hr
          obtain ⟨vs, rfl, hrs⟩ := hr
          have hlen := hrs.length
          refine ⟨_, (run_load_row ht hb (vs := vs) ?_).1 ha (by omega), ?_⟩
          · intro j v hj
            have hlt : j < vs.length := (List.getElem?_eq_some_iff.1 hj).1
            have := hs j (by simpa [Value.cells] using hlt)
            rw [this]; simpa [Value.cells] using hj
          · rw [e2]; exact Rep.mono (fun b hb => ⟨hb, rfl⟩) _ (fun _ _ _ h => by simp [Beta.none] at h) hr0
        · simp at h
      · simp at h
    · rename_i ha
      split at h
      · rename_i h1
        obtain ⟨e1, e2⟩ := okR_some h
        refine ⟨e1, ?_⟩
        have hc := cells_of_one (oneD_oneCell h1 hr)
        refine ⟨u, (run_load_row ht hb (vs := [u]) ?_).2 (by simpa using ha) u rfl, ?_⟩
        · intro j v hj
          cases j with
          | zero => simp at hj; subst hj; have := hs 0 (by simp [hc]); simpa [hc] using this
          | succ j => simp at hj
        · rw [e2]; exact Rep.mono (fun b hb => ⟨hb, rfl⟩) _ (fun _ _ _ h => by simp [Beta.none] at h) hr
      · simp at h
  · simp at h

theorem storeD_sound {t : TypeId} {ti : TI} {x y : D} {vx vy : Value} {nm : Nat} {r : AR} (ht : ti.ok P t) (C : Cpl W0 F0 F β σ a w) (h : storeD ti σ.tab x y = some r) (rx : Rep F w.heap β x vx) (ry : Rep F w.heap β y vy) :
    Does P W0 F β σ w nm r ((do Instr.storeAt t vx vy; pure .skip : Sem Next).run P w) := by
  unfold storeD at h
  split at h
  · rename_i k v off
    split at h
    · rename_i cs hcs
      split at h
      · rename_i hc
        obtain ⟨h1, h2, h3⟩ := hc
        simp only [Option.some.injEq] at h; subst h
        simp only [Rep] at rx
        obtain ⟨b, cap, hβ, rfl⟩ := rx
        obtain ⟨b', cap', c, e, hβ', hF, hW, hb, hr⟩ := C.own k v _ hcs
        rw [hβ] at hβ'
        simp only [Option.some.injEq, Prod.mk.injEq] at hβ'
        obtain ⟨rfl, rfl⟩ := hβ'
        have rc := ry.cells h3
        have hl := hr.length
        have hlc := rc.length
        simp only [Array.length_toList] at hl hlc
        have hone : ∀ v ∈ vy.cells.toList, v.oneCell' = true := by
          refine Reps.all_one (F := F) (h := w.heap) (β := β) (ds := cellsD y) ?_ rc
          cases y <;> simp_all [cellsD, okD, oneD]
        have hst := run_storeCells_at P b off e vy.cells.toList 0 c w hb (by simp; omega) hone
        simp only [Nat.add_zero] at hst
        refine ⟨b, cap, c, e, (c.toList.take off ++ vy.cells.toList ++ c.toList.drop (off + vy.cells.toList.length)).toArray, by rw [hcs]; simp, by rw [hcs]; simp, hβ, hF, hW, hb, ?_, ?_⟩
        · simp only [Instr.storeAt, Instr.sureAddr, storeVar, Sem.run_bind, Sem.run_pure, Result.andThen_ok, ht.run_size]
          rw [if_neg (by simp; omega)]
          simp only [Result.andThen_ok, Sem.run_pure, Sem.run_bind, hst]
        · refine Reps.of_get (by simp; omega) fun i hi => ?_
          simp only [List.length_append, List.length_take, List.length_drop] at hi
          by_cases k1 : i < off
          · obtain ⟨u, hu, ru⟩ := hr.get i (by omega)
            refine ⟨u, ?_, ?_⟩
            · rw [List.append_assoc, List.getElem?_append_left (by simp; omega), List.getElem?_take, if_pos k1]; exact hu
            · have : (cs.take off ++ cellsD y ++ cs.drop (off + ti.size))[i]'(by simp; omega) = cs[i] := by
                rw [List.getElem_append_left (by simp; omega), List.getElem_append_left (by simp; omega)]; simp
              rw [this]; exact ru
          · by_cases k2 : i < off + ti.size
            · obtain ⟨u, hu, ru⟩ := rc.get (i - off) (by omega)
              refine ⟨u, ?_, ?_⟩
              · have ht : (c.toList.take off).length = off := by simp; omega
                rw [List.getElem?_append_left (by simp; omega), List.getElem?_append_right (by omega), ht]; exact hu
              · have ht : (cs.take off).length = off := by simp; omega
                have : (cs.take off ++ cellsD y ++ cs.drop (off + ti.size))[i]'(by simp; omega) = (cellsD y)[i - off] := by
                  rw [List.getElem_append_left (by simp; omega), List.getElem_append_right (by omega)]; simp [ht]
                rw [this]; exact ru
            · obtain ⟨u, hu, ru⟩ := hr.get i (by omega)
              have ht : (c.toList.take off ++ vy.cells.toList).length = off + ti.size := by simp; omega
              have ht' : (cs.take off ++ cellsD y).length = off + ti.size := by simp; omega
              refine ⟨u, ?_, ?_⟩
              · rw [List.getElem?_append_right (by omega), ht, List.getElem?_drop, show off + vy.cells.toList.length + (i - (off + ti.size)) = i by simp; omega]; exact hu
              · have : (cs.take off ++ cellsD y ++ cs.drop (off + ti.size))[i]'(by simp; omega) = cs[i] := by
                  rw [List.getElem_append_right (by omega)]; simp only [ht', List.getElem_drop]; congr 1; omega
                rw [this]; exact ru
      · simp at h
    · simp at h
  · simp at h

theorem fieldAddrD_sound {t : TypeId} {ti : TI} {x : D} {vx : Value} {i : Nat} {r : AR} (hΓ : Γ.ok P) (ht : ti.ok P t) (h : fieldAddrD Γ ti x i = some r) (rx : Rep F w.heap β x vx) :
    r.eff = .none ∧ ∃ v, (Instr.fieldAt t vx i).run P w = .ok v w ∧ Rep F w.heap β r.d v := by
  unfold fieldAddrD at h
  split at h
  · rename_i fs hk
    split at h
    · rename_i o ft hi
      split at h
      · rename_i fi hf
        have hfo := Ctx.get_ok hΓ hf
        split at h
        · simp at h
        · rename_i hz
          split at h
          · rename_i k v off
            obtain ⟨e1, e2⟩ := okR_some h
            simp only [Rep] at rx
            obtain ⟨b, cap, hβ, rfl⟩ := rx
            refine ⟨e1, _, run_fieldAt ht hk hi hfo hz b off, ?_⟩
            rw [e2]; simp only [Rep]; exact ⟨b, cap, hβ, rfl⟩
          · rename_i cs
            split at h
            · rename_i d hd
              split at h
              · rename_i hok
                obtain ⟨e1, e2⟩ := okR_some h
                simp only [Rep] at rx
                obtain ⟨b, off, c, e, fr, u, rfl, hF, hb, ⟨vs, rfl, hr⟩, hs⟩ := rx
                refine ⟨e1, _, run_fieldAt ht hk hi hfo hz b off, ?_⟩
                rw [e2]; simp only [Rep]
                rcases sub_rep hd hr with ⟨ha, hl, hrep⟩ | ⟨ha, u, hu, hrep⟩
                · refine ⟨b, off + o, c, e, fr, _, rfl, hF, hb, hrep, fun j hj => ?_⟩
                  simp only [Value.cells, List.size_toArray, List.length_take, List.length_drop] at hj
                  have := hs (o + j) (by simp [Value.cells]; omega)
                  rw [Nat.add_assoc, this]
                  simp [Value.cells, List.getElem?_take, show j < fi.size by omega, List.getElem?_drop]
                · have h1 : oneD d = true := by simpa [ha] using hok
                  have hc := cells_of_one (oneD_oneCell h1 hrep)
                  refine ⟨b, off + o, c, e, fr, u, rfl, hF, hb, hrep, fun j hj => ?_⟩
                  rw [hc] at hj ⊢
                  simp at hj; subst hj
                  have := hs o (by simp [Value.cells]; exact (List.getElem?_eq_some_iff.1 hu).1)
                  simp only [Nat.add_zero]
                  rw [this]; simp [Value.cells, hu]
              · simp at h
            · simp at h
          · simp at h
      · simp at h
    · simp at h
  · simp at h
end
end Go.Eng
namespace Go.Eng
set_option linter.unusedVariables false
set_option linter.unusedSimpArgs false
section
variable {P : Program} {Γ : Ctx} {W0 : World} {F0 F : Nat → Prop} {β : Beta} {σ : S} {a : Act} {w : World}

theorem fieldD_sound {t : TypeId} {ti : TI} {x : D} {vx : Value} {i : Nat} {r : AR} (hΓ : Γ.ok P) (ht : ti.ok P t) (h : fieldD Γ ti x i = some r) (rx : Rep F w.heap β x vx) :
    r.eff = .none ∧ ∃ v, (Instr.field t vx i).run P w = .ok v w ∧ Rep F w.heap β r.d v := by
  unfold fieldD at h
  split at h
  · rename_i fs hk
    split at h
    · rename_i o ft hi
      split at h
      · rename_i fi hf
        have hfo := Ctx.get_ok hΓ hf
        split at h
        · rename_i cs
          split at h
          · rename_i d hd
            obtain ⟨e1, e2⟩ := okR_some h
            simp only [Rep] at rx
            obtain ⟨vs, rfl, hr⟩ := rx
            have hrun := run_field (w := w) ht hk hi hfo vs
            refine ⟨e1, ?_⟩
            rw [e2]
            rcases sub_rep hd hr with ⟨ha, hl, hrep⟩ | ⟨ha, u, hu, hrep⟩
            · exact ⟨_, hrun.1 ha hl, hrep⟩
            · exact ⟨_, hrun.2 ha u hu, hrep⟩
          · simp at h
        · simp at h
      · simp at h
    · simp at h
  · simp at h

theorem indexAddrD_sound {t : TypeId} {ti : TI} {x y : D} {vx vy : Value} {r : AR} (hΓ : Γ.ok P) (ht : ti.ok P t) (h : indexAddrD Γ ti x y = some r) (hob : r.ob) (rx : Rep F w.heap β x vx) (ry : Rep F w.heap β y vy) :
    r.eff = .none ∧ ∃ v, (Instr.indexAt t vx vy).run P w = .ok v w ∧ Rep F w.heap β r.d v := by
  unfold indexAddrD at h
  split at h
  · rename_i e hk
    have hu : P.underlying t = some (.slice e) := by have := ht.kind; rw [hk] at this; exact this
    split at h
    · rename_i ei hei
      have heo := Ctx.get_ok hΓ hei
      split at h
      · rename_i tt s n f k j
        split at h
        · rename_i hs
          simp only [Option.some.injEq] at h; subst h
          have hob' : 0 ≤ j ∧ j < n := hob
          refine ⟨rfl, ?_⟩
          simp only [Rep] at ry; subst ry
          simp only [Rep] at rx
          rcases rx with ⟨rfl, _⟩ | ⟨b, off, cap, c, e', fr, rfl, hF, hb, hcap, ht', hrow⟩
          · omega
          · obtain ⟨u, hu1, hu2, hu3⟩ := hrow j.toNat (by omega)
            refine ⟨.pointer (some ⟨b, off + j.toNat * s, none⟩), ?_, ?_⟩
            · simp [Instr.indexAt, asIntOf, run_und hu, hob'.1, hob'.2, heo.run_size, hs, Addr.add_lit]
            · simp only [Rep]; exact ⟨b, off + j.toNat * s, c, e', fr, u, rfl, hF, hb, hu1, hu3⟩
        · simp at h
      · simp at h
    · simp at h
  · simp at h

theorem indexD_sound {t : TypeId} {ti : TI} {x y : D} {vx vy : Value} {r : AR} (ht : ti.ok P t) (h : indexD ti x y = some r) (hob : r.ob) (rx : Rep F w.heap β x vx) (ry : Rep F w.heap β y vy) :
    r.eff = .none ∧ ∃ v, (Instr.index t vx vy).run P w = .ok v w ∧ Rep F w.heap β r.d v := by
  unfold indexD at h
  split at h
  · rename_i hk
    have hu : P.underlying t = some .string := by have := ht.kind; rw [hk] at this; exact this
    split at h
    · rename_i s k j
      simp only [Option.some.injEq] at h; subst h
      have hob' : 0 ≤ j ∧ j < s.size := hob
      refine ⟨rfl, ?_⟩
      simp only [Rep] at rx ry; subst rx; subst ry
      refine ⟨.int .u8 (s.get! j.toNat).toNat, ?_, by simp only [Rep]⟩
      have hlt : j.toNat < s.size := by omega
      have he : s[j.toNat]? = some (s.get! j.toNat) := by
        rw [getElem?_pos s j.toNat hlt]
        congr 1
        have hlt' : j.toNat < s.data.size := hlt
        simp only [ByteArray.get!, ByteArray.getElem_eq_getElem_data]
        rw [getElem!_pos s.data j.toNat hlt']
      simp [Instr.index, asIntOf, run_und hu, hob'.1, he]
    · simp at h
  · simp at h

theorem buildD_sound {t : TypeId} {ti : TI} {ps : Array (Nat × Operand)} {ρ : Operand → D} {ρv : Operand → Value} {r : AR} (hΓ : Γ.ok P) (ht : ti.ok P t) (h : buildD Γ ti (ps.toList.map fun p => (p.1, ρ p.2)) = some r)
    (hr : ∀ p ∈ ps.toList, Rep F w.heap β (ρ p.2) (ρv p.2)) :
    r.eff = .none ∧ ∃ v, (Instr.build t (ps.map fun p => (p.1, ρv p.2))).run P w = .ok v w ∧ Rep F w.heap β r.d v := by
  unfold buildD at h
  split at h
  · rename_i fs hk
    split at h
    · rename_i pl hpl
      split at h
      · rename_i cs hcs
        split at h
        · rename_i hz
          obtain ⟨e1, e2⟩ := okR_some h
          refine ⟨e1, ?_⟩
          obtain ⟨a, ha, hfs⟩ := und_st ht hk
          have rz := (rep_constD (F := F) (h := w.heap) (β := β) ti.zero).cells hz
          have hpl' : a.toList.mapM (fun f : Field => (P.info? f.type).map fun i => (f.offset, i.size)) = some pl := places_ok hΓ (by rw [hfs]; exact hpl)
          obtain ⟨c, hc1, hc2⟩ := fill_rep (parts := (ps.map fun p => (p.1, ρv p.2)).toList) hcs rz (by simp [Function.comp_def]) (fun i hi hi' => by
            simp only [List.length_map] at hi
            have := hr ps.toList[i] (List.getElem_mem _)
            simpa using this)
          have hb : P.built t (ps.map fun p => (p.1, ρv p.2)).toList = some c := by
            have h1 := ht.size
            have h2 := ht.zero
            cases hi : P.info? t with
            | none => simp [hi] at h1
            | some it =>
              simp [hi] at h2
              simp only [Program.built, hi, ha, h2, hpl']
              exact hc1
          refine ⟨_, run_build w t _ c hb, ?_⟩
          rw [e2]; simp only [Rep]; exact ⟨c.toList, rfl, hc2⟩
        · simp at h
      · simp at h
    · simp at h
  · simp at h

theorem newBox_sound {nm : Nat} {d : D} {v : Value} {r : AR} {e : TypeId} (h : newBox nm σ.gen d = some r) (rd : Rep F w.heap β d v) :
    Does P W0 F β σ w nm r (.ok (.value (.pointer (some ⟨w.heap.size, 0, none⟩))) { w with heap := w.heap.push (.cells v.cells e) }) := by
  unfold newBox at h
  split at h
  · rename_i hd
    simp only [Option.some.injEq] at h; subst h
    exact ⟨v.cells, e, _, rfl, rfl, rfl, rd.cells hd⟩
  · simp at h

theorem concrete_ok {t : TypeId} {ti : TI} (ht : ti.ok P t) (hc : ti.kind.concrete = true) : P.concrete t = true := by
  have hk := ht.kind
  unfold Program.concrete
  cases hx : ti.kind <;> simp only [hx, TK.ok] at hk
  case bool | int | str | slice => simp [hk]
  case st => obtain ⟨a, ha, _⟩ := hk; simp [ha]
  case other => simp [hx, TK.concrete] at hc

theorem lenD_sound {t : TypeId} {x : D} {vx : Value} {r : AR} {ty : TypeId} (hΓ : Γ.ok P) (h : lenD Γ t x = some r) (rx : Rep F w.heap β x vx) :
    r.eff = .none ∧ ∃ v, (Builtin.len_ #[t] ty #[vx]).run P w = .ok v w ∧ Rep F w.heap β r.d v := by
  unfold lenD at h
  split at h
  · simp at h
  · rename_i ti hti
    have hk := (Ctx.get_ok hΓ hti).kind
    split at h
    · rename_i hx; rw [hx] at hk
      have hu : P.underlying t = _ := hk
      obtain ⟨e1, e2⟩ := valR_sound h
      refine ⟨e1, _, ?_, rep_of_lit e2⟩
      simp only [Rep] at rx
      rcases rx with ⟨rfl, _, _, rfl, _⟩ | ⟨_, _, _, _, _, _, rfl, _⟩ <;> simp [Builtin.len_, run_und hu, goInt]
    · rename_i hx; rw [hx] at hk
      have hu : P.underlying t = _ := hk
      obtain ⟨e1, e2⟩ := valR_sound h
      refine ⟨e1, _, ?_, rep_of_lit e2⟩
      simp only [Rep] at rx
      obtain ⟨_, _, _, rfl⟩ := rx
      simp [Builtin.len_, run_und hu, goInt]
    · rename_i hx; rw [hx] at hk
      have hu : P.underlying t = _ := hk
      obtain ⟨e1, e2⟩ := valR_sound h
      refine ⟨e1, _, ?_, rep_of_lit e2⟩
      simp only [Rep] at rx
      subst rx
      simp [Builtin.len_, run_und hu, goInt]
    · simp at h

theorem Reps.map {ρ : Operand → D} {ρv : Operand → Value} {hp : Array Obj} : ∀ (l : List Operand), (∀ x ∈ l, Rep F hp β (ρ x) (ρv x)) → Reps F hp β (l.map ρ) (l.map ρv)
  | [], _ => by simp only [List.map_nil, Reps]
  | x :: l, h => by
    simp only [List.map_cons, Reps]
    exact ⟨_, _, rfl, h x (by simp), Reps.map l fun y hy => h y (by simp [hy])⟩

theorem aval_sound {m : Bool} {nm : Nat} {o : Oper} {ρ : Operand → D} {ρv : Operand → Value} {r : AR} (hΓ : Γ.ok P) (C : Cpl W0 F0 F β σ a w)
    (hρ : ∀ x ∈ o.op.operands, Rep F w.heap β (ρ x) (ρv x)) (h : aval Γ m σ.tab nm σ.gen ρ o.op = some r) (hob : r.ob) :
    Does P W0 F β σ w nm r ((execOp ρv o).run P w) := by
  have fin : ∀ {s : Sem Value}, (r.eff = .none ∧ ∃ v, s.run P w = .ok v w ∧ Rep F w.heap β r.d v) → Does P W0 F β σ w nm r ((do pure (.value (← s)) : Sem Next).run P w) := by
    intro s ⟨h1, v, h2, h3⟩
    exact does_none h1 ⟨v, val_run h2, h3⟩
  unfold execOp
  unfold aval at h
  split at h <;> first | (simp only [reduceCtorEq] at h; done) | (rename_i hop; rw [hop] at hρ; simp only [Op.operands] at hρ; simp only [hop])
  · obtain ⟨e1, e2⟩ := okR_some h
    exact does_none e1 ⟨_, rfl, by rw [e2]; exact hρ _ (by simp)⟩
  · obtain ⟨e1, e2⟩ := okR_some h
    exact does_none e1 ⟨_, rfl, by rw [e2]; exact hρ _ (by simp)⟩
  · exact fin (binD_sound hΓ h hob (hρ _ (by simp)) (hρ _ (by simp)))
  · exact fin (unD_sound h hob (hρ _ (by simp)))
  · have := newBox_sound (P := P) (W0 := W0) (e := by assumption) h (hρ _ (by simp))
    exact this
  · split at h
    · rename_i ti hti
      have := newBox_sound (P := P) (W0 := W0) (e := by assumption) h (rep_constD (F := F) (h := w.heap) (β := β) ti.zero)
      simpa [Instr.alloc, (Ctx.get_ok hΓ hti).run_zero, newVar, newRow] using this
    · simp at h
  · split at h
    · rename_i ti hti
      exact fin (buildD_sound (ρv := ρv) hΓ (Ctx.get_ok hΓ hti) h fun p hp => hρ _ (by simp; exact ⟨p.1, by simpa using hp⟩))
    · simp at h
  · split at h
    · rename_i ti hti
      exact fin (loadD_sound (Ctx.get_ok hΓ hti) C h hob (hρ _ (by simp)))
    · simp at h
  · split at h
    · rename_i ti hti
      exact storeD_sound (Ctx.get_ok hΓ hti) C h (hρ _ (by simp)) (hρ _ (by simp))
    · simp at h
  · split at h
    · rename_i ti hti
      exact fin (fieldAddrD_sound hΓ (Ctx.get_ok hΓ hti) h (hρ _ (by simp)))
    · simp at h
  · split at h
    · rename_i ti hti
      exact fin (fieldD_sound hΓ (Ctx.get_ok hΓ hti) h (hρ _ (by simp)))
    · simp at h
  · rename_i x i
    split at h
    · rename_i ds hx
      split at h
      · rename_i d hd
        obtain ⟨e1, e2⟩ := okR_some h
        have rx := hρ x (by simp)
        rw [hx] at rx
        simp only [Rep] at rx
        obtain ⟨vs, hv, hr⟩ := rx
        obtain ⟨hlt, he⟩ := List.getElem?_eq_some_iff.1 hd
        obtain ⟨u, hu, ru⟩ := hr.get i hlt
        refine fin ⟨e1, u, ?_, by rw [e2, ← he]; exact ru⟩
        simp [Instr.extract, hv, hu]
      · simp at h
    · simp at h
  · split at h
    · rename_i ti hti
      exact fin (indexAddrD_sound hΓ (Ctx.get_ok hΓ hti) h hob (hρ _ (by simp)) (hρ _ (by simp)))
    · simp at h
  · split at h
    · rename_i ti hti
      exact fin (indexD_sound (Ctx.get_ok hΓ hti) h hob (hρ _ (by simp)) (hρ _ (by simp)))
    · simp at h
  · split at h
    · rename_i src dst x _ _ si di hsi hdi
      unfold convD at h
      split at h
      · rename_i k k' n hk hx
        obtain ⟨e1, e2⟩ := intRes_sound h hob
        have rx := hρ x (by simp)
        rw [hx] at rx
        simp only [Rep] at rx
        have hud : P.underlying dst = some (.int k) := by have := (Ctx.get_ok hΓ hdi).kind; rw [hk] at this; exact this
        have hus : ∃ d, P.underlying src = some d := by
          have := (Ctx.get_ok hΓ hsi).kind
          cases hx : si.kind <;> simp only [hx, TK.ok] at this
          case st => exact ⟨_, this.choose_spec.1⟩
          case other => obtain ⟨d, hd, _⟩ := this; exact ⟨d, hd⟩
          all_goals exact ⟨_, this⟩
        obtain ⟨d, hd⟩ := hus
        refine fin ⟨e1, .int k (k.wrap n), ?_, rep_of_lit e2⟩
        rw [rx]
        simp [convert, run_und hd, run_und hud, Conv.intToInt]
      · simp at h
    · simp at h
  · split at h
    · rename_i ti hti
      split at h
      · rename_i hc
        obtain ⟨e1, e2⟩ := okR_some h
        refine fin ⟨e1, _, run_makeInterface w _ _ (concrete_ok (Ctx.get_ok hΓ hti) hc), ?_⟩
        rw [e2]; simp only [Rep]; exact ⟨_, rfl, hρ _ (by simp)⟩
      · simp at h
    · simp at h
  · rename_i fn fs cs
    obtain ⟨e1, e2⟩ := okR_some h
    refine fin ⟨e1, .func fn (fs.map ρv) (cs.map ρv), by simp [Instr.makeFunc], ?_⟩
    rw [e2]; simp only [Rep]
    refine ⟨fs.toList.map ρv, cs.toList.map ρv, by simp [← Array.toList_map], Reps.map _ fun x hx => hρ x (by simp; left; simpa using hx), Reps.map _ fun x hx => hρ x (by simp; right; simpa using hx)⟩
  · rename_i c
    split at h
    · rename_i hcal
      split at h
      · rename_i x t hargs htys
        have e1 : c.args = #[x] := by apply Array.ext'; simpa using hargs
        have e2 : c.argTypes = #[t] := by apply Array.ext'; simpa using htys
        have hl := lenD_sound (P := P) (w := w) (ty := o.type) (vx := ρv x) hΓ h (hρ _ (by simp [Call.operands, e1]))
        have := fin hl
        simpa [resolve, hcal, e1, e2, invoke, builtin] using this
      · simp at h
    · simp at h
end
end Go.Eng
namespace Go.Eng
set_option linter.unusedVariables false
set_option linter.unusedSimpArgs false

mutual
def pureD : D → Bool
  | .ptr .. => false
  | .own .. => false
  | .agg cs => puresD cs
  | .tup cs => puresD cs
  | .fn _ fs cs => puresD fs && puresD cs
  | .iface _ d => pureD d
  | .whn _ d => pureD d
  | _ => true
def puresD : List D → Bool
  | [] => true
  | d :: ds => pureD d && puresD ds
end
mutual
theorem Rep.rebeta {F : Nat → Prop} {h : Array Obj} {β β' : Beta} : ∀ (d : D) {v : Value}, pureD d = true → Rep F h β d v → Rep F h β' d v
  | .lit u, _, _, r => by simpa only [Rep] using r
  | .any, _, _, r => by simp only [Rep]
  | .agg cs, _, p, r => by
    simp only [Rep, pureD] at r p ⊢
    obtain ⟨vs, e, r⟩ := r
    exact ⟨vs, e, Reps.rebeta cs p r⟩
  | .tup cs, _, p, r => by
    simp only [Rep, pureD] at r p ⊢
    obtain ⟨vs, e, r⟩ := r
    exact ⟨vs, e, Reps.rebeta cs p r⟩
  | .sl .., _, _, r => by simpa only [Rep] using r
  | .el _, _, _, r => by simpa only [Rep] using r
  | .ptr .., _, p, _ => by simp [pureD] at p
  | .own .., _, p, _ => by simp [pureD] at p
  | .fn f fs cs, _, p, r => by
    simp only [Rep, pureD, Bool.and_eq_true] at r p ⊢
    obtain ⟨vf, vc, e, r1, r2⟩ := r
    exact ⟨vf, vc, e, Reps.rebeta fs p.1 r1, Reps.rebeta cs p.2 r2⟩
  | .iface t d, _, p, r => by
    simp only [Rep, pureD] at r p ⊢
    obtain ⟨u, e, r⟩ := r
    exact ⟨u, e, Rep.rebeta d p r⟩
  | .whn g d, _, p, r => by
    simp only [Rep, pureD] at r p ⊢
    exact ⟨fun hg => Rep.rebeta d p (r.1 hg), r.2⟩
theorem Reps.rebeta {F : Nat → Prop} {h : Array Obj} {β β' : Beta} : ∀ (ds : List D) {vs : List Value}, puresD ds = true → Reps F h β ds vs → Reps F h β' ds vs
  | [], _, _, r => by simpa only [Reps] using r
  | d :: ds, _, p, r => by
    simp only [Reps, puresD, Bool.and_eq_true] at r p ⊢
    obtain ⟨v, vs', e, r1, r2⟩ := r
    exact ⟨v, vs', e, Rep.rebeta d p.1 r1, Reps.rebeta ds p.2 r2⟩
end

/-- a call's outside: old memory stands, what is new is not frozen by bytes of strings -/
structure Ext (F F' : Nat → Prop) (w w' : World) : Prop where
  old : ∀ b, b < w.heap.size → w'.heap[b]? = w.heap[b]?
  size : w.heap.size ≤ w'.heap.size
  os : w'.os = w.os
  tp : w'.tape = w.tape
  out : w'.output = w.output
  sub : ∀ b, F b → F' b
  src : ∀ b, F' b → F b ∨ w.heap.size ≤ b
  lt : ∀ b, F' b → b < w'.heap.size
  frz : ∀ b c e fr, w.heap.size ≤ b → w'.heap[b]? = some (.cells c e fr) → fr = (0, 0)

def Enters (P : Program) (f : FuncId) : Prop := ∃ fn, P.funcs[f]? = some fn ∧ (fn.name == "runtime.NumGoroutine") = false ∧ fn.body.isNone = false
theorem Enters.run {P : Program} {f : FuncId} (h : Enters P f) (args : Array Value) (w : World) : (callFunc f args).run P w = .ok (.enter f args) w := by
  obtain ⟨fn, h1, h2, h3⟩ := h
  simp only [callFunc, Sem.run_bind, run_program, Result.andThen_ok, h1, h2, h3, Bool.false_eq_true, if_false, Sem.run_pure]

/-- THE CONTRACT OF A FUNCTION ON DATA: called with values that read as 'ds' it returns one that reads as 'r' -/
def PC (P : Program) (f : FuncId) (ds : List D) (r : D) : Prop :=
  Enters P f ∧ pureD r = true ∧ ∀ (w : World) (F : Nat → Prop) (vs : List Value), (∀ b, F b → b < w.heap.size) → Reps F w.heap Beta.none ds vs →
    Calls P f vs.toArray w fun e w' => ∃ v F', e = .returned v ∧ Ext F F' w w' ∧ Rep F' w'.heap Beta.none r v

def strip : D → D
  | .whn _ d => d
  | d => d
def scond (g : Bool) : D → Prop
  | .whn g' _ => g = true → g' = true
  | _ => True
def sconds (g : Bool) (ts : List D) : List Operand → Prop
  | [] => True
  | x :: r => scond g (opd ts x) ∧ sconds g ts r
theorem rep_strip {F h β} {g : Bool} {d : D} {v : Value} (hg : g = true) (hs : scond g d) (r : Rep F h β d v) : Rep F h β (strip d) v := by
  cases d <;> try exact r
  case whn g' d =>
    simp only [Rep] at r
    exact r.1 (hs hg)
theorem sconds_mem {g : Bool} {ts : List D} : ∀ {l : List Operand}, sconds g ts l → ∀ x ∈ l, scond g (opd ts x)
  | [], _, _, h => by simp at h
  | y :: l, h, x, hx => by
    rcases List.mem_cons.1 hx with rfl | hx
    · exact h.1
    · exact sconds_mem h.2 x hx

def gdD (ops : Array Oper) (o : Oper) (ts : List D) : Option Bool :=
  match o.guard with
  | none => some true
  | some (j, want) => match (ops[j]?).bind (·.dst) with
    | none => none
    | some t => match ts.getD t .any with
      | .lit (.bool b) => some (b == want)
      | .whn g (.lit (.bool b)) => some (g && (b == want))
      | _ => none
theorem yielded_at {ops : Array Oper} {j t : Nat} {tmps : Array Value} (ht : (ops[j]?).bind (·.dst) = some t) :
    yielded ops tmps j = match tmps.getD t undef with | .bool b => some b | _ => none := by
  unfold yielded
  rw [ht]
  cases h : tmps[t]? with
  | none => simp [h, undef]
  | some v => cases v <;> simp [h]
theorem gdD_sound {F h β} {ops : Array Oper} {o : Oper} {ts : List D} {a : Act} {g : Bool} (r : Reps F h β ts a.tmps.toList) (hg : gdD ops o ts = some g) :
    Region.wanted o (yielded ops a.tmps) = g := by
  unfold gdD at hg
  unfold Region.wanted
  split at hg
  · rename_i h0; simp only [Option.some.injEq] at hg; subst hg; simp [h0]
  · rename_i j want h0
    simp only [h0]
    split at hg
    · simp at hg
    · rename_i t ht
      have hr := rep_opd (a := a) r (.tmp t)
      simp only [opd, Act.eval] at hr
      split at hg
      · rename_i b hb
        simp only [Option.some.injEq] at hg; subst hg
        rw [hb] at hr; simp only [Rep] at hr
        rw [yielded_at ht, hr]
        cases b <;> cases want <;> rfl
      · rename_i g' b hb
        simp only [Option.some.injEq] at hg; subst hg
        rw [hb] at hr; simp only [Rep] at hr
        cases g' with
        | true => rw [yielded_at ht, hr.1 rfl]; cases b <;> cases want <;> rfl
        | false => rw [yielded_at ht, hr.2 rfl]; rfl
      · simp at hg

def pickD (x : Bool) (a b : D) : Option D :=
  match a, b with
  | .lit (.bool p), .lit (.bool q) => some (.lit (.bool (bif x then p else q)))
  | .lit (.int k p), .lit (.int k' q) => if k = k' then some (.lit (.int k (bif x then p else q))) else none
  | .lit (.string p), .lit (.string q) => some (.lit (.string (bif x then p else q)))
  | _, _ => none
theorem pickD_sound {F h β} {x : Bool} {a b d : D} {va vb : Value} (hp : pickD x a b = some d) (ra : x = true → Rep F h β a va) (rb : x = false → Rep F h β b vb) :
    Rep F h β d (if x then va else vb) := by
  unfold pickD at hp
  split at hp
  · simp only [Option.some.injEq] at hp; subst hp
    cases x <;> simp_all [Rep]
  · split at hp
    · rename_i hk; subst hk
      simp only [Option.some.injEq] at hp; subst hp
      cases x <;> simp_all [Rep]
    · simp at hp
  · simp only [Option.some.injEq] at hp; subst hp
    cases x <;> simp_all [Rep]
  · simp at hp

def mkwhn (gd : Option (Nat × Bool)) (g : Bool) (d : D) : D :=
  match gd with
  | none => d
  | some _ => .whn g d
def nmOf (base : Nat) (o : Oper) : Nat := base + (o.dst.getD 0)

/-- what an operation does to the store: nothing, a new object, an object's new contents -/
inductive TE where
  | none
  | new (k : Nat) (o : OO)
  | set (k v : Nat) (o : OO)
def S.eff (σ : S) : TE → S
  | .none => σ
  | .new k o => { σ with tab := σ.tab.upd k σ.gen o }
  | .set k v o => { σ with tab := σ.tab.upd k v o }

def callD (P : Program) (g : Bool) (ts : List D) (c : Call) (r : D) : Prop :=
  match c.callee with
  | .value f => match strip (opd ts f) with
    | .fn (.func fid) fs cs => sconds g ts c.operands.toList ∧ puresD (fs ++ (c.args.toList.map fun x => strip (opd ts x)) ++ cs) = true ∧ (g = true → PC P fid (fs ++ (c.args.toList.map fun x => strip (opd ts x)) ++ cs) r)
    | _ => False
  | _ => False

def isGoCall : Op → Bool
  | .call ⟨.value _, _, _⟩ => true
  | _ => false

/-- THE CONDITION FOR ONE OPERATION: 'K' is what is asked of the state behind it -/
def vcOp (P : Program) (Γ : Ctx) (m : Bool) (base : Nat) (ops : Array Oper) (o : Oper) (σ : S) (K : S → Prop) : Prop :=
  match gdD ops o σ.ts with
  | none => False
  | some g => match o.op with
    | .pick c x y => match strip (opd σ.ts c) with
      | .lit (.bool b) => match pickD b (strip (opd σ.ts x)) (strip (opd σ.ts y)) with
        | some d => (scond g (opd σ.ts c) ∧ scond (g && b) (opd σ.ts x) ∧ scond (g && !b) (opd σ.ts y)) ∧ K (σ.put o.dst (mkwhn o.guard g d))
        | none => False
      | _ => False
    | .call ⟨.value f, args, tys⟩ => ∃ r, callD P g σ.ts ⟨.value f, args, tys⟩ r ∧ K (σ.put o.dst (mkwhn o.guard g r))
    | op => match aval Γ m σ.tab (nmOf base o) σ.gen (fun x => strip (opd σ.ts x)) op with
      | none => False
      | some r => (sconds g σ.ts op.operands.toList ∧ (g = true → r.ob)) ∧ (match r.eff with
        | .none => K (σ.put o.dst (mkwhn o.guard g r.d))
        | .new oo => o.guard = none ∧ σ.tab (nmOf base o) σ.gen = none ∧ K ((σ.eff (.new (nmOf base o) oo)).put o.dst r.d)
        | .set k v oo => o.guard = none ∧ K ((σ.eff (.set k v oo)).put o.dst .any))

/-- the same, as what it yields -/
inductive YA (P : Program) (Γ : Ctx) (m : Bool) (base : Nat) (ops : Array Oper) (o : Oper) (σ : S) : D → TE → Prop
  | pick {g c x y b d} (hg : gdD ops o σ.ts = some g) (ho : o.op = .pick c x y) (hc : strip (opd σ.ts c) = .lit (.bool b)) (hd : pickD b (strip (opd σ.ts x)) (strip (opd σ.ts y)) = some d)
      (h : scond g (opd σ.ts c) ∧ scond (g && b) (opd σ.ts x) ∧ scond (g && !b) (opd σ.ts y)) : YA P Γ m base ops o σ (mkwhn o.guard g d) .none
  | call {g f args tys r} (hg : gdD ops o σ.ts = some g) (ho : o.op = .call ⟨.value f, args, tys⟩) (h : callD P g σ.ts ⟨.value f, args, tys⟩ r) : YA P Γ m base ops o σ (mkwhn o.guard g r) .none
  | val {g r} (hg : gdD ops o σ.ts = some g) (hc : isGoCall o.op = false) (h : aval Γ m σ.tab (nmOf base o) σ.gen (fun x => strip (opd σ.ts x)) o.op = some r)
      (hs : sconds g σ.ts o.op.operands.toList) (hob : g = true → r.ob) (he : r.eff = .none) : YA P Γ m base ops o σ (mkwhn o.guard g r.d) .none
  | new {r oo} (hg : o.guard = none) (hc : isGoCall o.op = false) (h : aval Γ m σ.tab (nmOf base o) σ.gen (fun x => strip (opd σ.ts x)) o.op = some r)
      (hs : sconds true σ.ts o.op.operands.toList) (hob : r.ob) (he : r.eff = .new oo) (hn : σ.tab (nmOf base o) σ.gen = none) : YA P Γ m base ops o σ r.d (.new (nmOf base o) oo)
  | set {r k v oo} (hg : o.guard = none) (hc : isGoCall o.op = false) (h : aval Γ m σ.tab (nmOf base o) σ.gen (fun x => strip (opd σ.ts x)) o.op = some r)
      (hs : sconds true σ.ts o.op.operands.toList) (hob : r.ob) (he : r.eff = .set k v oo) : YA P Γ m base ops o σ .any (.set k v oo)

theorem vcOp_ya {P : Program} {Γ : Ctx} {m : Bool} {base : Nat} {ops : Array Oper} {o : Oper} {σ : S} {K : S → Prop} (h : vcOp P Γ m base ops o σ K) :
    ∃ d t, YA P Γ m base ops o σ d t ∧ K ((σ.eff t).put o.dst d) := by
  unfold vcOp at h
  split at h
  · exact h.elim
  · rename_i g hg
    have gtrue : o.guard = none → g = true := by
      intro h0; unfold gdD at hg; rw [h0] at hg; simpa using hg.symm
    split at h
    · rename_i c x y ho
      split at h
      · rename_i b hb
        split at h
        · rename_i d hd
          exact ⟨_, .none, .pick hg ho hb hd h.1, h.2⟩
        · exact h.elim
      · exact h.elim
    · rename_i f args tys ho
      obtain ⟨r, h1, h2⟩ := h
      exact ⟨_, .none, .call hg ho h1, h2⟩
    · rename_i hp hc
      have hcall : isGoCall o.op = false := by
        cases hop : o.op <;> try rfl
        case call c =>
          obtain ⟨cal, args, tys⟩ := c
          cases cal <;> try rfl
          exact absurd hop (hc _ _ _)
      split at h
      · exact h.elim
      · rename_i r hr
        obtain ⟨⟨h1, h2⟩, h3⟩ := h
        split at h3
        · rename_i he
          exact ⟨_, .none, .val hg hcall hr h1 h2 he, h3⟩
        · rename_i oo he
          obtain ⟨h4, h5, h6⟩ := h3
          have hgt := gtrue h4; subst hgt
          exact ⟨_, _, .new h4 hcall hr h1 (h2 rfl) he h5, h6⟩
        · rename_i k v oo he
          obtain ⟨h4, h6⟩ := h3
          have hgt := gtrue h4; subst hgt
          exact ⟨_, _, .set h4 hcall hr h1 (h2 rfl) he, h6⟩
end Go.Eng
namespace Go.Eng
set_option linter.unusedVariables false
set_option linter.unusedSimpArgs false
section
variable {P : Program} {Γ : Ctx} {m : Bool} {base : Nat} {ops : Array Oper} {W0 : World} {F0 F : Nat → Prop} {β : Beta} {σ : S} {a : Act} {w : World}

theorem OwnOK.mono {F F' : Nat → Prop} {h h' : Array Obj} {β β' : Beta} {k v : Nat} {o : OO} (hF : ∀ b, F b → F' b ∧ h'[b]? = h[b]?) (hβ : ∀ k v x, β k v = some x → β' k v = some x)
    (hb : ∀ b c, o ≠ .dead → β k v = some (some b, c) → ¬ F b → b < h.size → ¬ F' b ∧ h'[b]? = h[b]?) (H : OwnOK W0 F h β k v o) : OwnOK W0 F' h' β' k v o := by
  cases o with
  | dead => exact True.intro
  | box cs =>
    obtain ⟨b, cap, c, e, h1, h2, h3, h4, h5⟩ := H
    obtain ⟨g1, g2⟩ := hb b cap (by simp) h1 h2 (Array.getElem?_eq_some_iff.1 h4).1
    exact ⟨b, cap, c, e, hβ _ _ _ h1, g1, h3, g2.trans h4, Reps.mono hF _ hβ h5⟩
  | arr s n f =>
    obtain ⟨x, cap, h1, h2, h3⟩ := H
    refine ⟨x, cap, hβ _ _ _ h1, h2, fun b hx => ?_⟩
    obtain ⟨h4, h5, c, e, h6, h7, h8, h9⟩ := h3 b hx
    subst hx
    obtain ⟨g1, g2⟩ := hb b cap (by simp) h1 h4 (Array.getElem?_eq_some_iff.1 h6).1
    refine ⟨g1, h5, c, e, g2.trans h6, h7, h8, fun i hi => ?_⟩
    obtain ⟨u, u1, u2, u3⟩ := h9 i hi
    exact ⟨u, Rep.mono hF _ (fun _ _ _ h => h) u1, u2, u3⟩

theorem Cpl.put (C : Cpl W0 F0 F β σ a w) (dst : Option Tmp) {d : D} {v : Value} (rd : Rep F w.heap β d v) : Cpl W0 F0 F β (σ.put dst d) (a.put dst v) w := by
  cases dst with
  | none => exact C
  | some t =>
    exact { C with reps := by simpa [S.put, Act.put] using reps_set C.reps t rd, gen := C.gen, own := C.own, inj := C.inj }

theorem Cpl.bump (C : Cpl W0 F0 F β σ a w) : Cpl W0 F0 F β { σ with gen := σ.gen + 1 } a w :=
  { C with reps := C.reps, gen := fun k v x h => .inl (by rcases C.gen k v x h with h | h <;> simp <;> omega), own := C.own, inj := C.inj }

theorem Cpl.call {F' : Nat → Prop} {w' : World} (C : Cpl W0 F0 F β σ a w) (E : Ext F F' w w') : Cpl W0 F0 F' β σ a w' := by
  have hF : ∀ b, F b → F' b ∧ w'.heap[b]? = w.heap[b]? := fun b hb => ⟨E.sub b hb, E.old b (C.Flt b hb)⟩
  refine { reps := Reps.mono hF _ (fun _ _ _ h => h) C.reps, defers := C.defers, F0F := fun b h => E.sub b (C.F0F b h), Fsrc := fun b h => ?_, Flt := E.lt, keep := fun b h => ?_, size := Nat.le_trans C.size E.size,
           os := E.os.trans C.os, tp := E.tp.trans C.tp, out := E.out.trans C.out, frz := fun b c e fr hb hc => ?_, gen := C.gen, own := fun k v o ho => ?_, inj := C.inj }
  · rcases E.src b h with h | h
    · exact C.Fsrc b h
    · exact .inr (Nat.le_trans C.size h)
  · rw [E.old b (Nat.lt_of_lt_of_le h C.size)]; exact C.keep b h
  · by_cases hlt : b < w.heap.size
    · exact C.frz b c e fr hb (by rw [← E.old b hlt]; exact hc)
    · exact E.frz b c e fr (Nat.le_of_not_lt hlt) hc
  · refine OwnOK.mono hF (fun _ _ _ h => h) (fun b c _ _ hnF hlt => ⟨fun h => ?_, E.old b hlt⟩) (C.own k v o ho)
    rcases E.src b h with h | h
    · exact hnF h
    · omega

theorem Cpl.newBox {k : Nat} {cs : List D} {c : Array Value} {e : TypeId} (C : Cpl W0 F0 F β σ a w) (hn : σ.tab k σ.gen = none) (hr : Reps F w.heap β cs c.toList) :
    ∃ β', (∀ k v x, β k v = some x → β' k v = some x) ∧ β' k σ.gen = some (some w.heap.size, 0) ∧
      Cpl W0 F0 F β' (σ.eff (.new k (.box cs))) a { w with heap := w.heap.push (.cells c e) } := by
  have hβn : β k σ.gen = none := by
    cases h : β k σ.gen with
    | none => rfl
    | some x => rcases C.gen _ _ _ h with h | ⟨_, h⟩
                · omega
                · simp [hn] at h
  let β' : Beta := fun k' v' => if k' = k ∧ v' = σ.gen then some (some w.heap.size, 0) else β k' v'
  have hβ : ∀ k v x, β k v = some x → β' k v = some x := by
    intro k' v' x h
    simp only [β']
    rw [if_neg]
    · exact h
    · rintro ⟨rfl, rfl⟩; rw [hβn] at h; cases h
  have hold : ∀ b, b < w.heap.size → (w.heap.push (.cells c e))[b]? = w.heap[b]? := fun b hb => by simp [Array.getElem?_push, Nat.ne_of_lt hb]
  have hF : ∀ b, F b → F b ∧ (w.heap.push (.cells c e))[b]? = w.heap[b]? := fun b hb => ⟨hb, hold b (C.Flt b hb)⟩
  refine ⟨β', hβ, by simp [β'], ?_⟩
  refine { reps := Reps.mono hF _ hβ C.reps, defers := C.defers, F0F := C.F0F, Fsrc := C.Fsrc, Flt := fun b hb => ?_, keep := fun b hb => ?_, size := ?_, os := C.os, tp := C.tp, out := C.out,
           frz := fun b c' e' fr hb hc => ?_, gen := fun k' v' x h => ?_, own := fun k' v' o ho => ?_, inj := fun k1 v1 k2 v2 o1 o2 b c1 c2 h1 h2 d1 d2 e1 e2 => ?_ }
  · have := C.Flt b hb; simp; omega
  · rw [hold b (Nat.lt_of_lt_of_le hb C.size)]; exact C.keep b hb
  · have := C.size; simp; omega
  · simp only [Array.getElem?_push] at hc
    split at hc
    · simp at hc; exact hc.2.2.symm
    · exact C.frz b c' e' fr hb hc
  · simp only [S.eff, Tab.upd]
    simp only [β'] at h
    split at h
    · rename_i hkv; right; simp [hkv.1, hkv.2]
    · rcases C.gen _ _ _ h with h | ⟨hv, h⟩
      · exact .inl h
      · right
        refine ⟨hv, ?_⟩
        repeat' first
          | rfl
          | exact h
          | split
  · simp only [S.eff, Tab.upd] at ho
    have old : σ.tab k' v' = some o → OwnOK W0 F (w.heap.push (.cells c e)) β' k' v' o := fun ho =>
      OwnOK.mono hF hβ (fun b _ _ _ hnF hlt => ⟨hnF, hold b hlt⟩) (C.own k' v' o ho)
    split at ho
    · split at ho
      · rename_i hk hv; subst hk; subst hv
        simp only [Option.some.injEq] at ho; subst ho
        refine ⟨w.heap.size, 0, c, e, by simp [β'], fun h => Nat.lt_irrefl _ (C.Flt _ h), C.size, by simp, Reps.mono hF _ hβ hr⟩
      · exact old ho
    · exact old ho
  · simp only [S.eff, Tab.upd] at h1 h2
    have lt : ∀ {k v o b c}, σ.tab k v = some o → o ≠ .dead → β k v = some (some b, c) → b < w.heap.size := by
      intro k v o b c ht hd hb
      have := C.own k v o ht
      cases o with
      | dead => exact absurd rfl hd
      | box cs => obtain ⟨b', _, c', e', g1, _, _, g4, _⟩ := this
                  rw [hb] at g1; simp only [Option.some.injEq, Prod.mk.injEq] at g1; rw [g1.1]; exact (Array.getElem?_eq_some_iff.1 g4).1
      | arr s n f => obtain ⟨x, _, g1, _, g3⟩ := this
                     rw [hb] at g1; simp only [Option.some.injEq, Prod.mk.injEq] at g1
                     obtain ⟨_, _, c', e', g4, _⟩ := g3 b g1.1.symm
                     exact (Array.getElem?_eq_some_iff.1 g4).1
    by_cases q1 : k1 = k ∧ v1 = σ.gen
    · by_cases q2 : k2 = k ∧ v2 = σ.gen
      · exact ⟨q1.1.trans q2.1.symm, q1.2.trans q2.2.symm⟩
      · exfalso
        simp only [β', if_pos q1, if_neg q2] at e1 e2
        have h2' : σ.tab k2 v2 = some o2 := by
          split at h2
          · rename_i hk; split at h2
            · rename_i hv; exact absurd ⟨hk, hv⟩ q2
            · exact h2
          · exact h2
        have := lt h2' d2 e2
        simp only [Option.some.injEq, Prod.mk.injEq] at e1
        omega
    · have h1' : σ.tab k1 v1 = some o1 := by
        split at h1
        · rename_i hk; split at h1
          · rename_i hv; exact absurd ⟨hk, hv⟩ q1
          · exact h1
        · exact h1
      simp only [β', if_neg q1] at e1
      have l1 := lt h1' d1 e1
      by_cases q2 : k2 = k ∧ v2 = σ.gen
      · exfalso
        simp only [β', if_pos q2, Option.some.injEq, Prod.mk.injEq] at e2
        omega
      · have h2' : σ.tab k2 v2 = some o2 := by
          split at h2
          · rename_i hk; split at h2
            · rename_i hv; exact absurd ⟨hk, hv⟩ q2
            · exact h2
          · exact h2
        simp only [β', if_neg q2] at e2
        exact C.inj _ _ _ _ _ _ _ _ _ h1' h2' d1 d2 e1 e2

theorem Cpl.setBox {k u b cap : Nat} {cs : List D} {c c' : Array Value} {e : TypeId} (C : Cpl W0 F0 F β σ a w) (ht : σ.tab k u ≠ none) (ht' : σ.tab k u ≠ some .dead) (hβ : β k u = some (some b, cap))
    (hnF : ¬ F b) (hW : W0.heap.size ≤ b) (hb : w.heap[b]? = some (.cells c e (0, 0))) (hr : Reps F w.heap β cs c'.toList) :
    Cpl W0 F0 F β (σ.eff (.set k u (.box cs))) a (w.setRow b c') := by
  have hne : ∀ b', b' ≠ b → (w.setRow b c').heap[b']? = w.heap[b']? := fun b' h => setRow_other w b b' c' h
  have hsz : (w.setRow b c').heap.size = w.heap.size := by simp [World.setRow]
  have hF : ∀ b', F b' → F b' ∧ (w.setRow b c').heap[b']? = w.heap[b']? := fun b' h => ⟨h, hne b' fun e => hnF (e ▸ h)⟩
  refine { reps := Reps.mono hF _ (fun _ _ _ h => h) C.reps, defers := C.defers, F0F := C.F0F, Fsrc := C.Fsrc, Flt := fun b' h => by rw [hsz]; exact C.Flt b' h, keep := fun b' h => ?_,
           size := by rw [hsz]; exact C.size, os := C.os, tp := C.tp, out := C.out, frz := fun b' x e' fr h1 h2 => ?_, gen := fun k' v' x h => ?_, own := fun k' v' o ho => ?_, inj := fun k1 v1 k2 v2 o1 o2 b' c1 c2 h1 h2 d1 d2 e1 e2 => ?_ }
  · rw [hne b' (by omega)]; exact C.keep b' h
  · by_cases hbb : b' = b
    · subst hbb
      rw [setRow_heap w b' c c' e (0, 0) hb] at h2
      simp at h2; exact h2.2.2.symm
    · rw [hne b' hbb] at h2; exact C.frz b' x e' fr h1 h2
  · rcases C.gen _ _ _ h with h | ⟨hv, h⟩
    · exact .inl h
    · right
      refine ⟨hv, ?_⟩
      simp only [S.eff, Tab.upd]
      split
      · split
        · rfl
        · exact h
      · exact h
  · simp only [S.eff, Tab.upd] at ho
    have old : ¬ (k' = k ∧ v' = u) → σ.tab k' v' = some o → OwnOK W0 F (w.setRow b c').heap β k' v' o := fun hkv ho => by
      refine OwnOK.mono hF (fun _ _ _ h => h) (fun b' c'' hd hb' hn hlt => ⟨hn, hne b' fun hbb => ?_⟩) (C.own k' v' o ho)
      subst hbb
      obtain ⟨o', ho'⟩ := Option.ne_none_iff_exists'.1 ht
      exact hkv (C.inj _ _ _ _ _ _ _ _ _ ho ho' hd (fun h => ht' (by rw [ho', h])) hb' hβ)
    split at ho
    · split at ho
      · rename_i hk hv; subst hk; subst hv
        simp only [Option.some.injEq] at ho; subst ho
        exact ⟨b, cap, c', e, hβ, hnF, hW, setRow_heap w b c c' e (0, 0) hb, Reps.mono hF _ (fun _ _ _ h => h) hr⟩
      · rename_i hv; exact old (fun h => hv h.2) ho
    · rename_i hk; exact old (fun h => hk h.1) ho
  · simp only [S.eff, Tab.upd] at h1 h2
    obtain ⟨o', ho'⟩ := Option.ne_none_iff_exists'.1 ht
    have ho'd : o' ≠ .dead := fun h => ht' (by rw [ho', h])
    have get : ∀ {k' v' o}, (if k' = k then (if v' = u then some (OO.box cs) else σ.tab k' v') else σ.tab k' v') = some o → o ≠ .dead → ∃ o2, σ.tab k' v' = some o2 ∧ o2 ≠ .dead := by
      intro k' v' o h hd
      split at h
      · split at h
        · rename_i hk hv; subst hk; subst hv; exact ⟨o', ho', ho'd⟩
        · exact ⟨o, h, hd⟩
      · exact ⟨o, h, hd⟩
    obtain ⟨p1, q1, r1⟩ := get h1 d1
    obtain ⟨p2, q2, r2⟩ := get h2 d2
    exact C.inj _ _ _ _ _ _ _ _ _ q1 q2 r1 r2 e1 e2

theorem ya_sound {o : Oper} {i : Nat} {d : D} {t : TE} {Q : Exit → Act → World → Prop} {K : Act → World → Prop} (hΓ : Γ.ok P) (C : Cpl W0 F0 F β σ a w) (hi : ops[i]? = some o) (Y : YA P Γ m base ops o σ d t)
    (hK : ∀ F' β' a' w', Cpl W0 F0 F' β' ((σ.eff t).put o.dst d) a' w' → K a' w') : wpOp P ops Q i K a w := by
  have valcase : ∀ {g : Bool} {d0 : D}, gdD ops o σ.ts = some g → t = .none → d = mkwhn o.guard g d0 → (g = true → ∃ v, (execOp a.eval o).run P w = .ok (.value v) w ∧ Rep F w.heap β d0 v) → wpOp P ops Q i K a w := by
    intro g d0 hg ht hd h
    have hw := gdD_sound C.reps hg
    unfold wpOp
    simp only [hi, hw]
    cases g with
    | true =>
      obtain ⟨v, hv, rv⟩ := h rfl
      simp only [if_true]
      refine .inl ?_
      unfold Oper.wp
      rw [hv]
      simp only [Oper.upon]
      refine hK F β _ _ ?_
      subst ht
      refine C.put o.dst ?_
      rw [hd]; unfold mkwhn
      split
      · exact rv
      · simp only [Rep]; exact ⟨fun _ => rv, by simp⟩
    | false =>
      simp only [Bool.false_eq_true, if_false]
      refine hK F β _ _ ?_
      subst ht
      refine C.put o.dst ?_
      rw [hd]; unfold mkwhn
      split
      · rename_i h0; unfold gdD at hg; rw [h0] at hg; simp at hg
      · simp only [Rep]; exact ⟨by simp, by simp⟩
  cases Y with
  | @pick g c x y b d0 hg ho hc hd h =>
    refine valcase hg rfl rfl fun hgt => ?_
    subst hgt
    have rc := rep_strip rfl h.1 (rep_opd C.reps c)
    rw [hc] at rc; simp only [Rep] at rc
    refine ⟨if b then a.eval x else a.eval y, ?_, pickD_sound hd (fun hb => rep_strip rfl (by simpa [hb] using h.2.1) (rep_opd C.reps x)) (fun hb => rep_strip rfl (by simpa [hb] using h.2.2) (rep_opd C.reps y))⟩
    unfold execOp
    simp only [ho, rc, asBool, Sem.run_bind, Sem.run_pure, Result.andThen_ok]
  | @val g r hg hcl h hs hob he =>
    refine valcase hg rfl rfl fun hgt => ?_
    have := aval_sound (P := P) (W0 := W0) (F0 := F0) (F := F) (β := β) (a := a) (w := w) (ρv := a.eval) hΓ C (fun x hx => rep_strip hgt (sconds_mem hs x (by simpa using hx)) (rep_opd C.reps x)) h (hob hgt)
    unfold Does at this
    rw [he] at this
    exact this
  | @new r oo hg hcl h hs hob he hn =>
    have hw := gdD_sound (ops := ops) (g := true) C.reps (by unfold gdD; rw [hg])
    have := aval_sound (P := P) (W0 := W0) (F0 := F0) (F := F) (β := β) (a := a) (w := w) (ρv := a.eval) hΓ C (fun x hx => rep_strip rfl (sconds_mem hs x (by simpa using hx)) (rep_opd C.reps x)) h hob
    unfold Does at this
    rw [he] at this
    obtain ⟨c, e, v, hrun, hoo⟩ := this
    unfold wpOp
    simp only [hi, hw, if_true]
    refine .inl ?_
    unfold Oper.wp
    rw [hrun]
    simp only [Oper.upon]
    cases oo with
    | box cs =>
      obtain ⟨h1, h2, h3⟩ := hoo
      obtain ⟨β', hβ, hβk, C'⟩ := Cpl.newBox (e := e) C hn h3
      refine hK F β' _ _ (C'.put o.dst ?_)
      rw [h1, h2]; simp only [Rep]; exact ⟨_, _, hβk, rfl⟩
    | arr s n f => exact hoo.elim
    | dead => exact hoo.elim
  | @set r k v oo hg hcl h hs hob he =>
    have hw := gdD_sound (ops := ops) (g := true) C.reps (by unfold gdD; rw [hg])
    have := aval_sound (P := P) (W0 := W0) (F0 := F0) (F := F) (β := β) (a := a) (w := w) (ρv := a.eval) hΓ C (fun x hx => rep_strip rfl (sconds_mem hs x (by simpa using hx)) (rep_opd C.reps x)) h hob
    unfold Does at this
    rw [he] at this
    obtain ⟨b, cap, c, e, c', h1, h2, h3, h4, h5, h6, hrun, hoo⟩ := this
    unfold wpOp
    simp only [hi, hw, if_true]
    refine .inl ?_
    unfold Oper.wp
    rw [hrun]
    simp only [Oper.upon]
    cases oo with
    | box cs => exact hK F β _ _ ((Cpl.setBox C h1 h2 h3 h4 h5 h6 hoo).put o.dst (by simp only [Rep]))
    | arr s n f => exact hoo.elim
    | dead => exact hoo.elim
  | @call g f args tys r hg ho h =>
    have hw := gdD_sound C.reps hg
    unfold callD at h
    simp only at h
    split at h
    · rename_i fid fs cs hf
      obtain ⟨hs, hp, hpc⟩ := h
      unfold wpOp
      simp only [hi, hw]
      cases g with
      | false =>
        simp only [Bool.false_eq_true, if_false]
        refine hK F β _ _ (C.put o.dst ?_)
        unfold mkwhn
        split
        · rename_i h0; unfold gdD at hg; rw [h0] at hg; simp at hg
        · simp only [Rep]; exact ⟨by simp, by simp⟩
      | true =>
        simp only [if_true]
        refine .inl ?_
        obtain ⟨hent, hpr, hcall⟩ := hpc rfl
        have rf := rep_strip rfl (sconds_mem hs f (by simp [Call.operands])) (rep_opd C.reps f)
        rw [hf] at rf; simp only [Rep] at rf
        obtain ⟨vf, vc, hfv, rf1, rf2⟩ := rf
        have ra : Reps F w.heap β (args.toList.map fun x => strip (opd σ.ts x)) (args.toList.map a.eval) :=
          Reps.map _ fun x hx => rep_strip rfl (sconds_mem hs x (by simp [Call.operands]; exact .inr (by simpa using hx))) (rep_opd C.reps x)
        have app : ∀ {d1 d2 : List D} {v1 v2 : List Value}, Reps F w.heap β d1 v1 → Reps F w.heap β d2 v2 → Reps F w.heap β (d1 ++ d2) (v1 ++ v2) := by
          intro d1
          induction d1 with
          | nil => intro d2 v1 v2 h1 h2; simp only [Reps] at h1; subst h1; simpa using h2
          | cons d ds ih =>
            intro d2 v1 v2 h1 h2
            simp only [Reps] at h1
            obtain ⟨v, vs', rfl, r1, r2⟩ := h1
            simp only [List.cons_append, Reps]
            exact ⟨v, vs' ++ v2, rfl, r1, ih r2 h2⟩
        have rall := Reps.rebeta (β' := Beta.none) _ hp (app (app rf1 ra) rf2)
        have hC := hcall w F _ C.Flt rall
        have hrun : (execOp a.eval o).run P w = .ok (.enter fid (vf ++ args.toList.map a.eval ++ vc).toArray) w := by
          unfold execOp
          have e1 : (vf.toArray ++ args.map a.eval ++ vc.toArray) = (vf ++ args.toList.map a.eval ++ vc).toArray := by
            apply Array.ext'; simp
          simp only [ho, resolve, hfv, Deferred.ofValue, Sem.run_bind, Sem.run_pure, Result.andThen_ok, invoke, e1, hent.run]
        unfold Oper.wp
        rw [hrun]
        simp only [Oper.upon]
        refine hC.mono fun e w' ⟨v, F', he, hE, hr⟩ => ?_
        subst he
        refine hK F' β _ _ (Cpl.put (Cpl.call C hE) o.dst ?_)
        have hr' : Rep F' w'.heap β r v := Rep.rebeta r hpr hr
        unfold mkwhn
        split
        · exact hr'
        · simp only [Rep]; exact ⟨fun _ => hr', by simp⟩
    · exact h.elim
end
end Go.Eng
namespace Go.Eng
set_option linter.unusedVariables false
set_option linter.unusedSimpArgs false

inductive Kd | pure | read | new | write
def kindOf : Op → Kd
  | .load .. => .read
  | .store .. => .write
  | .box .. | .alloc .. => .new
  | _ => .pure
def kComm (oi oj : Oper) : Bool :=
  match kindOf oi.op, kindOf oj.op with
  | .pure, _ => true
  | _, .pure => true
  | .read, .read => true
  | .read, .new => true
  | .new, .new => oi.dst.isSome && oj.dst.isSome
  | _, _ => false

section
variable {P : Program} {Γ : Ctx} {m : Bool} {base : Nat} {ops : Array Oper}

theorem aval_congr {tab : Tab} {nm gen : Nat} {ρ ρ' : Operand → D} {op : Op} (h : ∀ x ∈ op.operands, ρ x = ρ' x) : aval Γ m tab nm gen ρ op = aval Γ m tab nm gen ρ' op := by
  cases op <;> simp only [Op.operands] at h <;> simp only [aval]
  case build t ps =>
    have : (ps.toList.map fun p => (p.1, ρ p.2)) = (ps.toList.map fun p => (p.1, ρ' p.2)) := List.map_congr_left fun p hp => by
      rw [h p.2 (by simp; exact ⟨p.1, by simpa using hp⟩)]
    rw [this]
  case makeFunc fn fs cs =>
    rw [List.map_congr_left (l := fs.toList) fun x hx => h x (by simp; left; simpa using hx), List.map_congr_left (l := cs.toList) fun x hx => h x (by simp; right; simpa using hx)]
  case call c =>
    split
    · split
      · rename_i x t hargs htys
        have e1 : c.args = #[x] := by apply Array.ext'; simpa using hargs
        rw [h x (by simp [Call.operands, e1])]
      · rfl
    · rfl
  all_goals (first | rfl | (simp_all; done))

theorem aval_tab {tab tab' : Tab} {nm gen : Nat} {ρ : Operand → D} {op : Op} (h : kindOf op = .pure ∨ kindOf op = .new) : aval Γ m tab nm gen ρ op = aval Γ m tab' nm gen ρ op := by
  cases op <;> simp only [kindOf, reduceCtorEq, or_self, or_false, false_or] at h <;> simp only [aval]

theorem opt_none {p : Option AR} {r : AR} (h : p = some r) (hn : ∀ r, p = some r → r.eff = .none) : r.eff = .none := hn r h
theorem okR_eff {d : D} {r : AR} (h : okR d = some r) : r.eff = .none := (okR_some h).1
theorem valR_eff {v : Value} {r : AR} (h : valR v = some r) : r.eff = .none := (valR_sound h).1
theorem intRes_eff {m k n} {r : AR} (h : intRes m k n = some r) : r.eff = .none := by
  unfold intRes at h
  split at h
  · simp only [Option.some.injEq] at h; subst h; rfl
  · exact valR_eff h
theorem binI_eff {m op k a b} {r : AR} (h : binI m op k a b = some r) : r.eff = .none := by
  cases op <;> simp only [binI, cmpI] at h
  case quo =>
    cases hq : intRes m k (a.tdiv b) with
    | none => simp [hq, AR.and] at h
    | some q => simp only [hq, AR.and, Option.some.injEq] at h; subst h; exact intRes_eff (r := q) hq
  all_goals first
    | exact intRes_eff h
    | exact valR_eff h
    | (simp only [Option.some.injEq] at h; subst h; rfl)
theorem binD_eff {t op x y} {r : AR} (h : binD Γ m op t x y = some r) : r.eff = .none := by
  unfold binD at h
  split at h
  · split at h
    · exact binI_eff h
    · split at h
      · exact binI_eff h
      · simp at h
  · cases op <;> simp only [strRes, reduceCtorEq] at h <;> first | exact valR_eff h | (simp only [Option.some.injEq] at h; subst h; rfl)
  · split at h
    · split at h
      · split at h <;> first | exact valR_eff h | simp at h
      · simp at h
    · simp at h
  · simp at h
theorem aval_pure_eff {tab : Tab} {nm gen : Nat} {ρ : Operand → D} {op : Op} {r : AR} (hk : kindOf op = .pure) (h : aval Γ m tab nm gen ρ op = some r) : r.eff = .none := by
  cases op <;> simp only [kindOf, reduceCtorEq] at hk <;> simp only [aval, reduceCtorEq] at h
  case move | assign | makeFunc => exact okR_eff h
  case binOp => exact binD_eff h
  case unOp =>
    unfold unD at h
    split at h
    · exact valR_eff h
    · exact intRes_eff h
    · simp at h
  all_goals
    (try unfold buildD at h)
    (try unfold fieldAddrD at h)
    (try unfold fieldD at h)
    (try unfold indexAddrD at h)
    (try unfold indexD at h)
    (try unfold convD at h)
    (try unfold lenD at h)
    repeat' first
      | exact okR_eff h
      | exact valR_eff h
      | exact intRes_eff h
      | (simp only [reduceCtorEq] at h; done)
      | (simp only [Option.some.injEq] at h; subst h; rfl)
      | split at h
theorem load_eff {ti : TI} {tab : Tab} {x : D} {r : AR} (h : loadD ti tab x = some r) : r.eff = .none := by
  unfold loadD at h
  repeat' first
    | exact okR_eff h
    | (simp only [reduceCtorEq] at h; done)
    | split at h
theorem loadD_upd {ti : TI} {tab : Tab} {k g : Nat} {oo : OO} {x : D} {r : AR} (hn : tab k g = none) (h : loadD ti tab x = some r) : loadD ti (tab.upd k g oo) x = some r := by
  unfold loadD at h ⊢
  split at h
  · rename_i k' v off
    split at h
    · rename_i cs hcs
      have : (tab.upd k g oo) k' v = some (.box cs) := by
        unfold Tab.upd
        split
        · split
          · rename_i h1 h2; subst h1; subst h2; rw [hn] at hcs; cases hcs
          · exact hcs
        · exact hcs
      simp only [this]
      exact h
    · simp at h
  · exact h
  · simp at h

structure Agree (ops : Array Oper) (o : Oper) (ts ts' : List D) : Prop where
  opr : ∀ x ∈ o.op.operands, opd ts x = opd ts' x
  gd : gdD ops o ts = gdD ops o ts'

theorem opd_set {ts : List D} {t : Nat} {d : D} {x : Operand} (h : x ≠ .tmp t) : opd (ts.set t d) x = opd ts x := by
  cases x with
  | tmp t' =>
    have : t ≠ t' := fun e => h (by rw [e])
    simp [opd, List.getD, List.getElem?_set, this]
  | _ => rfl
theorem agree_put {σ : S} {o : Oper} {dst : Option Tmp} {d : D} (h : ∀ t, dst = some t → t ∉ o.looksAt ops) : Agree ops o (σ.put dst d).ts σ.ts := by
  cases dst with
  | none => exact ⟨fun _ _ => rfl, rfl⟩
  | some t =>
    have ht := h t rfl
    refine ⟨fun x hx => opd_set fun e => ht ?_, ?_⟩
    · subst e
      exact List.mem_append_left _ (List.mem_filterMap.2 ⟨.tmp t, by simpa using hx, rfl⟩)
    · unfold gdD
      cases hg : o.guard with
      | none => rfl
      | some jw =>
        obtain ⟨j, want⟩ := jw
        cases hj : (ops[j]?).bind (·.dst) with
        | none => simp only [hj]
        | some t' =>
          have hne : t ≠ t' := fun e => ht (by subst e; simp [Oper.looksAt, hg, hj])
          have : (σ.put (some t) d).ts.getD t' .any = σ.ts.getD t' .any := by
            simp [S.put, List.getD, List.getElem?_set, hne]
          simp only [hj, this]

theorem sconds_congr {g : Bool} {ts ts' : List D} : ∀ {l : List Operand}, (∀ x ∈ l, opd ts x = opd ts' x) → sconds g ts l → sconds g ts' l
  | [], _, _ => trivial
  | x :: l, h, hs => ⟨by rw [← h x (by simp)]; exact hs.1, sconds_congr (fun y hy => h y (by simp [hy])) hs.2⟩

theorem YA.ts {o : Oper} {σ σ' : S} {d : D} {t : TE} (A : Agree ops o σ.ts σ'.ts) (ht : σ'.tab = σ.tab) (hgn : σ'.gen = σ.gen) (Y : YA P Γ m base ops o σ d t) : YA P Γ m base ops o σ' d t := by
  have hav : aval Γ m σ'.tab (nmOf base o) σ'.gen (fun x => strip (opd σ'.ts x)) o.op = aval Γ m σ.tab (nmOf base o) σ.gen (fun x => strip (opd σ.ts x)) o.op := by
    rw [ht, hgn]; exact aval_congr fun x hx => by rw [A.opr x hx]
  cases Y with
  | pick hg ho hc hd h =>
    have ha := A.opr
    rw [ho] at ha; simp only [Op.operands] at ha
    rename_i g c x y b d0
    have h1 := ha c (by simp)
    have h2 := ha x (by simp)
    have h3 := ha y (by simp)
    exact .pick (by rw [← A.gd]; exact hg) ho (by rw [← h1]; exact hc) (by rw [← h2, ← h3]; exact hd) (by rw [← h1, ← h2, ← h3]; exact h)
  | call hg ho h =>
    rename_i g f args tys r
    have ha := A.opr
    rw [ho] at ha; simp only [Op.operands] at ha
    refine .call (by rw [← A.gd]; exact hg) ho ?_
    unfold callD at h ⊢
    simp only at h ⊢
    have hf := ha f (by simp [Call.operands])
    have hm : (args.toList.map fun x => strip (opd σ'.ts x)) = (args.toList.map fun x => strip (opd σ.ts x)) :=
      List.map_congr_left fun x hx => by rw [ha x (by simp [Call.operands]; exact .inr (by simpa using hx))]
    rw [← hf, hm]
    split at h
    · exact ⟨sconds_congr (fun x hx => ha x (by simpa using hx)) h.1, h.2⟩
    · exact h
  | val hg hcl h hs hob he => exact .val (by rw [← A.gd]; exact hg) hcl (by rw [hav]; exact h) (sconds_congr (fun x hx => A.opr x (by simpa using hx)) hs) hob he
  | new hg hcl h hs hob he hn =>
    have := YA.new (P := P) (Γ := Γ) (m := m) (base := base) (ops := ops) (σ := σ') hg hcl (by rw [hav]; exact h) (sconds_congr (fun x hx => A.opr x (by simpa using hx)) hs) hob he (by rw [ht, hgn]; exact hn)
    exact this
  | set hg hcl h hs hob he => exact .set hg hcl (by rw [hav]; exact h) (sconds_congr (fun x hx => A.opr x (by simpa using hx)) hs) hob he

theorem YA.pureKind {o : Oper} {σ : S} {d : D} {t : TE} (hk : kindOf o.op = .pure) (Y : YA P Γ m base ops o σ d t) : t = .none ∧ ∀ tab', YA P Γ m base ops o { σ with tab := tab' } d .none := by
  cases Y with
  | pick hg ho hc hd h => exact ⟨rfl, fun tab' => .pick hg ho hc hd h⟩
  | call hg ho h => exact ⟨rfl, fun tab' => .call hg ho h⟩
  | val hg hcl h hs hob he => exact ⟨rfl, fun tab' => .val hg hcl (by rw [← h]; exact aval_tab (.inl hk)) hs hob he⟩
  | new hg hcl h hs hob he hn => have := aval_pure_eff hk h; rw [he] at this; cases this
  | set hg hcl h hs hob he => have := aval_pure_eff hk h; rw [he] at this; cases this
theorem YA.readKind {o : Oper} {σ : S} {d : D} {t : TE} (hk : kindOf o.op = .read) (Y : YA P Γ m base ops o σ d t) :
    t = .none ∧ ∀ k oo, σ.tab k σ.gen = none → YA P Γ m base ops o { σ with tab := σ.tab.upd k σ.gen oo } d .none := by
  have hop : ∃ t a, o.op = .load t a := by cases h : o.op <;> simp [kindOf, h] at hk; exact ⟨_, _, rfl⟩
  obtain ⟨ty, ad, hop⟩ := hop
  cases Y with
  | pick hg ho hc hd h => rw [hop] at ho; cases ho
  | call hg ho h => rw [hop] at ho; cases ho
  | val hg hcl h hs hob he =>
    refine ⟨rfl, fun k oo hn => .val hg hcl ?_ hs hob he⟩
    rw [hop] at h ⊢
    simp only [aval] at h ⊢
    split at h
    · exact loadD_upd hn h
    · simp at h
  | new hg hcl h hs hob he hn =>
    rw [hop] at h; simp only [aval] at h
    split at h
    · have := load_eff h; rw [he] at this; cases this
    · simp at h
  | set hg hcl h hs hob he =>
    rw [hop] at h; simp only [aval] at h
    split at h
    · have := load_eff h; rw [he] at this; cases this
    · simp at h
theorem newBox_eff {nm gen : Nat} {d : D} {r : AR} (h : newBox nm gen d = some r) : ∃ oo, r.eff = .new oo := by
  unfold newBox at h
  split at h
  · simp only [Option.some.injEq] at h; subst h; exact ⟨_, rfl⟩
  · simp at h
theorem YA.newKind {o : Oper} {σ : S} {d : D} {t : TE} (hk : kindOf o.op = .new) (Y : YA P Γ m base ops o σ d t) :
    ∃ oo, t = .new (nmOf base o) oo ∧ σ.tab (nmOf base o) σ.gen = none ∧ ∀ tab' : Tab, tab' (nmOf base o) σ.gen = none → YA P Γ m base ops o { σ with tab := tab' } d t := by
  have eff : ∀ {tab nm gen ρ} {r : AR}, aval Γ m tab nm gen ρ o.op = some r → ∃ oo, r.eff = .new oo := by
    intro tab nm gen ρ r h
    cases hop : o.op <;> simp [kindOf, hop] at hk <;> rw [hop] at h <;> simp only [aval] at h
    · split at h
      · exact newBox_eff h
      · simp at h
    · exact newBox_eff h
  cases Y with
  | pick hg ho hc hd h => rw [ho] at hk; simp [kindOf] at hk
  | call hg ho h => rw [ho] at hk; simp [kindOf] at hk
  | val hg hcl h hs hob he => obtain ⟨oo, h'⟩ := eff h; rw [he] at h'; cases h'
  | new hg hcl h hs hob he hn =>
    exact ⟨_, rfl, hn, fun tab' hn' => .new hg hcl (by rw [← h]; exact aval_tab (.inr hk)) hs hob he hn'⟩
  | set hg hcl h hs hob he => obtain ⟨oo, h'⟩ := eff h; rw [he] at h'; cases h'

theorem eff_put (σ : S) (t : TE) (dst : Option Tmp) (d : D) : (σ.put dst d).eff t = (σ.eff t).put dst d := by
  cases t <;> cases dst <;> rfl
theorem put_comm (σ : S) {x y : Option Tmp} (d e : D) (h : ∀ t, x = some t → y ≠ some t) : (σ.put x d).put y e = (σ.put y e).put x d := by
  cases x with
  | none => rfl
  | some t =>
    cases y with
    | none => rfl
    | some u =>
      have hne : t ≠ u := fun he => h t rfl (he ▸ rfl)
      simp [S.put, List.set_comm _ _ hne]

theorem comm {oi oj : Oper} {σ : S} {d1 d2 : D} {t1 t2 : TE} (hap : oi.apart ops oj = true) (hk : kComm oi oj = true)
    (Y1 : YA P Γ m base ops oi σ d1 t1) (Y2 : YA P Γ m base ops oj ((σ.eff t1).put oi.dst d1) d2 t2) :
    YA P Γ m base ops oj σ d2 t2 ∧ YA P Γ m base ops oi ((σ.eff t2).put oj.dst d2) d1 t1 ∧
      (((σ.eff t1).put oi.dst d1).eff t2).put oj.dst d2 = (((σ.eff t2).put oj.dst d2).eff t1).put oi.dst d1 := by
  obtain ⟨h1, h2, h3⟩ := Oper.apart_spec hap
  have A1 : ∀ σ : S, Agree ops oj (σ.put oi.dst d1).ts σ.ts := fun σ => agree_put h1
  have A2 : ∀ σ : S, Agree ops oi σ.ts (σ.put oj.dst d2).ts := fun σ => by
    have := agree_put (ops := ops) (σ := σ) (o := oi) (dst := oj.dst) (d := d2) h3
    exact ⟨fun x hx => (this.opr x hx).symm, this.gd.symm⟩
  have Y2' : YA P Γ m base ops oj (σ.eff t1) d2 t2 := Y2.ts (by simpa using A1 (σ.eff t1)) (by cases hd : oi.dst <;> rfl) (by cases hd : oi.dst <;> rfl)
  have fin : ∀ {X : S}, YA P Γ m base ops oi X d1 t1 → YA P Γ m base ops oi (X.put oj.dst d2) d1 t1 := fun {X} Y => Y.ts (A2 X) (by cases hd : oj.dst <;> rfl) (by cases hd : oj.dst <;> rfl)
  have effts : ∀ t, (σ.eff t).ts = σ.ts := fun t => by cases t <;> rfl
  have effgen : ∀ t, (σ.eff t).gen = σ.gen := fun t => by cases t <;> rfl
  have swap : (σ.eff t1).eff t2 = (σ.eff t2).eff t1 → (((σ.eff t1).put oi.dst d1).eff t2).put oj.dst d2 = (((σ.eff t2).put oj.dst d2).eff t1).put oi.dst d1 := by
    intro he
    rw [eff_put, eff_put, he, put_comm _ _ _ h2]
  unfold kComm at hk
  split at hk
  · -- i pure
    rename_i hki
    obtain ⟨rfl, hp⟩ := Y1.pureKind hki
    refine ⟨Y2', fin ?_, swap rfl⟩
    have := hp (σ.eff t2).tab
    exact YA.ts (σ := { σ with tab := (σ.eff t2).tab }) (σ' := σ.eff t2) ⟨fun _ _ => by rw [effts], by rw [effts]⟩ rfl (effgen t2) this
  · -- j pure
    rename_i hkj _
    obtain ⟨rfl, hp⟩ := Y2'.pureKind hkj
    refine ⟨?_, fin Y1, swap rfl⟩
    have := hp σ.tab
    exact YA.ts (σ := { σ.eff t1 with tab := σ.tab }) (σ' := σ) ⟨fun _ _ => by simp only [effts], by simp only [effts]⟩ rfl (by simp only [effgen]) this
  · rename_i hki hkj
    obtain ⟨rfl, _⟩ := Y1.readKind hki
    obtain ⟨rfl, _⟩ := Y2'.readKind hkj
    exact ⟨Y2', fin Y1, swap rfl⟩
  · rename_i hki hkj
    obtain ⟨rfl, hr⟩ := Y1.readKind hki
    obtain ⟨oo, rfl, hn, _⟩ := Y2'.newKind hkj
    exact ⟨Y2', fin (hr _ oo hn), swap rfl⟩
  · rename_i hki hkj
    obtain ⟨o1, rfl, hn1, hi1⟩ := Y1.newKind hki
    obtain ⟨o2, rfl, hn2, hi2⟩ := Y2'.newKind hkj
    simp only [Bool.and_eq_true, Option.isSome_iff_exists] at hk
    obtain ⟨⟨x, hx⟩, ⟨y, hy⟩⟩ := hk
    have hne : nmOf base oi ≠ nmOf base oj := by
      intro e
      have : x = y := by simp [nmOf, hx, hy] at e; exact e
      exact h2 x hx (by rw [hy, this])
    have hn2' : σ.tab (nmOf base oj) σ.gen = none := by
      simp only [S.eff, Tab.upd] at hn2
      rw [if_neg (Ne.symm hne)] at hn2
      exact hn2
    refine ⟨?_, fin ?_, swap ?_⟩
    · exact (hi2 σ.tab hn2').ts ⟨fun _ _ => rfl, rfl⟩ rfl rfl
    · exact (hi1 (σ.tab.upd (nmOf base oj) σ.gen o2) (by simp only [Tab.upd]; rw [if_neg hne]; exact hn1)).ts ⟨fun _ _ => rfl, rfl⟩ rfl rfl
    · simp only [S.eff, S.mk.injEq, true_and, and_true]
      funext k v
      simp only [Tab.upd]
      by_cases e1 : k = nmOf base oi
      · have : k ≠ nmOf base oj := fun e => hne (e1.symm.trans e)
        simp [e1, this, hne]
      · simp [e1]
  · simp at hk
end
end Go.Eng
namespace Go.Eng
set_option linter.unusedVariables false
set_option linter.unusedSimpArgs false

def blk (ops : Array Oper) : Nat → Nat → Nat → Bool
  | 0, _, _ => false
  | f + 1, i, j => match ops[j]? with
    | none => false
    | some o => o.after.any fun e => Region.binds .any e && (e.on == i || (decide (i < e.on) && blk ops f i e.on))
def lexOK (ops : Array Oper) : Bool :=
  (List.range ops.size).all fun i => match ops[i]? with
    | none => false
    | some oi => (oi.after.all fun e => !Region.binds .any e || decide (e.on < i)) &&
      (List.range ops.size).all fun j => decide (j ≤ i) || blk ops ops.size i j || (match ops[j]? with
        | some oj => oi.apart ops oj && kComm oi oj
        | none => true)

def vcOps (P : Program) (Γ : Ctx) (m : Bool) (base : Nat) (ops : Array Oper) : List Oper → S → (S → Prop) → Prop
  | [], σ, K => K σ
  | o :: l, σ, K => vcOp P Γ m base ops o σ fun σ' => vcOps P Γ m base ops l σ' K

section
variable {P : Program} {Γ : Ctx} {m : Bool} {base : Nat} {ops : Array Oper}

def St (P : Program) (Γ : Ctx) (m : Bool) (base : Nat) (ops : Array Oper) (i : Nat) (σ σ' : S) : Prop :=
  ∃ o, ops[i]? = some o ∧ ∃ d t, YA P Γ m base ops o σ d t ∧ σ' = (σ.eff t).put o.dst d

def anyA (P : Program) (Γ : Ctx) (m : Bool) (base : Nat) (ops : Array Oper) (Q : S → Prop) : Nat → Array Bool → S → Prop
  | 0, listed, σ => Region.ready .any ops listed = [] ∧ Q σ
  | fuel + 1, listed, σ => (Region.ready .any ops listed = [] → Q σ) ∧
    ∀ i ∈ Region.ready .any ops listed, ∃ σ', St P Γ m base ops i σ σ' ∧ anyA P Γ m base ops Q fuel (listed.setIfInBounds i true) σ'

theorem anyA_first {Q : S → Prop} {i : Nat} {oi : Oper} (hi : ops[i]? = some oi) (B : Nat → Prop) : ∀ (fuel : Nat) (listed : Array Bool) (σ : S) (d : D) (t : TE),
    (∀ j, B j → listed.getD j true = false ∧ ∃ oj, ops[j]? = some oj ∧ ∃ e ∈ oj.after, Region.binds .any e = true ∧ (e.on = i ∨ B e.on)) →
    (∀ j oj, ops[j]? = some oj → j ≠ i → listed.getD j true = false → ¬ B j → oi.apart ops oj = true ∧ kComm oi oj = true) →
    i ∈ Region.ready .any ops listed → YA P Γ m base ops oi σ d t →
    anyA P Γ m base ops Q fuel (listed.setIfInBounds i true) ((σ.eff t).put oi.dst d) → anyA P Γ m base ops Q (fuel + 1) listed σ := by
  intro fuel
  induction fuel with
  | zero =>
    intro listed σ d t hB hfree hr hy H
    refine ⟨fun h => (by rw [h] at hr; cases hr), fun j hj => ?_⟩
    by_cases hji : j = i
    · subst hji; exact ⟨_, ⟨oi, hi, d, t, hy, rfl⟩, H⟩
    · have := ready_mono hj hji
      rw [H.1] at this
      cases this
  | succ fuel ih =>
    intro listed σ d t hB hfree hr hy H
    refine ⟨fun h => (by rw [h] at hr; cases hr), fun j hj => ?_⟩
    by_cases hji : j = i
    · subst hji; exact ⟨_, ⟨oi, hi, d, t, hy, rfl⟩, H⟩
    · obtain ⟨σ2, ⟨oj, hoj, d2, t2, hy2, rfl⟩, H2⟩ := H.2 j (ready_mono hj hji)
      obtain ⟨hjun, oj', hoj', hall⟩ := mem_ready.1 hj
      rw [hoj] at hoj'; cases hoj'
      have hiun := (mem_ready.1 hr).1
      have conv : ∀ {x : Nat}, listed.getD x true = false → listed.getD x false = true → False := by
        intro x h1 h2
        cases hx : listed[x]? with
        | none => simp [hx] at h1
        | some b => simp [hx] at h1 h2; rw [h1] at h2; cases h2
      have hnB : ¬ B j := by
        intro hb
        obtain ⟨_, oj', hoj', e, he, hbi, hon⟩ := hB j hb
        rw [hoj] at hoj'; cases hoj'
        have h1 := hall e he hbi
        rcases hon with hon | hon
        · rw [hon] at h1; exact conv hiun h1
        · exact conv (hB _ hon).1 h1
      obtain ⟨hap, hkc⟩ := hfree j oj hoj hji hjun hnB
      obtain ⟨c1, c2, c3⟩ := comm hap hkc hy hy2
      refine ⟨_, ⟨oj, hoj, d2, t2, c1, rfl⟩, ?_⟩
      refine ih (listed.setIfInBounds j true) _ d t (fun j' hj' => ⟨?_, (hB j' hj').2⟩) (fun j' oj' hoj' hne hun hb => hfree j' oj' hoj' hne ?_ hb) (ready_mono hr (Ne.symm hji)) c2 ?_
      · have : j ≠ j' := fun e => hnB (e ▸ hj')
        rw [getD_set_ne true this]; exact (hB j' hj').1
      · by_cases hjk : j = j'
        · subst hjk; exact hjun
        · rw [getD_set_ne true hjk] at hun; exact hun
      · rw [Array.setIfInBounds_comm _ _ hji, ← c3]
        exact H2

theorem blk_spec {f i j : Nat} (h : blk ops f i j = true) : ∃ oj, ops[j]? = some oj ∧ ∃ e ∈ oj.after, Region.binds .any e = true ∧ (e.on = i ∨ (i < e.on ∧ ∃ f', blk ops f' i e.on = true)) := by
  cases f with
  | zero => simp [blk] at h
  | succ f =>
    simp only [blk] at h
    split at h
    · simp at h
    · rename_i oj hoj
      obtain ⟨e, he, hb⟩ := Array.any_eq_true'.1 h
      simp only [Bool.and_eq_true, Bool.or_eq_true, beq_iff_eq, decide_eq_true_eq] at hb
      exact ⟨oj, hoj, e, he, hb.1, hb.2.imp id fun h => ⟨h.1, f, h.2⟩⟩

theorem anyA_lex {Q : S → Prop} (hL : lexOK ops = true) : ∀ (l : List Oper) (k : Nat) (listed : Array Bool) (σ : S), (∀ j, l[j]? = ops[k + j]?) → k + l.length = ops.size →
    listed.size = ops.size → (∀ j, j < ops.size → listed.getD j true = decide (j < k)) → vcOps P Γ m base ops l σ Q → anyA P Γ m base ops Q l.length listed σ
  | [], k, listed, σ, hl, hk, hs, hp, h => by
    refine ⟨?_, h⟩
    cases hr : Region.ready .any ops listed with
    | nil => rfl
    | cons j js =>
      have hj : j ∈ Region.ready .any ops listed := by rw [hr]; simp
      obtain ⟨h0, oj, hoj, _⟩ := mem_ready.1 hj
      have hlt : j < ops.size := (Array.getElem?_eq_some_iff.1 hoj).1
      rw [hp j hlt] at h0
      simp at hk h0; omega
  | o :: l, k, listed, σ, hl, hk, hs, hp, h => by
    have h0 : ops[k]? = some o := by simpa using (hl 0).symm
    have hlt : k < ops.size := (Array.getElem?_eq_some_iff.1 h0).1
    simp only [vcOps] at h
    obtain ⟨d, t, hy, hK⟩ := vcOp_ya h
    have hLk := List.all_eq_true.1 hL k (by simpa using hlt)
    simp only [h0, Bool.and_eq_true] at hLk
    obtain ⟨hLa, hLb⟩ := hLk
    have hready : k ∈ Region.ready .any ops listed := by
      rw [mem_ready]
      refine ⟨by rw [hp k hlt]; simp, o, h0, fun e he hb => ?_⟩
      have := Array.all_eq_true_iff_forall_mem.1 hLa e he
      simp only [hb, Bool.not_true, Bool.false_or, decide_eq_true_eq] at this
      have h1 := hp e.on (by omega)
      rw [decide_eq_true this] at h1
      cases hx : listed[e.on]? with
      | none => have := (Array.getElem?_eq_none_iff.1 hx); omega
      | some b => simp [hx] at h1 ⊢; exact h1
    refine anyA_first h0 (fun j => k < j ∧ ∃ f, blk ops f k j = true) l.length listed σ d t (fun j hj => ?_) (fun j oj hoj hne hun hb => ?_) hready hy ?_
    · obtain ⟨hkj, f, hf⟩ := hj
      obtain ⟨oj, hoj, e, he, hb, hon⟩ := blk_spec hf
      have hjlt : j < ops.size := (Array.getElem?_eq_some_iff.1 hoj).1
      exact ⟨by rw [hp j hjlt]; simp; omega, oj, hoj, e, he, hb, hon.imp id fun h => ⟨h.1, h.2⟩⟩
    · have hjlt : j < ops.size := (Array.getElem?_eq_some_iff.1 hoj).1
      have hLj := List.all_eq_true.1 hLb j (by simpa using hjlt)
      rw [hp j hjlt] at hun
      simp at hun
      simp only [hoj, Bool.or_eq_true, decide_eq_true_eq, Bool.and_eq_true] at hLj
      rcases hLj with (hLj | hLj) | hLj
      · omega
      · exact absurd ⟨by omega, _, hLj⟩ hb
      · exact hLj
    · refine anyA_lex hL l (k + 1) _ _ (fun j => by have := hl (j + 1); simpa [Nat.add_assoc, Nat.add_comm 1 j] using this) (by simp at hk; omega) (by simpa using hs) (fun j hj => ?_) hK
      by_cases hkj : k = j
      · subst hkj; simp [hs, hj]
      · rw [getD_set_ne true hkj, hp j hj]
        by_cases h1 : j < k
        · simp [h1, Nat.lt_succ_of_lt h1]
        · have : ¬ j < k + 1 := by omega
          simp [h1, this]

theorem Cpl.drew {W0 : World} {F0 F : Nat → Prop} {β : Beta} {σ : S} {a : Act} {w : World} (C : Cpl W0 F0 F β σ a w) : Cpl W0 F0 F β σ a { w with drawn := w.drawn + 1 } :=
  { C with reps := C.reps, Flt := C.Flt, keep := C.keep, size := C.size, os := C.os, tp := C.tp, out := C.out, frz := C.frz, own := C.own }

theorem any_sound {W0 : World} {F0 : Nat → Prop} {Q : S → Prop} {Q' : Exit → Act → World → Prop} (hΓ : Γ.ok P)
    (hQ : ∀ F β σ a w, Cpl W0 F0 F β σ a w → Q σ → Q' .normal a w) : ∀ (fuel : Nat) (listed : Array Bool) (σ : S) (F : Nat → Prop) (β : Beta) (a : Act) (w : World), Cpl W0 F0 F β σ a w →
    anyA P Γ m base ops Q fuel listed σ → wpAny P .any ops Q' fuel listed a w
  | 0, _, _, _, _, _, _, C, h => ⟨h.1, hQ _ _ _ _ _ C h.2⟩
  | fuel + 1, _, _, _, _, _, _, C, h => ⟨fun h0 => hQ _ _ _ _ _ C (h.1 h0), fun i hi => by
      obtain ⟨σ', ⟨o, ho, d, t, hy, rfl⟩, H⟩ := h.2 i hi
      exact ya_sound hΓ C ho hy fun F' β' a' w' C' => any_sound hΓ hQ fuel _ _ _ _ _ _ C' H⟩

theorem ops_sound {W0 : World} {F0 : Nat → Prop} {Q : S → Prop} {Q' : Exit → Act → World → Prop} (hΓ : Γ.ok P)
    (hQ : ∀ F β σ a w, Cpl W0 F0 F β σ a w → Q σ → Q' .normal a w) : ∀ (l : List Oper) (k : Nat) (σ : S) (F : Nat → Prop) (β : Beta) (a : Act) (w : World), (∀ j, l[j]? = ops[k + j]?) → Cpl W0 F0 F β σ a w →
    vcOps P Γ m base ops l σ Q → wpOps P ops Q' (List.range' k l.length) a w
  | [], k, σ, F, β, a, w, hl, C, h => by simpa [wpOps] using hQ _ _ _ _ _ C h
  | o :: l, k, σ, F, β, a, w, hl, C, h => by
    have h0 : ops[k]? = some o := by simpa using (hl 0).symm
    simp only [vcOps] at h
    obtain ⟨d, t, hy, hK⟩ := vcOp_ya h
    simp only [List.length_cons, List.range'_succ]
    rw [wpOps_cons]
    exact ya_sound hΓ C h0 hy fun F' β' a' w' C' => ops_sound hΓ hQ l (k + 1) _ _ _ _ _ (fun j => by have := hl (j + 1); simpa [Nat.add_assoc, Nat.add_comm 1 j] using this) C' hK

theorem region_sound {W0 : World} {F0 F : Nat → Prop} {β : Beta} {σ : S} {a : Act} {w : World} {Q : S → Prop} {Q' : Exit → Act → World → Prop} (hΓ : Γ.ok P) (hm : P.follows .mixedOrders = true)
    (hQ : ∀ F β σ a w, Cpl W0 F0 F β σ a w → Q σ → Q' .normal a w) (C : Cpl W0 F0 F β σ a w) {id : Nat} {draw : Bool} (hd : draw = true → lexOK ops = true)
    (h : vcOps P Γ m base ops ops.toList σ Q) : (Code.region id ops draw).wp P Q' a w := by
  cases draw with
  | false =>
    refine wp_region ?_
    have := ops_sound (ops := ops) hΓ hQ ops.toList 0 σ F β a w (fun j => by simp) C h
    simpa [List.range_eq_range'] using this
  | true =>
    refine wp_region_any hm ?_
    have h1 := anyA_lex (hd rfl) ops.toList 0 (Array.replicate ops.size false) σ (fun j => by simp) (by simp) (by simp) (fun j hj => by simp [hj]) h
    have := any_sound hΓ hQ _ _ _ _ _ _ _ C.drew h1
    simpa using this
end
end Go.Eng
namespace Go.Eng
set_option linter.unusedVariables false
set_option linter.unusedSimpArgs false

def S.bump (σ : S) : S := { σ with gen := σ.gen + 1 }
def Le (σ σ' : S) : Prop := ∀ (W0 : World) (F0 F : Nat → Prop) (β : Beta) (a : Act) (w : World), Cpl W0 F0 F β σ a w → ∃ β', Cpl W0 F0 F β' σ' a w
def LeD (d d' : D) : Prop := ∀ (F : Nat → Prop) (h : Array Obj) (β : Beta) (v : Value), Rep F h β d v → Rep F h β d' v

def thenQ (K : S → Prop) (Q : Exit → S → Prop) : Exit → S → Prop
  | .normal, σ => K σ
  | e, σ => Q e σ
def blockQ (id : Nat) (Q : Exit → S → Prop) : Exit → S → Prop
  | .exit id', σ => if id' = id then Q .normal σ else Q (.exit id') σ
  | e, σ => Q e σ
theorem thenQ_normal (K : S → Prop) (Q : Exit → S → Prop) (σ : S) : thenQ K Q .normal σ = K σ := rfl
theorem thenQ_ret (K : S → Prop) (Q : Exit → S → Prop) (σ : S) : thenQ K Q .ret σ = Q .ret σ := rfl
theorem thenQ_exit (K : S → Prop) (Q : Exit → S → Prop) (σ : S) (i : Nat) : thenQ K Q (.exit i) σ = Q (.exit i) σ := rfl
theorem blockQ_normal (id : Nat) (Q : Exit → S → Prop) (σ : S) : blockQ id Q .normal σ = Q .normal σ := rfl
theorem blockQ_ret (id : Nat) (Q : Exit → S → Prop) (σ : S) : blockQ id Q .ret σ = Q .ret σ := rfl
theorem blockQ_exit (id : Nat) (Q : Exit → S → Prop) (σ : S) (i : Nat) : blockQ id Q (.exit i) σ = if i = id then Q .normal σ else Q (.exit i) σ := rfl

def vc (P : Program) (Γ : Ctx) (m : Bool) (base : Nat) : Code → (Exit → S → Prop) → S → Prop
  | .skip, Q, σ => Q .normal σ
  | .label _, Q, σ => Q .normal σ
  | .seq x y, Q, σ => vc P Γ m base x (thenQ (fun σ' => vc P Γ m base y Q σ') Q) σ
  | .cond c x y, Q, σ => match strip (opd σ.ts c) with
    | .lit (.bool b) => scond true (opd σ.ts c) ∧ (b = true → vc P Γ m base x Q σ) ∧ (b = false → vc P Γ m base y Q σ)
    | _ => False
  | .region _ ops draw, Q, σ => (draw = true → lexOK ops = true) ∧ vcOps P Γ m base ops ops.toList σ fun σ' => Q .normal σ'.bump
  | .block id c, Q, σ => vc P Γ m base c (blockQ id Q) σ
  | .loop c, Q, σ => ∃ (α : Type) (mk : α → S) (μ : α → Nat) (p0 : α), Le σ (mk p0) ∧
      ∀ p, vc P Γ m base c (thenQ (fun σ' => ∃ p', Le σ' (mk p') ∧ μ p' < μ p) Q) (mk p)
  | .exit id, Q, σ => Q (.exit id) σ
  | .ret, Q, σ => Q .ret σ
  | _, _, _ => False

section
variable {P : Program} {Γ : Ctx} {m : Bool} {base : Nat}

def lift (W0 : World) (F0 : Nat → Prop) (Q : Exit → S → Prop) : Exit → Act → World → Prop := fun e a w => ∃ F β σ, Cpl W0 F0 F β σ a w ∧ Q e σ

theorem vc_sound (hΓ : Γ.ok P) (hm : P.follows .mixedOrders = true) {W0 : World} {F0 : Nat → Prop} : ∀ (c : Code) (Q : Exit → S → Prop) (σ : S), vc P Γ m base c Q σ →
    ∀ F β a w, Cpl W0 F0 F β σ a w → c.wp P (lift W0 F0 Q) a w
  | .skip, Q, σ, h, F, β, a, w, C => wp_skip ⟨F, β, σ, C, h⟩
  | .label _, Q, σ, h, F, β, a, w, C => wp_label ⟨F, β, σ, C, h⟩
  | .seq x y, Q, σ, h, F, β, a, w, C => by
    refine wp_seq (wp_mono (vc_sound hΓ hm x _ σ h F β a w C) fun e a' w' hq => ?_)
    obtain ⟨F', β', σ', C', hq⟩ := hq
    cases e with
    | normal => exact vc_sound hΓ hm y Q σ' hq F' β' a' w' C'
    | exit id => exact ⟨F', β', σ', C', hq⟩
    | goto l => exact ⟨F', β', σ', C', hq⟩
    | ret => exact ⟨F', β', σ', C', hq⟩
    | panic ch => exact ⟨F', β', σ', C', hq⟩
    | outgrown => exact ⟨F', β', σ', C', hq⟩
  | .cond c x y, Q, σ, h, F, β, a, w, C => by
    simp only [vc] at h
    split at h
    · rename_i b hb
      obtain ⟨hs, h1, h2⟩ := h
      have rc := rep_strip rfl hs (rep_opd C.reps c)
      rw [hb] at rc; simp only [Rep] at rc
      exact wp_cond_split rc (fun e => vc_sound hΓ hm x Q σ (h1 e) F β a w C) (fun e => vc_sound hΓ hm y Q σ (h2 e) F β a w C)
    · exact h.elim
  | .region id ops draw, Q, σ, h, F, β, a, w, C => by
    simp only [vc] at h
    exact region_sound hΓ hm (fun F β σ a w C hq => ⟨F, β, σ.bump, C.bump, hq⟩) C h.1 h.2
  | .block id c, Q, σ, h, F, β, a, w, C => by
    refine wp_block (wp_mono (vc_sound hΓ hm c _ σ h F β a w C) fun e a' w' hq => ?_)
    obtain ⟨F', β', σ', C', hq⟩ := hq
    cases e with
    | exit id' =>
      simp only [blockQ] at hq
      simp only [Exit.inBlock]
      split at hq
      · rename_i e; rw [if_pos e]; exact ⟨F', β', σ', C', hq⟩
      · rename_i e; rw [if_neg e]; exact ⟨F', β', σ', C', hq⟩
    | normal => exact ⟨F', β', σ', C', hq⟩
    | goto l => exact ⟨F', β', σ', C', hq⟩
    | ret => exact ⟨F', β', σ', C', hq⟩
    | panic ch => exact ⟨F', β', σ', C', hq⟩
    | outgrown => exact ⟨F', β', σ', C', hq⟩
  | .loop c, Q, σ, h, F, β, a, w, C => by
    simp only [vc] at h
    obtain ⟨α, mk, μ, p0, hle, hround⟩ := h
    obtain ⟨β0, C0⟩ := hle _ _ _ _ _ _ C
    intro b k cs
    have key : ∀ n p F β a w, μ p = n → Cpl W0 F0 F β (mk p) a w →
        ∃ e a' w', lift W0 F0 Q e a' w' ∧ Arrives P (lone (b.at a (.code c :: .inLoop c :: k)) cs w) b k cs e a' w' := by
      intro n
      induction n using Nat.strongRecOn with
      | _ n ih =>
        intro p F β a w hn C
        obtain ⟨e, a₁, w₁, hq, harr⟩ := vc_sound hΓ hm c _ (mk p) (hround p) F β a w C b (.inLoop c :: k) cs
        obtain ⟨F', β', σ', C', hq⟩ := hq
        cases e with
        | normal =>
          obtain ⟨p', hle', hlt⟩ := hq
          obtain ⟨β'', C''⟩ := hle' _ _ _ _ _ _ C'
          obtain ⟨e₂, a₂, w₂, hq₂, harr₂⟩ := ih (μ p') (hn ▸ hlt) p' F' β'' a₁ w₁ rfl C''
          exact ⟨e₂, a₂, w₂, hq₂, .of_steps (Steps.trans harr (.one step_inLoop)) harr₂⟩
        | exit id => exact ⟨_, a₁, w₁, ⟨F', β', σ', C', hq⟩, .pass (x := .inLoop c) rfl (fun _ _ => .inl (by simp)) harr⟩
        | goto l => exact ⟨_, a₁, w₁, ⟨F', β', σ', C', hq⟩, .pass (x := .inLoop c) rfl (fun _ _ => .inl (by simp)) harr⟩
        | ret => exact ⟨_, a₁, w₁, ⟨F', β', σ', C', hq⟩, .pass (x := .inLoop c) rfl (fun _ _ => .inl (by simp)) harr⟩
        | panic ch => exact ⟨_, a₁, w₁, ⟨F', β', σ', C', hq⟩, .pass (x := .inLoop c) rfl (fun _ _ => .inl (by simp)) harr⟩
        | outgrown => exact ⟨_, a₁, w₁, ⟨F', β', σ', C', hq⟩, .pass (x := .inLoop c) rfl (fun _ _ => .inl (by simp)) harr⟩
    obtain ⟨e, a', w', hq, harr⟩ := key _ p0 F β0 a w rfl C0
    exact ⟨e, a', w', hq, .of_steps (.one step_loop) harr⟩
  | .exit id, Q, σ, h, F, β, a, w, C => wp_exit ⟨F, β, σ, C, h⟩
  | .ret, Q, σ, h, F, β, a, w, C => wp_ret ⟨F, β, σ, C, h⟩
  | .goto _, Q, σ, h, _, _, _, _, _ => by simp only [vc] at h
  | .scope _, Q, σ, h, _, _, _, _, _ => by simp only [vc] at h
  | .refuse _, Q, σ, h, _, _, _, _, _ => by simp only [vc] at h
  | .rangeFunc .., Q, σ, h, _, _, _, _, _ => by simp only [vc] at h

/-! ### weakening of states, before a loop -/
inductive LeT : List D → List D → Prop
  | nil : LeT [] []
  | cons {d d' l l'} : LeD d d' → LeT l l' → LeT (d :: l) (d' :: l')
theorem LeD.refl (d : D) : LeD d d := fun _ _ _ _ h => h
theorem LeD.any (d : D) : LeD d .any := fun _ _ _ _ _ => by simp only [Rep]
theorem LeD.of_eq {d d' : D} (h : d = d') : LeD d d' := h ▸ LeD.refl d
theorem LeD.sl {t t' : Bool} {s n n' : Nat} {f f' : Nat → D} (hn : n = n') (ht : t' = true → t = true) (h : ∀ i, i < n → f i = f' i) : LeD (.sl t s n f) (.sl t' s n' f') := by
  subst hn
  intro F hp β v r
  simp only [Rep] at r ⊢
  rcases r with ⟨r, a, cap, r1, r2⟩ | ⟨b, off, cap, c, e, fr, h1, h2, h3, h4, h5, h6⟩
  · exact .inl ⟨r, a, cap, r1, fun h => r2 (ht h)⟩
  · exact .inr ⟨b, off, cap, c, e, fr, h1, h2, h3, h4, fun h => h5 (ht h), fun i hi => by rw [← h i hi]; exact h6 i hi⟩
theorem LeT.reps {F : Nat → Prop} {hp : Array Obj} {β : Beta} : ∀ {l l' : List D} {vs : List Value}, LeT l l' → Reps F hp β l vs → Reps F hp β l' vs
  | _, _, _, .nil, r => r
  | _, _, _, .cons h1 h2, r => by
    simp only [Reps] at r ⊢
    obtain ⟨v, vs', e, r1, r2⟩ := r
    exact ⟨v, vs', e, h1 _ _ _ _ r1, LeT.reps h2 r2⟩
inductive LeO : OO → OO → Prop
  | box {cs cs'} : LeT cs cs' → LeO (.box cs) (.box cs')
  | arr {s n f f'} : (∀ i, i < n → f i = f' i) → LeO (.arr s n f) (.arr s n f')
theorem Le.mk' {σ σ' : S} (ht : LeT σ.ts σ'.ts) (htab : ∀ k v o, σ'.tab k v = some o → ∃ o0, σ.tab k v = some o0 ∧ LeO o0 o) (hg : σ.gen < σ'.gen) : Le σ σ' := by
  intro W0 F0 F β a w C
  refine ⟨β, { C with reps := ht.reps C.reps, gen := fun k v x h => .inl ?_, own := fun k v o ho => ?_, inj := fun k v k' v' o o' b c c' h1 h2 d1 d2 => ?_ }⟩
  · rcases C.gen k v x h with h | ⟨h, _⟩ <;> omega
  · obtain ⟨o0, h0, hl⟩ := htab k v o ho
    have := C.own k v o0 h0
    cases hl with
    | box hl => obtain ⟨b, cap, c, e, h1, h2, h3, h4, h5⟩ := this; exact ⟨b, cap, c, e, h1, h2, h3, h4, hl.reps h5⟩
    | arr hl =>
      obtain ⟨x, cap, h1, h2, h3⟩ := this
      refine ⟨x, cap, h1, h2, fun b hx => ?_⟩
      obtain ⟨h4, h5, c, e, h6, h7, h8, h9⟩ := h3 b hx
      exact ⟨h4, h5, c, e, h6, h7, h8, fun i hi => by rw [← hl i hi]; exact h9 i hi⟩
  · obtain ⟨o0, h0, hl⟩ := htab k v o h1
    obtain ⟨o0', h0', hl'⟩ := htab k' v' o' h2
    exact C.inj k v k' v' o0 o0' b c c' h0 h0' (by cases hl <;> simp) (by cases hl' <;> simp)

/-! ### a function's end, and its contract -/
def retD (Γ : Ctx) (σ : S) : List ResultVar → Option (List D)
  | [] => some []
  | .tmp t :: l => match retD Γ σ l with
    | some ds => some (opd σ.ts (.tmp t) :: ds)
    | none => none
  | .cell a t :: l => match Γ.get t, retD Γ σ l with
    | some ti, some ds => match loadD ti σ.tab (opd σ.ts (.tmp a)) with
      | some r => some (r.d :: ds)
      | none => none
    | _, _ => none
def packD : List D → D
  | [d] => d
  | ds => .tup ds
def retQ (Γ : Ctx) (rs : List ResultVar) (r : D) : Exit → S → Prop
  | .normal, σ => match retD Γ σ rs with
    | some ds => LeD (packD ds) r
    | none => False
  | .ret, σ => match retD Γ σ rs with
    | some ds => LeD (packD ds) r
    | none => False
  | _, _ => False

theorem load_ob {ti : TI} {tab : Tab} {x : D} {r : AR} (h : loadD ti tab x = some r) : r.ob := by
  unfold loadD at h
  repeat' first
    | (simp only [okR, Option.some.injEq] at h; subst h; exact True.intro)
    | (simp only [reduceCtorEq] at h; done)
    | split at h

theorem retD_run {W0 : World} {F0 F : Nat → Prop} {β : Beta} {σ : S} {a : Act} {w : World} (hΓ : Γ.ok P) (C : Cpl W0 F0 F β σ a w) : ∀ (rs : List ResultVar) {ds : List D}, retD Γ σ rs = some ds →
    ∃ vs, (rs.mapM (m := Sem) fun | .tmp t => pure (a.tmps.getD t undef) | .cell x t => do loadVar t (← asAddr (a.tmps.getD x undef))).run P w = .ok vs w ∧ Reps F w.heap β ds vs
  | [], ds, h => by simp only [retD, Option.some.injEq] at h; subst h; exact ⟨[], by simp, by simp only [Reps]⟩
  | .tmp t :: l, ds, h => by
    simp only [retD] at h
    split at h
    · rename_i ds' hd
      simp only [Option.some.injEq] at h; subst h
      obtain ⟨vs, h1, h2⟩ := retD_run hΓ C l hd
      refine ⟨a.tmps.getD t undef :: vs, by simp only [List.mapM_cons, Sem.run_bind, Sem.run_pure, Result.andThen_ok, h1], ?_⟩
      simp only [Reps]
      exact ⟨_, _, rfl, rep_opd C.reps (.tmp t), h2⟩
    · simp at h
  | .cell x t :: l, ds, h => by
    simp only [retD] at h
    split at h
    · rename_i ti ds' hti hd
      split at h
      · rename_i r hr
        simp only [Option.some.injEq] at h; subst h
        obtain ⟨vs, h1, h2⟩ := retD_run hΓ C l hd
        obtain ⟨_, v, h3, h4⟩ := loadD_sound (Ctx.get_ok hΓ hti) C hr (load_ob hr) (rep_opd C.reps (.tmp x))
        have h5 : (do loadVar t (← asAddr (a.tmps.getD x undef)) : Sem Value).run P w = .ok v w := by
          simp only [Act.eval, Instr.loadAt] at h3
          generalize a.tmps.getD x undef = q at h3 ⊢
          cases q with
          | pointer p => cases p <;> simp_all [Instr.sureAddr, asAddr]
          | _ => simp [Instr.sureAddr] at h3
        refine ⟨v :: vs, by simp only [List.mapM_cons, Sem.run_bind, Sem.run_pure] at h5 ⊢; simp only [h5, Result.andThen_ok, h1], ?_⟩
        simp only [Reps]
        exact ⟨_, _, rfl, h4, h2⟩
      · simp at h
    · simp at h

theorem pc_of_vc (hΓ : Γ.ok P) (hm : P.follows .mixedOrders = true) {f : FuncId} {fn : Func} {c : Code} {ds : List D} {r : D} (hf : P.funcs[f]? = some fn) (hn : (fn.name == "runtime.NumGoroutine") = false)
    (hb : fn.body = some c) (hp : pureD r = true)
    (h : vc P Γ m base c (retQ Γ fn.results.toList r) { ts := ds ++ List.replicate (fn.ntmps - ds.length) .any, tab := Tab.nil, gen := 0 }) : PC P f ds r := by
  refine ⟨⟨fn, hf, hn, by rw [hb]; rfl⟩, hp, fun w F vs hF hr => calls_of_wp hf hb ?_⟩
  have hl := hr.length
  have app : ∀ (n : Nat), Reps F w.heap Beta.none (List.replicate n D.any) (List.replicate n undef) := by
    intro n; induction n with
    | zero => simp only [List.replicate, Reps]
    | succ n ih => simp only [List.replicate_succ, Reps]; exact ⟨_, _, rfl, by simp only [Rep], ih⟩
  have app2 : ∀ {d1 d2 : List D} {v1 v2 : List Value}, Reps F w.heap Beta.none d1 v1 → Reps F w.heap Beta.none d2 v2 → Reps F w.heap Beta.none (d1 ++ d2) (v1 ++ v2) := by
    intro d1
    induction d1 with
    | nil => intro d2 v1 v2 h1 h2; simp only [Reps] at h1; subst h1; simpa using h2
    | cons d ds ih =>
      intro d2 v1 v2 h1 h2
      simp only [Reps] at h1
      obtain ⟨v, vs', rfl, r1, r2⟩ := h1
      simp only [List.cons_append, Reps]
      exact ⟨v, vs' ++ v2, rfl, r1, ih r2 h2⟩
  have C0 : Cpl w F F Beta.none { ts := ds ++ List.replicate (fn.ntmps - ds.length) .any, tab := Tab.nil, gen := 0 } { tmps := vs.toArray ++ Array.replicate (fn.ntmps - vs.toArray.size) undef, defers := [] } w := by
    refine { reps := ?_, defers := rfl, F0F := fun b h => h, Fsrc := fun b h => .inl h, Flt := hF, keep := fun _ _ => rfl, size := Nat.le_refl _, os := rfl, tp := rfl, out := rfl,
             frz := fun b c e fr h1 h2 => ?_, gen := fun k v x h => by simp [Beta.none] at h, own := fun k v o h => by simp [Tab.nil] at h, inj := fun _ _ _ _ _ _ _ _ _ h => by simp [Tab.nil] at h }
    · have := app2 hr (app (fn.ntmps - ds.length))
      simpa [hl] using this
    · have := (Array.getElem?_eq_some_iff.1 h2).1; omega
  refine wp_mono (vc_sound hΓ hm c _ _ h F Beta.none _ w C0) fun e a' w' hq => ?_
  obtain ⟨F', β', σ', C, hq⟩ := hq
  have fin : (match retD Γ σ' fn.results.toList with | some ds => LeD (packD ds) r | none => False) → a'.defers = [] ∧ ∃ v, (results fn a'.tmps).run P w' = .ok v w' ∧
      ∃ v1 F1, Ending.returned v = .returned v1 ∧ Ext F F1 w w' ∧ Rep F1 w'.heap Beta.none r v1 := by
    intro hq
    refine ⟨C.defers, ?_⟩
    split at hq
    · rename_i ds' hds
      obtain ⟨vs', h1, h2⟩ := retD_run hΓ C _ hds
      have hE : Ext F F' w w' := ⟨C.keep, C.size, C.os, C.tp, C.out, C.F0F, C.Fsrc, C.Flt, C.frz⟩
      have hrun : (results fn a'.tmps).run P w' = .ok (if hh : vs'.toArray.size = 1 then vs'.toArray[0] else .tuple vs'.toArray) w' := by
        have h1' : (fn.results.mapM (m := Sem) fun | .tmp t => pure (a'.tmps.getD t undef) | .cell x t => do loadVar t (← asAddr (a'.tmps.getD x undef))).run P w' = .ok vs'.toArray w' := by
          rw [Array.mapM_eq_mapM_toList]
          simp only [Sem.run_map, h1, Result.andThen_ok]
        have e0 : results fn a'.tmps = (do
            let vs ← fn.results.mapM (m := Sem) fun | .tmp t => pure (a'.tmps.getD t undef) | .cell x t => do loadVar t (← asAddr (a'.tmps.getD x undef))
            pure (if h : vs.size = 1 then vs[0] else .tuple vs)) := rfl
        rw [e0]
        simp only [Sem.run_bind, h1', Result.andThen_ok, Sem.run_pure]
      refine ⟨_, hrun, _, F', rfl, hE, Rep.rebeta (β := β') r hp (hq _ _ _ _ ?_)⟩
      have hl' := h2.length
      cases ds' with
      | nil =>
        have : vs' = [] := by cases vs' <;> simp_all
        subst this
        simp only [packD, Rep]; exact ⟨[], by simp, h2⟩
      | cons d ds' =>
        cases ds' with
        | nil =>
          obtain ⟨v, rfl⟩ : ∃ v, vs' = [v] := by
            cases vs' with
            | nil => simp at hl'
            | cons v l => cases l with
              | nil => exact ⟨v, rfl⟩
              | cons _ _ => simp at hl'
          simp only [Reps] at h2
          obtain ⟨v', l, e, r1, r2⟩ := h2
          simp only [List.cons.injEq] at e
          obtain ⟨rfl, rfl⟩ := e
          simpa [packD] using r1
        | cons d2 ds' =>
          have : vs'.toArray.size ≠ 1 := by simp at hl' ⊢; omega
          rw [dif_neg this]
          simp only [packD, Rep]
          exact ⟨vs', rfl, h2⟩
    · exact hq.elim
  cases e with
  | normal => exact fin hq
  | ret => exact fin hq
  | exit id => exact hq.elim
  | goto l => exact hq.elim
  | panic ch => exact hq.elim
  | outgrown => exact hq.elim

/-- a law that its contract answers with true -/
theorem below_of_pc {f : FuncId} {ds : List D} (h : PC P f ds (.lit (.bool true))) {W : World} {vs : List Value} (hr : Reps (fun b => b < W.heap.size) W.heap Beta.none ds vs) :
    Calls P f vs.toArray W fun e w' => e = .returned (.bool true) ∧ RowKit.Below W.heap.size W w' := by
  refine (h.2.2 W (fun b => b < W.heap.size) vs (fun _ h => h) hr).mono fun e w' ⟨v, F', he, hE, hv⟩ => ?_
  simp only [Rep] at hv
  subst hv
  exact ⟨he, ⟨hE.os, hE.tp, hE.out, hE.size, hE.old⟩⟩
end
end Go.Eng
namespace Go.Eng
set_option linter.unusedVariables false
set_option linter.unusedSimpArgs false

/-- the contracts at hand: a condition and an answer -/
abbrev Env := FuncId → List D → Option (Prop × D)
def Env.ok (P : Program) (E : Env) : Prop := ∀ f ds p r, E f ds = some (p, r) → p → PC P f ds r

inductive Fr where
  | seq (c : Code)
  | blk (id : Nat)
  | lp
inductive Cmd where
  | code (c : Code)
  | norm
  | exit (id : Nat)
  | ret
inductive T where
  | bad
  | ret (σ : S)
  | again (j : Nat) (σ : S)
  | ob (p : Prop) (t : T)
  | br (b : Bool) (s t : T)
  | loop (c : Code) (k : List Fr) (σ : S)

def lpc : List Fr → Nat
  | [] => 0
  | .lp :: k => lpc k + 1
  | .seq _ :: k => lpc k
  | .blk _ :: k => lpc k

def evCall (E : Env) (g : Bool) (ts : List D) (c : Call) : Option (Prop × D) :=
  match c.callee with
  | .value f => match strip (opd ts f) with
    | .fn (.func fid) fs cs => if puresD (fs ++ (c.args.toList.map fun x => strip (opd ts x)) ++ cs) = true then
        (match E fid (fs ++ (c.args.toList.map fun x => strip (opd ts x)) ++ cs) with
        | some (p, r) => some (sconds g ts c.operands.toList ∧ (g = true → p), r)
        | none => none) else none
    | _ => none
  | _ => none

def evOp (E : Env) (Γ : Ctx) (m : Bool) (base : Nat) (ops : Array Oper) (o : Oper) (σ : S) : Option (Prop × S) :=
  match gdD ops o σ.ts with
  | none => none
  | some g => match o.op with
    | .pick c x y => match strip (opd σ.ts c) with
      | .lit (.bool b) => match pickD b (strip (opd σ.ts x)) (strip (opd σ.ts y)) with
        | some d => some (scond g (opd σ.ts c) ∧ scond (g && b) (opd σ.ts x) ∧ scond (g && !b) (opd σ.ts y), σ.put o.dst (mkwhn o.guard g d))
        | none => none
      | _ => none
    | .call ⟨.value f, args, tys⟩ => match evCall E g σ.ts ⟨.value f, args, tys⟩ with
      | some (p, r) => some (p, σ.put o.dst (mkwhn o.guard g r))
      | none => none
    | op => match aval Γ m σ.tab (nmOf base o) σ.gen (fun x => strip (opd σ.ts x)) op with
      | none => none
      | some r => match r.eff with
        | .none => some (sconds g σ.ts op.operands.toList ∧ (g = true → r.ob), σ.put o.dst (mkwhn o.guard g r.d))
        | .new oo => some ((sconds g σ.ts op.operands.toList ∧ (g = true → r.ob)) ∧ o.guard = none ∧ σ.tab (nmOf base o) σ.gen = none, (σ.eff (.new (nmOf base o) oo)).put o.dst r.d)
        | .set k v oo => some ((sconds g σ.ts op.operands.toList ∧ (g = true → r.ob)) ∧ o.guard = none, (σ.eff (.set k v oo)).put o.dst .any)

def evOps (E : Env) (Γ : Ctx) (m : Bool) (base : Nat) (ops : Array Oper) : List Oper → S → Option (Prop × S)
  | [], σ => some (True, σ)
  | o :: l, σ => match evOp E Γ m base ops o σ with
    | some (p, σ') => match evOps E Γ m base ops l σ' with
      | some (q, σ'') => some (p ∧ q, σ'')
      | none => none
    | none => none

def run (E : Env) (Γ : Ctx) (m : Bool) (base : Nat) : Nat → Cmd → List Fr → S → T
  | 0, _, _, _ => .bad
  | n + 1, .code .skip, k, σ => run E Γ m base n .norm k σ
  | n + 1, .code (.label _), k, σ => run E Γ m base n .norm k σ
  | n + 1, .code (.seq x y), k, σ => run E Γ m base n (.code x) (.seq y :: k) σ
  | n + 1, .code (.cond c x y), k, σ => match strip (opd σ.ts c) with
    | .lit (.bool b) => .ob (scond true (opd σ.ts c)) (.br b (run E Γ m base n (.code x) k σ) (run E Γ m base n (.code y) k σ))
    | _ => .bad
  | n + 1, .code (.region _ ops draw), k, σ => match evOps E Γ m base ops ops.toList σ with
    | some (p, σ') => .ob (draw = true → lexOK ops = true) (.ob p (run E Γ m base n .norm k σ'.bump))
    | none => .bad
  | n + 1, .code (.block id c), k, σ => run E Γ m base n (.code c) (.blk id :: k) σ
  | n + 1, .code (.loop c), k, σ => .loop c k σ
  | n + 1, .code (.exit id), k, σ => run E Γ m base n (.exit id) k σ
  | n + 1, .code .ret, k, σ => run E Γ m base n .ret k σ
  | n + 1, .norm, [], σ => .ret σ
  | n + 1, .norm, .seq y :: k, σ => run E Γ m base n (.code y) k σ
  | n + 1, .norm, .blk _ :: k, σ => run E Γ m base n .norm k σ
  | n + 1, .norm, .lp :: k, σ => .again (lpc k) σ
  | n + 1, .exit id, .blk id' :: k, σ => if id = id' then run E Γ m base n .norm k σ else run E Γ m base n (.exit id) k σ
  | n + 1, .exit id, .seq _ :: k, σ => run E Γ m base n (.exit id) k σ
  | n + 1, .exit id, .lp :: k, σ => run E Γ m base n (.exit id) k σ
  | n + 1, .ret, _, σ => .ret σ
  | _, _, _, _ => .bad

/-- what a tree asks; 'L' says what a loop owes -/
def den (L : Code → List Fr → S → (Nat → S → Prop) → Prop) (R : S → Prop) : T → (Nat → S → Prop) → Prop
  | .bad, _ => False
  | .ret σ, _ => R σ
  | .again j σ, A => A j σ
  | .ob p t, A => p ∧ den L R t A
  | .br b s t, A => (b = true → den L R s A) ∧ (b = false → den L R t A)
  | .loop c k σ, A => L c k σ A
/-- a loop owes an invariant; 'd' bounds how deep loops lie one behind or in another -/
def loopP (E : Env) (Γ : Ctx) (m : Bool) (base : Nat) (R : S → Prop) : Nat → Code → List Fr → S → (Nat → S → Prop) → Prop
  | 0, _, _, _, _ => False
  | d + 1, c, k, σ, A => ∃ (α : Type) (mk : α → S) (μ : α → Nat) (p0 : α), Le σ (mk p0) ∧
      ∀ p, ∃ n, den (loopP E Γ m base R d) R (run E Γ m base n (.code c) (.lp :: k) (mk p)) fun j σ' => if j = lpc k then (∃ p', Le σ' (mk p') ∧ μ p' < μ p) else A j σ'

section
variable {P : Program} {E : Env} {Γ : Ctx} {m : Bool} {base : Nat}

theorem evOp_vc (hE : E.ok P) {ops : Array Oper} {o : Oper} {σ σ' : S} {p : Prop} {K : S → Prop} (h : evOp E Γ m base ops o σ = some (p, σ')) (hp : p) (hK : K σ') : vcOp P Γ m base ops o σ K := by
  unfold evOp at h
  unfold vcOp
  split at h
  · simp at h
  · rename_i g hg
    try simp only [hg]
    split at h
    · rename_i c x y ho
      try simp only [ho]
      split at h
      · rename_i b hb
        try simp only [hb]
        split at h
        · rename_i d hd
          simp only [Option.some.injEq, Prod.mk.injEq] at h
          obtain ⟨rfl, rfl⟩ := h
          try simp only [hd]
          exact ⟨hp, hK⟩
        · simp at h
      · simp at h
    · rename_i f args tys ho
      try simp only [ho]
      split at h
      · rename_i q r hq
        simp only [Option.some.injEq, Prod.mk.injEq] at h
        obtain ⟨rfl, rfl⟩ := h
        refine ⟨r, ?_, hK⟩
        unfold evCall at hq
        unfold callD
        simp only at hq ⊢
        split at hq
        · rename_i fid fs cs hf
          try simp only [hf]
          split at hq
          · rename_i hpure
            split at hq
            · rename_i p' r' he
              simp only [Option.some.injEq, Prod.mk.injEq] at hq
              obtain ⟨rfl, rfl⟩ := hq
              exact ⟨hp.1, hpure, fun hgt => hE _ _ _ _ he (hp.2 hgt)⟩
            · simp at hq
          · simp at hq
        · simp at hq
      · simp at h
    · rename_i op hop1 hop2
      split at h
      · simp at h
      · rename_i r hr
        split at h <;> rename_i he <;> simp only [Option.some.injEq, Prod.mk.injEq] at h <;> obtain ⟨rfl, rfl⟩ := h
        all_goals
          try simp only [hr, he]
          first
            | exact ⟨hp, hK⟩
            | exact ⟨hp.1, hp.2, hK⟩
            | exact ⟨hp.1, hp.2.1, hp.2.2, hK⟩
theorem evOps_vc (hE : E.ok P) {ops : Array Oper} {K : S → Prop} : ∀ {l : List Oper} {σ σ' : S} {p : Prop}, evOps E Γ m base ops l σ = some (p, σ') → p → K σ' → vcOps P Γ m base ops l σ K
  | [], σ, σ', p, h, hp, hK => by
    simp only [evOps, Option.some.injEq, Prod.mk.injEq] at h
    obtain ⟨_, rfl⟩ := h
    exact hK
  | o :: l, σ, σ', p, h, hp, hK => by
    simp only [evOps] at h
    split at h
    · rename_i p1 σ1 h1
      split at h
      · rename_i p2 σ2 h2
        simp only [Option.some.injEq, Prod.mk.injEq] at h
        obtain ⟨rfl, rfl⟩ := h
        simp only [vcOps]
        exact evOp_vc hE h1 hp.1 (evOps_vc hE h2 hp.2 hK)
      · simp at h
    · simp at h

/-- what the frames ask of each way out -/
def Kof (P : Program) (Γ : Ctx) (m : Bool) (base : Nat) (R : S → Prop) (A : Nat → S → Prop) : List Fr → Exit → S → Prop
  | [] => fun e σ => match e with
    | .normal => R σ
    | .ret => R σ
    | _ => False
  | .seq y :: k => thenQ (fun σ' => vc P Γ m base y (Kof P Γ m base R A k) σ') (Kof P Γ m base R A k)
  | .blk id :: k => blockQ id (Kof P Γ m base R A k)
  | .lp :: k => thenQ (A (lpc k)) (Kof P Γ m base R A k)

theorem Kof_ret {R : S → Prop} {A : Nat → S → Prop} : ∀ {k : List Fr} {σ : S}, R σ → Kof P Γ m base R A k .ret σ
  | [], σ, h => h
  | .seq y :: k, σ, h => Kof_ret (k := k) h
  | .blk id :: k, σ, h => Kof_ret (k := k) h
  | .lp :: k, σ, h => Kof_ret (k := k) h

theorem vc_mono : ∀ (c : Code) {Q Q' : Exit → S → Prop} {σ : S}, (∀ e σ, Q e σ → Q' e σ) → vc P Γ m base c Q σ → vc P Γ m base c Q' σ := by
  have vo : ∀ {ops : Array Oper} {o : Oper} {σ : S} {K K' : S → Prop}, (∀ σ, K σ → K' σ) → vcOp P Γ m base ops o σ K → vcOp P Γ m base ops o σ K' := by
    intro ops o σ K K' hk h
    unfold vcOp at h ⊢
    split at h
    · exact h.elim
    · rename_i g hg
      try simp only [hg]
      split at h
      · rename_i c x y ho
        try simp only [ho]
        split at h
        · rename_i b hb
          try simp only [hb]
          split at h
          · rename_i d hd
            try simp only [hd]
            exact ⟨h.1, hk _ h.2⟩
          · exact h.elim
        · exact h.elim
      · rename_i f args tys ho
        try simp only [ho]
        obtain ⟨r, h1, h2⟩ := h
        exact ⟨r, h1, hk _ h2⟩
      · rename_i op hop1 hop2
        split at h
        · exact h.elim
        · rename_i r hr
          refine ⟨h.1, ?_⟩
          have h2 := h.2
          cases he : r.eff <;> simp only [he] at h2 ⊢ <;> first | exact hk _ h2 | exact ⟨h2.1, h2.2.1, hk _ h2.2.2⟩ | exact ⟨h2.1, hk _ h2.2⟩
  have vos : ∀ {ops : Array Oper} {K K' : S → Prop}, (∀ σ, K σ → K' σ) → ∀ (l : List Oper) {σ : S}, vcOps P Γ m base ops l σ K → vcOps P Γ m base ops l σ K' := by
    intro ops K K' hk l
    induction l with
    | nil => intro σ h; exact hk _ h
    | cons o l ih => intro σ h; simp only [vcOps] at h ⊢; exact vo (fun σ' h' => ih h') h
  intro c
  induction c with
  | skip => intro Q Q' σ hq h; exact hq _ _ h
  | label _ => intro Q Q' σ hq h; exact hq _ _ h
  | seq x y ihx ihy =>
    intro Q Q' σ hq h
    simp only [vc] at h ⊢
    refine ihx (fun e σ' h' => ?_) h
    cases e <;> first | exact ihy hq h' | exact hq _ _ h'
  | cond c x y ihx ihy =>
    intro Q Q' σ hq h
    simp only [vc] at h ⊢
    split at h
    · exact ⟨h.1, fun e => ihx hq (h.2.1 e), fun e => ihy hq (h.2.2 e)⟩
    · exact h.elim
  | region id ops draw =>
    intro Q Q' σ hq h
    simp only [vc] at h ⊢
    exact ⟨h.1, vos (fun σ' h' => hq _ _ h') _ h.2⟩
  | block id c ih =>
    intro Q Q' σ hq h
    simp only [vc] at h ⊢
    refine ih (fun e σ' h' => ?_) h
    cases e with
    | exit id' =>
      simp only [blockQ] at h' ⊢
      by_cases e : id' = id
      · rw [if_pos e] at h' ⊢; exact hq _ _ h'
      · rw [if_neg e] at h' ⊢; exact hq _ _ h'
    | _ => exact hq _ _ h'
  | loop c ih =>
    intro Q Q' σ hq h
    simp only [vc] at h ⊢
    obtain ⟨α, mk, μ, p0, hl, hr⟩ := h
    refine ⟨α, mk, μ, p0, hl, fun p => ih (fun e σ' h' => ?_) (hr p)⟩
    cases e <;> first | exact h' | exact hq _ _ h'
  | exit id => intro Q Q' σ hq h; exact hq _ _ h
  | ret => intro Q Q' σ hq h; exact hq _ _ h
  | _ => intros; simp_all [vc]

def cmdP (P : Program) (Γ : Ctx) (m : Bool) (base : Nat) (K : Exit → S → Prop) : Cmd → S → Prop
  | .code c, σ => vc P Γ m base c K σ
  | .norm, σ => K .normal σ
  | .exit id, σ => K (.exit id) σ
  | .ret, σ => K .ret σ

theorem run_vc (hE : E.ok P) {R : S → Prop} {L : Code → List Fr → S → (Nat → S → Prop) → Prop}
    (hL : ∀ c k σ A, L c k σ A → vc P Γ m base (.loop c) (Kof P Γ m base R A k) σ) : ∀ (n : Nat) (c : Cmd) (k : List Fr) (σ : S) (A : Nat → S → Prop),
    den L R (run E Γ m base n c k σ) A → cmdP P Γ m base (Kof P Γ m base R A k) c σ := by
  intro n
  induction n with
  | zero => intro c k σ A h; simp only [run, den] at h
  | succ n ih =>
    intro c k σ A h
    cases c with
    | code c =>
      cases c <;> simp only [run, den] at h <;> simp only [cmdP, vc]
      case skip | label => exact ih .norm k σ A h
      case seq x y => exact ih (.code x) (.seq y :: k) σ A h
      case cond c x y =>
        split at h
        · rename_i b hb
          simp only [den] at h
          try simp only [hb]
          exact ⟨h.1, fun e => ih (.code x) k σ A (h.2.1 e), fun e => ih (.code y) k σ A (h.2.2 e)⟩
        · simp only [den] at h
      case region id ops draw =>
        split at h
        · rename_i p σ' he
          simp only [den] at h
          exact ⟨h.1, evOps_vc hE he h.2.1 (ih .norm k σ'.bump A h.2.2)⟩
        · simp only [den] at h
      case block id c => exact ih (.code c) (.blk id :: k) σ A h
      case loop c => have := hL c k σ A h; simpa only [vc] using this
      case exit id => exact ih (.exit id) k σ A h
      case ret => exact ih .ret k σ A h
    | norm =>
      cases k with
      | nil => simp only [run, den] at h; exact h
      | cons f k => cases f with
        | seq y => simp only [run] at h; exact ih (.code y) k σ A h
        | blk id => simp only [run] at h; exact ih .norm k σ A h
        | lp => simp only [run, den] at h; exact h
    | exit id =>
      cases k with
      | nil => simp only [run, den] at h
      | cons f k => cases f with
        | seq y => simp only [run] at h; exact ih (.exit id) k σ A h
        | blk id' =>
          simp only [run] at h
          show blockQ id' _ (.exit id) σ
          simp only [blockQ]
          split at h <;> rename_i e
          · rw [if_pos e]; exact ih .norm k σ A h
          · rw [if_neg e]; exact ih (.exit id) k σ A h
        | lp => simp only [run] at h; exact ih (.exit id) k σ A h
    | ret => simp only [run, den] at h; exact Kof_ret h

theorem loopP_vc (hE : E.ok P) {R : S → Prop} : ∀ (d : Nat) c k σ A, loopP E Γ m base R d c k σ A → vc P Γ m base (.loop c) (Kof P Γ m base R A k) σ := by
  intro d
  induction d with
  | zero => intro c k σ A h; simp only [loopP] at h
  | succ d ih =>
    intro c k σ A h
    simp only [loopP] at h
    obtain ⟨α, mk, μ, p0, hl, hr⟩ := h
    simp only [vc]
    refine ⟨α, mk, μ, p0, hl, fun p => ?_⟩
    obtain ⟨n, hn⟩ := hr p
    have := run_vc hE (R := R) (L := loopP E Γ m base R d) ih n (.code c) (.lp :: k) (mk p) _ hn
    simp only [cmdP] at this
    refine vc_mono c (fun e σ' h' => ?_) this
    have key : ∀ {k' : List Fr}, lpc k' ≤ lpc k → ∀ e σ', Kof P Γ m base R (fun j σ' => if j = lpc k then (∃ p', Le σ' (mk p') ∧ μ p' < μ p) else A j σ') k' e σ' → Kof P Γ m base R A k' e σ' := by
      intro k'
      induction k' with
      | nil => intro _ e σ' h; exact h
      | cons f k' ihk =>
        intro hle e σ' h
        cases f with
        | seq y => cases e <;> first | exact vc_mono y (fun e σ h => ihk hle e σ h) h | exact ihk hle _ _ h
        | blk id =>
          cases e with
          | exit id' =>
            simp only [Kof, blockQ] at h ⊢
            split at h <;> rename_i e
            · rw [if_pos e]; exact ihk hle _ _ h
            · rw [if_neg e]; exact ihk hle _ _ h
          | _ => exact ihk hle _ _ h
        | lp =>
          have hlt : lpc k' < lpc k := by simp only [lpc] at hle; omega
          cases e with
          | normal =>
            simp only [Kof, thenQ] at h ⊢
            rw [if_neg (by omega)] at h
            exact h
          | _ => exact ihk (by omega) _ _ h
    cases e with
    | normal =>
      simp only [Kof, thenQ, if_true] at h'
      exact h'
    | exit id => exact key (Nat.le_refl _) _ _ h'
    | goto l => exact key (Nat.le_refl _) _ _ h'
    | ret => exact key (Nat.le_refl _) _ _ h'
    | panic ch => exact key (Nat.le_refl _) _ _ h'
    | outgrown => exact key (Nat.le_refl _) _ _ h'

/-- what is asked of a return -/
def retP (Γ : Ctx) (rs : List ResultVar) (r : D) (σ : S) : Prop :=
  match retD Γ σ rs with
  | some ds => LeD (packD ds) r
  | none => False

theorem pc_of_run (hE : E.ok P) (hΓ : Γ.ok P) (hm : P.follows .mixedOrders = true) {f : FuncId} {fn : Func} {c : Code} {ds : List D} {r : D} (n d : Nat) (hf : P.funcs[f]? = some fn)
    (hn : (fn.name == "runtime.NumGoroutine") = false) (hb : fn.body = some c) (hp : pureD r = true) {t : T}
    (ht : run E Γ m base n (.code c) [] { ts := ds ++ List.replicate (fn.ntmps - ds.length) .any, tab := Tab.nil, gen := 0 } = t)
    (h : den (loopP E Γ m base (retP Γ fn.results.toList r) d) (retP Γ fn.results.toList r) t fun _ _ => False) : PC P f ds r := by
  subst ht
  refine pc_of_vc hΓ hm hf hn hb hp (m := m) (base := base) ?_
  have := run_vc (P := P) hE (loopP_vc hE d) n (.code c) [] _ _ h
  simp only [cmdP] at this
  refine vc_mono c (fun e σ h => ?_) this
  cases e <;> first | exact h | exact h.elim
end
end Go.Eng
namespace Go.Eng
set_option linter.unusedVariables false
set_option linter.unusedSimpArgs false

/-- the data that a type's values read as -/
def ShF (sh : TypeId → D → Prop) (sz : TypeId → Nat) : List (Nat × TypeId) → Nat → List D → Prop
  | [], _, cs => cs = []
  | (o, ft) :: r, off, cs => o = off ∧ ∃ d rest, sh ft d ∧ okD d = true ∧ cs = cellsD d ++ rest ∧ ShF sh sz r (off + sz ft) rest
def Ctx.sz (Γ : Ctx) (t : TypeId) : Nat := match Γ.get t with
  | some ti => ti.size
  | none => 0
def Sh (Γ : Ctx) : Nat → TypeId → D → Prop
  | 0, _, _ => False
  | n + 1, t, d => match Γ.get t with
    | none => False
    | some ti => match ti.kind with
      | .int k => ∃ x, d = .lit (.int k x) ∧ inR k x
      | .bool => ∃ b, d = .lit (.bool b)
      | .str => ∃ s, d = .lit (.string s) ∧ s.size ≤ maxLen
      | .slice e => ∃ m f, d = .sl false (Γ.sz e) m f ∧ m ≤ maxLen ∧ ∀ i, i < m → Sh Γ n e (f i)
      | .st fs => ∃ cs, d = .agg cs ∧ ShF (Sh Γ n) Γ.sz fs 0 cs
      | .other => False

def contig (Γ : Ctx) : List (Nat × TypeId) → Nat → Nat → Bool
  | [], off, tot => off == tot
  | (o, ft) :: r, off, tot => o == off && contig Γ r (off + Γ.sz ft) tot
/-- which types are served: every type that is met from 't' is known -/
def served (Γ : Ctx) : Nat → TypeId → Bool
  | 0, _ => false
  | n + 1, t => match Γ.get t with
    | none => false
    | some ti => match ti.kind with
      | .int _ | .bool | .str => ti.size == 1
      | .slice e => ti.size == 1 && (served Γ n e && Γ.sz e != 0)
      | .st fs => contig Γ fs 0 ti.size && fs.all fun p => served Γ n p.2
      | .other => false

theorem inR_wf {k : IntKind} {n : Int} (h : (Lit.int k n).wf = true) : inR k n := by
  cases k <;> simpa [Lit.wf, inR, IntKind.min, IntKind.max, IntKind.signed, IntKind.bits] using h

section
variable {P : Program} {Γ : Ctx} {H : Type} {enc : TypeId × Value → H} {W : World} {base : Nat} {spare : Nat → Bool} {held : Bool}

theorem sz_ok (hΓ : Γ.ok P) {t : TypeId} {n : Nat} (hs : served Γ n t = true) : P.cellsOf t = Γ.sz t := by
  cases n with
  | zero => simp [served] at hs
  | succ n =>
    simp only [served] at hs
    split at hs
    · simp at hs
    · rename_i ti hti
      have := (Ctx.get_ok hΓ hti).size
      simp only [Ctx.sz, hti, Program.cellsOf, this]; rfl

theorem ShF_all {sh : TypeId → D → Prop} {sz : TypeId → Nat} : ∀ (fs : List (Nat × TypeId)) (off : Nat) (cs : List D), ShF sh sz fs off cs → cs.all oneD = true
  | [], _, cs, h => by simp only [ShF] at h; subst h; rfl
  | (o, ft) :: r, off, cs, h => by
    simp only [ShF] at h
    obtain ⟨_, d, rest, _, hok, rfl, hr⟩ := h
    rw [List.all_append, ShF_all r _ _ hr, Bool.and_true]
    cases d <;> simp_all [Eng.okD, cellsD, oneD]
/-- some shape has every part of one cell or a struct of such -/
theorem Sh.okD {n : Nat} : ∀ {t : TypeId} {d : D}, Sh Γ n t d → okD d = true := by
  induction n with
  | zero => intro t d h; simp only [Sh] at h
  | succ n ih =>
    intro t d h
    simp only [Sh] at h
    split at h
    · exact h.elim
    · split at h
      · obtain ⟨x, rfl, _⟩ := h; rfl
      · obtain ⟨x, rfl⟩ := h; rfl
      · obtain ⟨x, rfl, _⟩ := h; rfl
      · obtain ⟨m, f, rfl, _⟩ := h; rfl
      · obtain ⟨cs, rfl, h⟩ := h
        rename_i fs _
        simp only [Eng.okD]
        exact ShF_all fs 0 cs h
      · exact h.elim

theorem value_of_cells {d : D} {F : Nat → Prop} {h : Array Obj} {β : Beta} {v : Value} (hd : okD d = true) (r : Rep F h β d v) : v.cells.size = (cellsD d).length := by
  have := (r.cells hd).length; simpa using this

theorem Reps.append {F : Nat → Prop} {h : Array Obj} {β : Beta} : ∀ {d1 d2 : List D} {v1 v2 : List Value}, Reps F h β d1 v1 → Reps F h β d2 v2 → Reps F h β (d1 ++ d2) (v1 ++ v2)
  | [], d2, v1, v2, h1, h2 => by simp only [Reps] at h1; subst h1; simpa using h2
  | d :: ds, d2, v1, v2, h1, h2 => by
    simp only [Reps] at h1
    obtain ⟨v, vs', rfl, r1, r2⟩ := h1
    simp only [List.cons_append, Reps]
    exact ⟨v, vs' ++ v2, rfl, r1, Reps.append r2 h2⟩

theorem mapM_get {α β : Type} {f : α → Option β} : ∀ {l : List α} {r : List β}, l.mapM f = some r → r.length = l.length ∧ ∀ i : Nat, (l[i]?).bind f = r[i]?
  | [], r, h => by simp at h; subst h; simp
  | x :: l, r, h => by
    simp only [List.mapM_cons, Option.bind_eq_bind, Option.pure_def] at h
    cases hx : f x with
    | none => simp [hx] at h
    | some y =>
      cases hl : l.mapM f with
      | none => simp [hx, hl] at h
      | some ys =>
        simp [hx, hl] at h; subst h
        obtain ⟨h1, h2⟩ := mapM_get hl
        refine ⟨by simp [h1], fun i => ?_⟩
        cases i with
        | zero => simp [hx]
        | succ i => simpa using h2 i

theorem cells?_get {a : Addr} {n : Nat} {l : List Value} (h : W.cells? base a n = some l) : l.length = n ∧ ∀ j, j < n → W.cell? (a.add j) = l[j]? := by
  unfold World.cells? at h
  split at h
  · obtain ⟨h1, h2⟩ := mapM_get h
    refine ⟨by simpa using h1, fun j hj => ?_⟩
    have := h2 j
    simpa [hj] using this
  · simp at h

theorem cell?_some {a : Addr} {v : Value} (h : W.cell? a = some v) : a.spot = none ∧ ∃ c e fr, W.heap[a.block]? = some (.cells c e fr) ∧ c[a.off]? = some v := by
  unfold World.cell? at h
  split at h
  · rename_i c e fr hc
    split at h
    · simp at h
    · rename_i hs; exact ⟨by simpa using hs, c, e, fr, hc, h⟩
  · simp at h

theorem trod_open (hΓ : Γ.ok P) : ∀ (fuel n : Nat) (t : TypeId) (cs : List Value) (x : DataW H × List MemPlace), served Γ n t = true → DataW.trod enc P W base spare held fuel t cs = some x →
    ∃ d, Sh Γ n t d ∧ ∃ v : Value, cs = v.cells.toList ∧ Rep (fun b => b < W.heap.size) W.heap Beta.none d v ∧ cs.length = Γ.sz t := by
  intro fuel
  induction fuel with
  | zero => intro n t cs x hs h; simp [DataW.trod] at h
  | succ fuel ih =>
    intro n t cs x hs h
    cases n with
    | zero => simp [served] at hs
    | succ n =>
      have hsz := sz_ok hΓ hs
      simp only [served] at hs
      cases hti : Γ.get t with
      | none => simp [hti] at hs
      | some ti =>
        simp only [hti] at hs
        have hok := Ctx.get_ok hΓ hti
        have hk := hok.kind
        have hz : Γ.sz t = ti.size := by simp [Ctx.sz, hti]
        simp only [Sh, hti]
        cases hkd : ti.kind with
        | int k =>
          rw [hkd] at hk
          simp only [hkd, beq_iff_eq] at hs
          obtain ⟨m, rfl, _, hw⟩ := DataW.trod_int hk h
          exact ⟨_, ⟨m, rfl, inR_wf hw⟩, .int k m, rfl, by simp only [Rep], by simp [hz, hs]⟩
        | bool =>
          rw [hkd] at hk
          simp only [hkd, beq_iff_eq] at hs
          obtain ⟨b, rfl, _⟩ := DataW.trod_bool hk h
          exact ⟨_, ⟨b, rfl⟩, .bool b, rfl, by simp only [Rep], by simp [hz, hs]⟩
        | str =>
          rw [hkd] at hk
          simp only [hkd, beq_iff_eq] at hs
          obtain ⟨b, rfl, _, hl⟩ := DataW.trod_string hk h
          exact ⟨_, ⟨b, rfl, hl⟩, .string b, rfl, by simp only [Rep], by simp [hz, hs]⟩
        | slice e =>
          rw [hkd] at hk
          simp only [hkd, Bool.and_eq_true, beq_iff_eq] at hs
          rcases DataW.trod_slice hk h with ⟨rfl, _⟩ | ⟨a, len, cap, elems, rest, n', hn', rfl, _, hb, hlc, hcm, hel, hat, _, _⟩
          · exact ⟨.sl false (Γ.sz e) 0 (fun _ => .any), ⟨0, _, rfl, Nat.zero_le _, fun i hi => absurd hi (Nat.not_lt_zero i)⟩, .slice none 0 0, rfl, by simp only [Rep]; exact .inl ⟨trivial, none, 0, rfl, by simp⟩, by simp [hz, hs.1]⟩
          · have hn'' : n' = fuel := by omega
            subst hn''
            have hce := sz_ok hΓ hs.2.1
            have each : ∀ i, i < len → ∃ d, Sh Γ n e d ∧ ∃ v : Value, Rep (fun b => b < W.heap.size) W.heap Beta.none d v ∧ v.cells.size = Γ.sz e ∧ ∀ j, j < v.cells.size → W.cell? ((a.add (i * P.cellsOf e)).add j) = v.cells[j]? := by
              intro i hi
              have h1 := hat i hi
              cases hc : W.cells? base (a.add (i * P.cellsOf e)) (P.cellsOf e) with
              | none => rw [hc] at h1; simp [List.getElem?_eq_getElem (show i < elems.length by omega)] at h1
              | some l =>
                rw [hc] at h1
                simp only [Option.bind_some, List.getElem?_eq_getElem (show i < elems.length by omega)] at h1
                obtain ⟨d, hd, v, hl, hr, hlen⟩ := ih n e l _ hs.2.1 h1
                obtain ⟨g1, g2⟩ := cells?_get hc
                subst hl
                refine ⟨d, hd, v, hr, by simpa using hlen, fun j hj => ?_⟩
                have := g2 j (by simp at g1; omega)
                simpa using this
            by_cases h0 : len = 0
            · subst h0
              exact ⟨.sl false (Γ.sz e) 0 (fun _ => .any), ⟨0, _, rfl, Nat.zero_le _, fun i hi => absurd hi (Nat.not_lt_zero i)⟩, .slice (some a) 0 cap, rfl, by simp only [Rep]; exact .inl ⟨trivial, some a, cap, rfl, by simp⟩, by simp [hz, hs.1]⟩
            · let f : Nat → D := fun i => if h : i < len then (each i h).choose else .any
              have hf : ∀ i (hi : i < len), f i = (each i hi).choose := fun i hi => by simp [f, hi]
              by_cases hse : Γ.sz e = 0
              · exact absurd hse (by simpa using hs.2.2)
              · obtain ⟨d0, hd0, v0, hr0, hv0, hc0⟩ := each 0 (by omega)
                have hcell := hc0 0 (by omega)
                simp only [Nat.zero_mul] at hcell
                have ha0 : (a.add 0).add 0 = a := by simp [Addr.add]
                rw [ha0] at hcell
                have hsome : ∃ u, W.cell? a = some u := by rw [hcell]; exact ⟨_, Array.getElem?_eq_getElem (by omega)⟩
                obtain ⟨u, hu⟩ := hsome
                obtain ⟨hspot, c, et, fr, hblk, _⟩ := cell?_some hu
                obtain ⟨ab, ao, as⟩ := a
                simp only at hspot; subst hspot
                refine ⟨.sl false (Γ.sz e) len f, ⟨len, f, rfl, Nat.le_trans hlc hcm, fun i hi => by rw [hf i hi]; exact (each i hi).choose_spec.1⟩, .slice (some ⟨ab, ao, none⟩) len cap, rfl, ?_, by simp [hz, hs.1]⟩
                simp only [Rep]
                refine .inr ⟨ab, ao, cap, c, et, fr, rfl, (Array.getElem?_eq_some_iff.1 hblk).1, hblk, hlc, by simp, fun i hi => ?_⟩
                rw [hf i hi]
                obtain ⟨_, v, hr, hv, hcs⟩ := (each i hi).choose_spec
                refine ⟨v, hr, hv, fun j hj => ?_⟩
                have h3 := hcs j hj
                rw [hce, Addr.add_lit, Addr.add_lit] at h3
                rw [← h3]
                simp [World.cell?, hblk]
        | st fs =>
          rw [hkd] at hk
          simp only [hkd, Bool.and_eq_true] at hs
          obtain ⟨arr, hu, hfs⟩ := hk
          obtain ⟨xs, n', hn', _, hlen, hxl, hat⟩ := DataW.trod_struct hu h
          have hn'' : n' = fuel := by omega
          subst hn''
          have hlen' : cs.length = ti.size := by rw [hlen, hsz, hz]
          have each : ∀ (i o : Nat) (ft : TypeId), fs[i]? = some (o, ft) → ∃ d, Sh Γ n ft d ∧ ∃ v : Value, (cs.drop o).take (Γ.sz ft) = v.cells.toList ∧ Rep (fun b => b < W.heap.size) W.heap Beta.none d v ∧ ((cs.drop o).take (Γ.sz ft)).length = Γ.sz ft := by
            intro i o ft hi
            obtain ⟨fld, hf1, rfl, rfl⟩ := st_field hfs hi
            have hsv : served Γ n fld.type = true := List.all_eq_true.1 hs.2 _ (List.mem_of_getElem? hi)
            have h1 := hat i fld hf1
            have hil : i < xs.length := by rw [hxl]; exact (Array.getElem?_eq_some_iff.1 hf1).1
            rw [List.getElem?_eq_getElem hil, sz_ok hΓ hsv] at h1
            obtain ⟨d, hd, v, hv, hr, hl⟩ := ih n fld.type _ _ hsv h1
            exact ⟨d, hd, v, hv, hr, hl⟩
          have build : ∀ (r : List (Nat × TypeId)) (off : Nat), contig Γ r off ti.size = true → off ≤ ti.size → (∀ (i o : Nat) (ft : TypeId), r[i]? = some (o, ft) → ∃ d, Sh Γ n ft d ∧ ∃ v : Value, (cs.drop o).take (Γ.sz ft) = v.cells.toList ∧ Rep (fun b => b < W.heap.size) W.heap Beta.none d v ∧ ((cs.drop o).take (Γ.sz ft)).length = Γ.sz ft) →
              ∃ ds, ShF (Sh Γ n) Γ.sz r off ds ∧ Reps (fun b => b < W.heap.size) W.heap Beta.none ds (cs.drop off) := by
            intro r
            induction r with
            | nil =>
              intro off hc hle _
              simp only [contig, beq_iff_eq] at hc
              refine ⟨[], rfl, ?_⟩
              simp only [Reps]
              exact List.drop_eq_nil_of_le (by omega)
            | cons p r ihr =>
              obtain ⟨o, ft⟩ := p
              intro off hc hle he
              simp only [contig, Bool.and_eq_true, beq_iff_eq] at hc
              obtain ⟨rfl, hc⟩ := hc
              obtain ⟨d, hd, v, hv, hr, hl⟩ := he 0 o ft rfl
              have hle' : o + Γ.sz ft ≤ ti.size := by
                simp only [List.length_take, List.length_drop] at hl; omega
              obtain ⟨ds, h1, h2⟩ := ihr (o + Γ.sz ft) hc hle' (fun i o' ft' hi => he (i + 1) o' ft' (by simpa using hi))
              refine ⟨cellsD d ++ ds, ⟨rfl, d, ds, hd, Sh.okD hd, rfl, h1⟩, ?_⟩
              have h3 := hr.cells (Sh.okD hd)
              rw [← hv] at h3
              have h4 := Reps.append h3 h2
              have : (cs.drop o).take (Γ.sz ft) ++ cs.drop (o + Γ.sz ft) = cs.drop o := by
                rw [← List.drop_drop]; exact List.take_append_drop _ _
              rw [this] at h4
              exact h4
          obtain ⟨ds, h1, h2⟩ := build fs 0 hs.1 (Nat.zero_le _) each
          refine ⟨.agg ds, ⟨ds, rfl, h1⟩, .agg cs.toArray, by simp [Value.cells], ?_, by rw [hlen', hz]⟩
          simp only [Rep]
          exact ⟨cs, rfl, by simpa using h2⟩
        | other => simp [hkd] at hs
end
end Go.Eng
namespace Go.Eng
open Go.ChangeShapes Go.WideShapes Go.RowKit
set_option linter.unusedVariables false
set_option linter.unusedSimpArgs false
section
variable {P : Program} {Γ : Ctx} {H : Type} {enc : TypeId × Value → H} {W : World} {spare : Nat → Bool} {held : Bool}

theorem arg_open (hΓ : Γ.ok P) {n : Nat} {t : TypeId} {v : Value} {x : DataW H} {ps : List MemPlace} {r : Reach} {b0 : Nat} (hs : served Γ n t = true) (hval : Value.okWide P W r b0 t v)
    (h : DataW.Trod enc P W 0 spare held t v x ps) : ∃ d, Sh Γ n t d ∧ Rep (fun b => b < W.heap.size) W.heap Beta.none d v := by
  obtain ⟨fuel, hf⟩ := h
  obtain ⟨d, hd, v', hv, hr, _⟩ := trod_open hΓ fuel n t _ _ hs hf
  refine ⟨d, hd, ?_⟩
  have hv2 : v.cells = v'.cells := by apply Array.ext'; exact hv
  have : v = v' := by
    cases n with
    | zero => simp [served] at hs
    | succ n =>
      simp only [served] at hs
      simp only [Sh] at hd
      cases hti : Γ.get t with
      | none => simp [hti] at hs
      | some ti =>
        simp only [hti] at hs hd
        have hk := (Ctx.get_ok hΓ hti).kind
        cases hkd : ti.kind with
        | int k =>
          rw [hkd] at hk; simp only [hkd] at hd
          obtain ⟨y, rfl, _⟩ := hd
          obtain ⟨z, rfl⟩ := okWide_int hk hval
          simp only [Rep] at hr; subst hr
          simpa [Value.cells] using hv2
        | bool =>
          rw [hkd] at hk; simp only [hkd] at hd
          obtain ⟨y, rfl⟩ := hd
          obtain ⟨z, rfl⟩ := okWide_bool hk hval
          simp only [Rep] at hr; subst hr
          simpa [Value.cells] using hv2
        | str =>
          rw [hkd] at hk; simp only [hkd] at hd
          obtain ⟨y, rfl, _⟩ := hd
          simp only [Rep] at hr; subst hr
          simp only [Value.okWide, hk, TK.ok] at hval
          have hk' : P.underlying t = some .string := hk
          simp only [hk', Cell.okWide] at hval
          cases v <;> simp_all [Cell.ok, Value.cells]
        | slice e =>
          rw [hkd] at hk; simp only [hkd] at hd
          obtain ⟨m, f, rfl, _⟩ := hd
          obtain ⟨a, len, cap, rfl⟩ := okWide_slice hk hval
          have hone : v'.oneCell' = true := oneD_oneCell (d := .sl false (Γ.sz e) m f) rfl hr
          rw [cells_of_one hone] at hv2
          simpa [Value.cells] using hv2
        | st fs =>
          rw [hkd] at hk; simp only [hkd] at hd
          obtain ⟨arr, hu, _⟩ := hk
          obtain ⟨cs, rfl, _⟩ := hd
          obtain ⟨c, rfl, _⟩ := okWide_struct hu hval
          simp only [Rep] at hr
          obtain ⟨vs, rfl, _⟩ := hr
          simpa [Value.cells] using hv2
        | other => simp [hkd] at hs
  rw [this]; exact hr

theorem below_frame {W' : World} (h : Below W.heap.size W W') (may : MemPlace → Prop) : W.keptBut W' may := h.frame _
end
end Go.Eng
