/- The engine: Go text read on data. What a function answers is told of data (integers, strings, structs, slices as rows, memory of one's own); a text's run is reckoned on data, and every run of the model follows it, in whatever order a statement is carried out. No condition of its own. -/
import Derived.Test.YtdbhfkbfajljpaaEngD
import Derived.Below
import Derived.WideShapes
import Derived.ProofKit
import Derived.OpenShut
import Derived.Carry
import Derived.KernelRfl
import GoSem.Claims
import Derived.JoinedOf
import Derived.Laws.StructEq
import Derived.ChangeVars
import Derived.ChangeOld
import Derived.LaidMore
import Derived.Sort.Grow
import Derived.Deep.Draws
import Derived.Sort.Row
namespace Go.Eng
variable [HasG]
set_option linter.unusedSectionVars false
set_option linter.unusedVariables false
set_option linter.unusedSimpArgs false

/-- the data that a type's values read as -/
def ShF (sh : TypeId → D → Prop) (sz : TypeId → Nat) : List (Nat × TypeId) → Nat → List D → Prop
  | [], _, cs => cs = []
  | (o, ft) :: r, off, cs => o = off ∧ ∃ d rest, sh ft d ∧ okD d = true ∧ cs = cellsD d ++ rest ∧ ShF sh sz r (off + sz ft) rest
def Ctx.sz (Γ : Ctx) (t : TypeId) : Nat := match Γ.get t with
  | some ti => ti.size
  | none => 0
def Ctx.yz (Γ : Ctx) (t : TypeId) : D := match Γ.get t with
  | some ti => ti.y
  | none => .any
def Sh (Γ : Ctx) : Nat → TypeId → D → Prop
  | 0, _, _ => False
  | n + 1, t, d => match Γ.get t with
    | none => False
    | some ti => match ti.kind with
      | .int k => ∃ x, d = .lit (.int k x) ∧ inR k x
      | .bool => ∃ b, d = .lit (.bool b)
      | .str => ∃ s, d = .lit (.string s) ∧ s.size ≤ maxLen
      | .slice e => ∃ xs, d = .sl false (Γ.sz e) (Γ.yz e) xs ∧ xs.length ≤ maxLen ∧ ∀ x ∈ xs, Sh Γ n e x
      | .st fs => ∃ cs, d = .agg cs ∧ ShF (Sh Γ n) Γ.sz fs 0 cs
      | _ => False

def contig (Γ : Ctx) : List (Nat × TypeId) → Nat → Nat → Bool
  | [], off, tot => off == tot
  | (o, ft) :: r, off, tot => o == off && contig Γ r (off + Γ.sz ft) tot
/-- which types are served: every type that is met from 't' is known -/
def served (Γ : Ctx) : Nat → TypeId → Bool
  | 0, _ => false
  | n + 1, t => match Γ.get t with
    | none => false
    | some ti => match ti.kind with
      | .int _ | .bool | .str => ti.size == 1
      | .slice e => ti.size == 1 && (served Γ n e && Γ.sz e != 0)
      | .st fs => contig Γ fs 0 ti.size && fs.all fun p => served Γ n p.2
      | _ => false

theorem inR_wf {k : IntKind} {n : Int} (h : (Lit.int k n).wf = true) : inR k n := by
  cases k <;> simpa [Lit.wf, inR, IntKind.min, IntKind.max, IntKind.signed, IntKind.bits] using h

section
variable {P : Program} {Γ : Ctx} {H : Type} {enc : TypeId × Value → H} {W : World} {base : Nat} {spare : Nat → Bool} {held : Bool}

theorem sz_ok (hΓ : Γ.ok P) {t : TypeId} {n : Nat} (hs : served Γ n t = true) : P.cellsOf t = Γ.sz t := by
  cases n with
  | zero => simp [served] at hs
  | succ n =>
    simp only [served] at hs
    split at hs
    · simp at hs
    · rename_i ti hti
      have := (Ctx.get_ok hΓ hti).size
      simp only [Ctx.sz, hti, Program.cellsOf, this]; rfl

theorem ShF_all {sh : TypeId → D → Prop} {sz : TypeId → Nat} : ∀ (fs : List (Nat × TypeId)) (off : Nat) (cs : List D), ShF sh sz fs off cs → cs.all oneD = true
  | [], _, cs, h => by simp only [ShF] at h; subst h; rfl
  | (o, ft) :: r, off, cs, h => by
    simp only [ShF] at h
    obtain ⟨_, d, rest, _, hok, rfl, hr⟩ := h
    rw [List.all_append, ShF_all r _ _ hr, Bool.and_true]
    cases d <;> simp_all [Eng.okD, cellsD, oneD]
/-- some shape has every part of one cell or a struct of such -/
theorem Sh.okD {n : Nat} : ∀ {t : TypeId} {d : D}, Sh Γ n t d → okD d = true := by
  induction n with
  | zero => intro t d h; simp only [Sh] at h
  | succ n ih =>
    intro t d h
    simp only [Sh] at h
    split at h
    · exact h.elim
    · split at h
      · obtain ⟨x, rfl, _⟩ := h; rfl
      · obtain ⟨x, rfl⟩ := h; rfl
      · obtain ⟨x, rfl, _⟩ := h; rfl
      · obtain ⟨xs, rfl, _⟩ := h; rfl
      · obtain ⟨cs, rfl, h⟩ := h
        rename_i fs _
        simp only [Eng.okD]
        exact ShF_all fs 0 cs h
      · exact h.elim

theorem value_of_cells {d : D} {F : Nat → Prop} {h : Array Obj} {β : Beta} {v : Value} (hd : okD d = true) (r : Rep F h β d v) : v.cells.size = (cellsD d).length := by
  have := (r.cells hd).length; simpa using this

theorem mapM_get {α β : Type} {f : α → Option β} : ∀ {l : List α} {r : List β}, l.mapM f = some r → r.length = l.length ∧ ∀ i : Nat, (l[i]?).bind f = r[i]?
  | [], r, h => by simp at h; subst h; simp
  | x :: l, r, h => by
    simp only [List.mapM_cons, Option.bind_eq_bind, Option.pure_def] at h
    cases hx : f x with
    | none => simp [hx] at h
    | some y =>
      cases hl : l.mapM f with
      | none => simp [hx, hl] at h
      | some ys =>
        simp [hx, hl] at h; subst h
        obtain ⟨h1, h2⟩ := mapM_get hl
        refine ⟨by simp [h1], fun i => ?_⟩
        cases i with
        | zero => simp [hx]
        | succ i => simpa using h2 i

theorem cells?_get {a : Addr} {n : Nat} {l : List Value} (h : W.cells? base a n = some l) : l.length = n ∧ ∀ j, j < n → W.cell? (a.add j) = l[j]? := by
  unfold World.cells? at h
  split at h
  · obtain ⟨h1, h2⟩ := mapM_get h
    refine ⟨by simpa using h1, fun j hj => ?_⟩
    have := h2 j
    simpa [hj] using this
  · simp at h

theorem cell?_some {a : Addr} {v : Value} (h : W.cell? a = some v) : a.spot = none ∧ ∃ c e fr, W.heap[a.block]? = some (.cells c e fr) ∧ c[a.off]? = some v := by
  unfold World.cell? at h
  split at h
  · rename_i c e fr hc
    split at h
    · simp at h
    · rename_i hs; exact ⟨by simpa using hs, c, e, fr, hc, h⟩
  · simp at h

theorem trod_open (hΓ : Γ.ok P) : ∀ (fuel n : Nat) (t : TypeId) (cs : List Value) (x : DataW H × List MemPlace), served Γ n t = true → DataW.trod enc P W base spare held fuel t cs = some x →
    ∃ d, Sh Γ n t d ∧ ∃ v : Value, cs = v.cells.toList ∧ Rep (fun b => b < W.heap.size) W.heap Beta.none d v ∧ cs.length = Γ.sz t := by
  intro fuel
  induction fuel with
  | zero => intro n t cs x hs h; simp [DataW.trod] at h
  | succ fuel ih =>
    intro n t cs x hs h
    cases n with
    | zero => simp [served] at hs
    | succ n =>
      have hsz := sz_ok hΓ hs
      simp only [served] at hs
      cases hti : Γ.get t with
      | none => simp [hti] at hs
      | some ti =>
        simp only [hti] at hs
        have hok := Ctx.get_ok hΓ hti
        have hk := hok.kind
        have hz : Γ.sz t = ti.size := by simp [Ctx.sz, hti]
        simp only [Sh, hti]
        cases hkd : ti.kind with
        | int k =>
          rw [hkd] at hk
          simp only [hkd, beq_iff_eq] at hs
          obtain ⟨m, rfl, _, hw⟩ := DataW.trod_int hk h
          exact ⟨_, ⟨m, rfl, inR_wf hw⟩, .int k m, rfl, by simp only [Rep], by simp [hz, hs]⟩
        | bool =>
          rw [hkd] at hk
          simp only [hkd, beq_iff_eq] at hs
          obtain ⟨b, rfl, _⟩ := DataW.trod_bool hk h
          exact ⟨_, ⟨b, rfl⟩, .bool b, rfl, by simp only [Rep], by simp [hz, hs]⟩
        | str =>
          rw [hkd] at hk
          simp only [hkd, beq_iff_eq] at hs
          obtain ⟨b, rfl, _, hl⟩ := DataW.trod_string hk h
          exact ⟨_, ⟨b, rfl, hl⟩, .string b, rfl, by simp only [Rep], by simp [hz, hs]⟩
        | slice e =>
          rw [hkd] at hk
          simp only [hkd, Bool.and_eq_true, beq_iff_eq] at hs
          rcases DataW.trod_slice hk h with ⟨rfl, _⟩ | ⟨a, len, cap, elems, rest, n', hn', rfl, _, hb, hlc, hcm, hel, hat, _, _⟩
          · exact ⟨.sl false (Γ.sz e) (Γ.yz e) [], ⟨[], rfl, Nat.zero_le _, fun x hx => by simp at hx⟩, .slice none 0 0, rfl, by simp only [Rep]; exact .inl ⟨trivial, none, 0, rfl, by simp⟩, by simp [hz, hs.1]⟩
          · have hn'' : n' = fuel := by omega
            subst hn''
            have hce := sz_ok hΓ hs.2.1
            have each : ∀ i, i < len → ∃ d, Sh Γ n e d ∧ ∃ v : Value, Rep (fun b => b < W.heap.size) W.heap Beta.none d v ∧ v.cells.size = Γ.sz e ∧ ∀ j, j < v.cells.size → W.cell? ((a.add (i * P.cellsOf e)).add j) = v.cells[j]? := by
              intro i hi
              have h1 := hat i hi
              cases hc : W.cells? base (a.add (i * P.cellsOf e)) (P.cellsOf e) with
              | none => rw [hc] at h1; simp [List.getElem?_eq_getElem (show i < elems.length by omega)] at h1
              | some l =>
                rw [hc] at h1
                simp only [Option.bind_some, List.getElem?_eq_getElem (show i < elems.length by omega)] at h1
                obtain ⟨d, hd, v, hl, hr, hlen⟩ := ih n e l _ hs.2.1 h1
                obtain ⟨g1, g2⟩ := cells?_get hc
                subst hl
                refine ⟨d, hd, v, hr, by simpa using hlen, fun j hj => ?_⟩
                have := g2 j (by simp at g1; omega)
                simpa using this
            by_cases h0 : len = 0
            · subst h0
              exact ⟨.sl false (Γ.sz e) (Γ.yz e) [], ⟨[], rfl, Nat.zero_le _, fun x hx => by simp at hx⟩, .slice (some a) 0 cap, rfl, by simp only [Rep]; exact .inl ⟨trivial, some a, cap, rfl, by simp⟩, by simp [hz, hs.1]⟩
            · have each' : ∃ xs : List D, xs.length = len ∧ ∀ i (hi : i < xs.length), Sh Γ n e xs[i] ∧ ∃ v : Value, Rep (fun b => b < W.heap.size) W.heap Beta.none xs[i] v ∧ v.cells.size = Γ.sz e ∧ ∀ j, j < v.cells.size → W.cell? ((a.add (i * P.cellsOf e)).add j) = v.cells[j]? := by
                refine ⟨List.ofFn fun i : Fin len => (each i.1 i.2).choose, by simp, fun i hi => ?_⟩
                have hi' : i < len := by simpa using hi
                simp only [List.getElem_ofFn]
                exact (each i hi').choose_spec
              obtain ⟨xs, hxlen, hxs⟩ := each'
              by_cases hse : Γ.sz e = 0
              · exact absurd hse (by simpa using hs.2.2)
              · obtain ⟨d0, hd0, v0, hr0, hv0, hc0⟩ := each 0 (by omega)
                have hcell := hc0 0 (by omega)
                simp only [Nat.zero_mul] at hcell
                have ha0 : (a.add 0).add 0 = a := by simp [Addr.add]
                rw [ha0] at hcell
                have hsome : ∃ u, W.cell? a = some u := by rw [hcell]; exact ⟨_, Array.getElem?_eq_getElem (by omega)⟩
                obtain ⟨u, hu⟩ := hsome
                obtain ⟨hspot, c, et, fr, hblk, _⟩ := cell?_some hu
                obtain ⟨ab, ao, as⟩ := a
                simp only at hspot; subst hspot
                refine ⟨.sl false (Γ.sz e) (Γ.yz e) xs, ⟨xs, rfl, by rw [hxlen]; exact Nat.le_trans hlc hcm, fun x hx => by obtain ⟨i, hi, rfl⟩ := List.getElem_of_mem hx; exact (hxs i hi).1⟩, .slice (some ⟨ab, ao, none⟩) len cap, rfl, ?_, by simp [hz, hs.1]⟩
                simp only [Rep]
                refine .inr ⟨ab, ao, cap, c, et, fr, by rw [hxlen], (Array.getElem?_eq_some_iff.1 hblk).1, hblk, by rw [hxlen]; exact hlc, by simp, Repx.of_get fun i hi => ?_⟩
                obtain ⟨hsh, v, hr, hv, hcs⟩ := hxs i hi
                refine ⟨v, hr, ⟨Sh.okD hsh, hv⟩, fun j hj => ?_⟩
                have h3 := hcs j hj
                rw [hce, Addr.add_lit, Addr.add_lit] at h3
                rw [← h3]
                simp [World.cell?, hblk]
        | st fs =>
          rw [hkd] at hk
          simp only [hkd, Bool.and_eq_true] at hs
          obtain ⟨arr, hu, hfs⟩ := hk
          obtain ⟨xs, n', hn', _, hlen, hxl, hat⟩ := DataW.trod_struct hu h
          have hn'' : n' = fuel := by omega
          subst hn''
          have hlen' : cs.length = ti.size := by rw [hlen, hsz, hz]
          have each : ∀ (i o : Nat) (ft : TypeId), fs[i]? = some (o, ft) → ∃ d, Sh Γ n ft d ∧ ∃ v : Value, (cs.drop o).take (Γ.sz ft) = v.cells.toList ∧ Rep (fun b => b < W.heap.size) W.heap Beta.none d v ∧ ((cs.drop o).take (Γ.sz ft)).length = Γ.sz ft := by
            intro i o ft hi
            obtain ⟨fld, hf1, rfl, rfl⟩ := st_field hfs hi
            have hsv : served Γ n fld.type = true := List.all_eq_true.1 hs.2 _ (List.mem_of_getElem? hi)
            have h1 := hat i fld hf1
            have hil : i < xs.length := by rw [hxl]; exact (Array.getElem?_eq_some_iff.1 hf1).1
            rw [List.getElem?_eq_getElem hil, sz_ok hΓ hsv] at h1
            obtain ⟨d, hd, v, hv, hr, hl⟩ := ih n fld.type _ _ hsv h1
            exact ⟨d, hd, v, hv, hr, hl⟩
          have build : ∀ (r : List (Nat × TypeId)) (off : Nat), contig Γ r off ti.size = true → off ≤ ti.size → (∀ (i o : Nat) (ft : TypeId), r[i]? = some (o, ft) → ∃ d, Sh Γ n ft d ∧ ∃ v : Value, (cs.drop o).take (Γ.sz ft) = v.cells.toList ∧ Rep (fun b => b < W.heap.size) W.heap Beta.none d v ∧ ((cs.drop o).take (Γ.sz ft)).length = Γ.sz ft) →
              ∃ ds, ShF (Sh Γ n) Γ.sz r off ds ∧ Reps (fun b => b < W.heap.size) W.heap Beta.none ds (cs.drop off) := by
            intro r
            induction r with
            | nil =>
              intro off hc hle _
              simp only [contig, beq_iff_eq] at hc
              refine ⟨[], rfl, ?_⟩
              simp only [Reps]
              exact List.drop_eq_nil_of_le (by omega)
            | cons p r ihr =>
              obtain ⟨o, ft⟩ := p
              intro off hc hle he
              simp only [contig, Bool.and_eq_true, beq_iff_eq] at hc
              obtain ⟨rfl, hc⟩ := hc
              obtain ⟨d, hd, v, hv, hr, hl⟩ := he 0 o ft rfl
              have hle' : o + Γ.sz ft ≤ ti.size := by
                simp only [List.length_take, List.length_drop] at hl; omega
              obtain ⟨ds, h1, h2⟩ := ihr (o + Γ.sz ft) hc hle' (fun i o' ft' hi => he (i + 1) o' ft' (by simpa using hi))
              refine ⟨cellsD d ++ ds, ⟨rfl, d, ds, hd, Sh.okD hd, rfl, h1⟩, ?_⟩
              have h3 := hr.cells (Sh.okD hd)
              rw [← hv] at h3
              have h4 := h3.append h2
              have : (cs.drop o).take (Γ.sz ft) ++ cs.drop (o + Γ.sz ft) = cs.drop o := by
                rw [← List.drop_drop]; exact List.take_append_drop _ _
              rw [this] at h4
              exact h4
          obtain ⟨ds, h1, h2⟩ := build fs 0 hs.1 (Nat.zero_le _) each
          refine ⟨.agg ds, ⟨ds, rfl, h1⟩, .agg cs.toArray, by simp [Value.cells], ?_, by rw [hlen', hz]⟩
          simp only [Rep]
          exact ⟨cs, rfl, by simpa using h2⟩
        | _ => simp [hkd] at hs
end

open Go.ChangeShapes Go.WideShapes Go.RowKit
section
variable {P : Program} {Γ : Ctx} {H : Type} {enc : TypeId × Value → H} {W : World} {spare : Nat → Bool} {held : Bool}

theorem arg_open (hΓ : Γ.ok P) {n : Nat} {t : TypeId} {v : Value} {x : DataW H} {ps : List MemPlace} {r : Reach} {b0 : Nat} (hs : served Γ n t = true) (hval : Value.okWide P W r b0 t v)
    (h : DataW.Trod enc P W 0 spare held t v x ps) : ∃ d, Sh Γ n t d ∧ Rep (fun b => b < W.heap.size) W.heap Beta.none d v := by
  obtain ⟨fuel, hf⟩ := h
  obtain ⟨d, hd, v', hv, hr, _⟩ := trod_open hΓ fuel n t _ _ hs hf
  refine ⟨d, hd, ?_⟩
  have hv2 : v.cells = v'.cells := by apply Array.ext'; exact hv
  have : v = v' := by
    cases n with
    | zero => simp [served] at hs
    | succ n =>
      simp only [served] at hs
      simp only [Sh] at hd
      cases hti : Γ.get t with
      | none => simp [hti] at hs
      | some ti =>
        simp only [hti] at hs hd
        have hk := (Ctx.get_ok hΓ hti).kind
        cases hkd : ti.kind with
        | int k =>
          rw [hkd] at hk; simp only [hkd] at hd
          obtain ⟨y, rfl, _⟩ := hd
          obtain ⟨z, rfl⟩ := okWide_int hk hval
          simp only [Rep] at hr; subst hr
          simpa [Value.cells] using hv2
        | bool =>
          rw [hkd] at hk; simp only [hkd] at hd
          obtain ⟨y, rfl⟩ := hd
          obtain ⟨z, rfl⟩ := okWide_bool hk hval
          simp only [Rep] at hr; subst hr
          simpa [Value.cells] using hv2
        | str =>
          rw [hkd] at hk; simp only [hkd] at hd
          obtain ⟨y, rfl, _⟩ := hd
          simp only [Rep] at hr; subst hr
          simp only [Value.okWide, hk, TK.ok] at hval
          have hk' : P.underlying t = some .string := hk
          simp only [hk', Cell.okWide] at hval
          cases v <;> simp_all [Cell.ok, Value.cells]
        | slice e =>
          rw [hkd] at hk; simp only [hkd] at hd
          obtain ⟨xs, rfl, _⟩ := hd
          obtain ⟨a, len, cap, rfl⟩ := okWide_slice hk hval
          have hone : v'.oneCell' = true := oneD_oneCell (d := .sl false (Γ.sz e) (Γ.yz e) xs) rfl hr
          rw [cells_of_one hone] at hv2
          simpa [Value.cells] using hv2
        | st fs =>
          rw [hkd] at hk; simp only [hkd] at hd
          obtain ⟨arr, hu, _⟩ := hk
          obtain ⟨cs, rfl, _⟩ := hd
          obtain ⟨c, rfl, _⟩ := okWide_struct hu hval
          simp only [Rep] at hr
          obtain ⟨vs, rfl, _⟩ := hr
          simpa [Value.cells] using hv2
        | _ => simp [hkd] at hs
  rw [this]; exact hr

theorem below_frame {W' : World} (h : Below W.heap.size W W') (may : MemPlace → Prop) : W.keptBut W' may := h.frame _
end
end Go.Eng
namespace Go.Eng
variable [HasG]
set_option linter.unusedSectionVars false
set_option linter.unusedVariables false
set_option linter.unusedSimpArgs false

theorem tget_nil (t : Nat) : tget Ts.nil t = .any := rfl
theorem up_up (ts : Ts) (t : Nat) (d e : D) : (ts.up t d).up t e = ts.up t e := by
  funext u; simp only [Ts.up]; split <;> rfl
theorem set_set (T : Tab) (n : Nm) (o p : OO) : (T.set n o).set n p = T.set n p := by
  funext u; simp only [Tab.set]; split <;> rfl
theorem get_nil (n : Nm) : Tab.nil.get n = none := rfl
theorem mkS_ts (l : List (Nat × D)) (L : List (Nm × OO)) (g : Nat) : (mkS l L g).ts = Ts.of l := rfl
/-- lists of typed values -/
def ML {α : Type} (enc : α → D) (l : List α) : List D := l.map enc
section
variable {α : Type} {enc : α → D}
theorem ML_len (l : List α) : (ML enc l).length = l.length := by simp [ML]
theorem ML_nil : ML enc [] = [] := rfl
theorem ML_app (l l' : List α) : ML enc l ++ ML enc l' = ML enc (l ++ l') := by simp [ML]
theorem ML_snoc (l : List α) (x : α) : ML enc l ++ [enc x] = ML enc (l ++ [x]) := by simp [ML]
theorem ML_drop (l : List α) (k : Nat) : (ML enc l).drop k = ML enc (l.drop k) := by simp [ML]
theorem ML_take (l : List α) (k : Nat) : (ML enc l).take k = ML enc (l.take k) := by simp [ML]
theorem ML_set (l : List α) (k : Nat) (x : α) : (ML enc l).set k (enc x) = ML enc (l.set k x) := by simp [ML]
theorem ML_rep (n : Nat) (x : α) : List.replicate n (enc x) = ML enc (List.replicate n x) := by simp [ML]
theorem ML_empty (l : List α) : (ML enc l).isEmpty = l.isEmpty := by simp [ML]
theorem ML_getD (l : List α) (k : Nat) (x : α) : (ML enc l).getD k (enc x) = enc (l.getD k x) := by simp [ML, List.getD]
theorem ML_inj (h : ∀ x y, enc x = enc y → x = y) {l l' : List α} : ML enc l = ML enc l' ↔ l = l' := by
  refine ⟨fun e => ?_, fun e => by rw [e]⟩
  exact List.map_inj_right (fun {x y} => h x y) |>.1 e
theorem ML_eq_nil (l : List α) : (ML enc l = []) = (l = []) := by simp [ML]
theorem ML_view (l : List α) (o n : Nat) : viewL (ML enc l) o n = ML enc (if o = 0 ∧ n = l.length then l else (l.drop o).take n) := by
  simp only [viewL, ML_len, ML_drop, ML_take]; split <;> rfl
theorem ML_pure (h : ∀ x, pureD (enc x) = true) : ∀ (l : List α), puresD (ML enc l) = true
  | [] => rfl
  | x :: l => by
    have := ML_pure h l
    simp only [ML] at this
    simp only [ML, List.map_cons, puresD, h, this, Bool.and_self]
theorem ML_all {f : D → Bool} (h : ∀ x, f (enc x) = true) : ∀ (l : List α), (ML enc l).all f = true
  | [] => rfl
  | x :: l => by
    have := ML_all h l
    simp only [ML, List.map_cons, List.all_cons, h x, Bool.true_and] at this ⊢
    exact this
theorem ML_flat (h : ∀ x, flatD (enc x) = true) : ∀ (l : List α), flatDs (ML enc l) = true
  | [] => rfl
  | x :: l => by
    have := ML_flat h l
    simp only [ML] at this
    simp only [ML, List.map_cons, flatDs, h, this, Bool.and_self]
/-- what a law is given -/
theorem Sh_list {Γ : Ctx} {n : Nat} {e : TypeId} {wf : α → Prop} (h : ∀ d, Sh Γ n e d → ∃ x, d = enc x ∧ wf x) {xs : List D} (hx : ∀ d ∈ xs, Sh Γ n e d) : ∃ l : List α, xs = ML enc l ∧ ∀ x ∈ l, wf x := by
  induction xs with
  | nil => exact ⟨[], rfl, by simp⟩
  | cons d xs ih =>
    obtain ⟨x, rfl, hw⟩ := h d (hx d (by simp))
    obtain ⟨l, rfl, hl⟩ := ih fun d hd => hx d (by simp [hd])
    exact ⟨x :: l, rfl, fun y hy => by rcases List.mem_cons.1 hy with rfl | hy; exact hw; exact hl y hy⟩
end

/-! ### contracts of typed functions -/
/-- empty slices are alike -/
def nz1 : D → D
  | .sl t s z xs => if xs = [] then .sl t 0 .any [] else .sl t s z xs
  | d => d
def nz : D → D
  | .agg cs => .agg (cs.map nz1)
  | d => nz1 d
theorem nz1_sl {t : Bool} {s : Nat} {z : D} {xs ys : List D} : nz1 (.sl t s z xs) = nz1 (.sl t s z ys) ↔ xs = ys := by
  simp only [nz1]
  by_cases h : xs = []
  · subst h
    by_cases h' : ys = []
    · subst h'; simp
    · rw [if_pos rfl, if_neg h']
      refine ⟨fun e => ?_, fun e => absurd e.symm h'⟩
      simp only [D.sl.injEq] at e
      exact e.2.2.2
  · by_cases h' : ys = []
    · subst h'
      rw [if_pos rfl, if_neg h]
      refine ⟨fun e => ?_, fun e => absurd e h⟩
      simp only [D.sl.injEq] at e
      exact e.2.2.2
    · simp [h, h']
theorem rep_nz1 {F : Nat → Prop} {hp : Array Obj} {β : Beta} {d : D} {v : Value} : Rep F hp β (nz1 d) v ↔ Rep F hp β d v := by
  unfold nz1
  split
  · rename_i t s z xs
    split
    · rename_i e; subst e
      simp only [Rep]
      constructor
      · rintro (⟨_, q, cap, h1, h2⟩ | ⟨b, off, cap, c, e, fr, h1, h2, h3, h4, h5, h6⟩)
        · exact .inl ⟨trivial, q, cap, h1, h2⟩
        · exact .inl ⟨trivial, _, _, h1, h5⟩
      · rintro (⟨_, q, cap, h1, h2⟩ | ⟨b, off, cap, c, e, fr, h1, h2, h3, h4, h5, h6⟩)
        · exact .inl ⟨trivial, q, cap, h1, h2⟩
        · exact .inl ⟨trivial, _, _, h1, h5⟩
    · exact Iff.rfl
  · exact Iff.rfl
theorem reps_nz1 {F : Nat → Prop} {hp : Array Obj} {β : Beta} : ∀ {ds : List D} {vs : List Value}, Reps F hp β (ds.map nz1) vs ↔ Reps F hp β ds vs
  | [], _ => by simp only [List.map_nil, Reps]
  | d :: ds, _ => by simp only [List.map_cons, Reps, rep_nz1, reps_nz1 (ds := ds)]
theorem rep_nz {F : Nat → Prop} {hp : Array Obj} {β : Beta} {d : D} {v : Value} : Rep F hp β (nz d) v ↔ Rep F hp β d v := by
  unfold nz
  split
  · simp only [Rep, reps_nz1]
  · exact rep_nz1
theorem reps_nz {F : Nat → Prop} {hp : Array Obj} {β : Beta} : ∀ {ds : List D} {vs : List Value}, Reps F hp β (ds.map nz) vs ↔ Reps F hp β ds vs
  | [], _ => by simp only [List.map_nil, Reps]
  | d :: ds, _ => by simp only [List.map_cons, Reps, rep_nz, reps_nz (ds := ds)]
open Classical in
noncomputable def mkCon (f : FuncId) (own : Bool) {α : Type} (args : α → List D) (tin : α → List (Nm × OO)) (pre : α → Prop) (res : α → D) (tout : α → List (Nm × OO)) : Con :=
  ⟨f, own, fun ds ti => if h : ∃ x, (args x).map nz = ds.map nz ∧ tin x = ti then some (pre h.choose, res h.choose, tout h.choose) else none⟩
theorem mkCon_fn {f : FuncId} {own : Bool} {α : Type} {args : α → List D} {tin : α → List (Nm × OO)} {pre : α → Prop} {res : α → D} {tout : α → List (Nm × OO)}
    (inj : ∀ x y, (args x).map nz = (args y).map nz → tin x = tin y → x = y) (x : α) {ds : List D} {ti : List (Nm × OO)} (hd : (args x).map nz = ds.map nz) (ht : tin x = ti) : (mkCon f own args tin pre res tout).fn ds ti = some (pre x, res x, tout x) := by
  have h : ∃ y, (args y).map nz = ds.map nz ∧ tin y = ti := ⟨x, hd, ht⟩
  simp only [mkCon, dif_pos h]
  have := inj _ _ (h.choose_spec.1.trans hd.symm) (h.choose_spec.2.trans ht.symm)
  rw [this]
theorem mkCon_ok {P : Program} {f : FuncId} {own : Bool} {α : Type} {args : α → List D} {tin : α → List (Nm × OO)} {pre : α → Prop} {res : α → D} {tout : α → List (Nm × OO)}
    (h : ∀ x, pre x → PCo P f (args x) (Tab.of (tin x)) (res x) (Tab.of (tout x))) : (mkCon f own args tin pre res tout).ok P := by
  intro ds ti p r to hf hp
  simp only [mkCon] at hf
  split at hf
  · rename_i hx
    simp only [Option.some.injEq, Prod.mk.injEq] at hf
    obtain ⟨rfl, rfl, rfl⟩ := hf
    have := h _ hp
    rw [hx.choose_spec.2] at this
    exact ⟨this.1, fun w F β γ vs O G hr => this.2 w F β γ vs O G (reps_nz.1 (by rw [hx.choose_spec.1]; exact reps_nz.2 hr))⟩
  · simp at hf
theorem mkCon_f {f : FuncId} {own : Bool} {α : Type} {args : α → List D} {tin : α → List (Nm × OO)} {pre : α → Prop} {res : α → D} {tout : α → List (Nm × OO)} : (mkCon f own args tin pre res tout).f = f := rfl
theorem mkCon_own {f : FuncId} {own : Bool} {α : Type} {args : α → List D} {tin : α → List (Nm × OO)} {pre : α → Prop} {res : α → D} {tout : α → List (Nm × OO)} : (mkCon f own args tin pre res tout).own = own := rfl

abbrev dI (n : Int) : D := .lit (.int .i64 n)
abbrev dU (n : Int) : D := .lit (.int .u8 n)
abbrev dB (b : Bool) : D := .lit (.bool b)
abbrev dS (s : ByteArray) : D := .lit (.string s)

theorem retP_val {Γ : Ctx} {σ : S} {rs : List ResultVar} {r r' : D} {tout : List (Nm × OO)} (h : r = r') (H : retP Γ rs r tout σ) : retP Γ rs r' tout σ := h ▸ H

theorem preL_zero {α : Type} (xs : List α) : preL 0 xs = [] := by simp [preL]
theorem preL_nil {α : Type} (n : Nat) : preL n ([] : List α) = [] := by simp [preL]
theorem preL_full {α : Type} {n : Nat} {xs : List α} (h : xs.length ≤ n) : preL n xs = xs := List.take_of_length_le h
theorem preL_len {α : Type} (n : Nat) (xs : List α) : (preL n xs).length = min n xs.length := by simp [preL]
theorem ML_preL {α : Type} {enc : α → D} (n : Nat) (l : List α) : preL n (ML enc l) = ML enc (preL n l) := by simp [preL, ML_take]
attribute [simp] preL_zero preL_nil preL_full preL_len ML_preL capD appendMakeD
attribute [simp] tget_nil tget_up up_up set_set get_nil Tab.get_set mkS_ts ML_len ML_nil ML_app ML_drop ML_take ML_empty ML_view mkCon_f mkCon_own
attribute [simp] cApp_any cApp_pure cApp_news cApp_frz cApp_lent Md.lentCall Md.isFrz frzLoad isElD isAppend boxLoad noElp oldMap mdOf Md.pureCall Md.isNews Md.freeCall Md.barCall Md.apCall Md.hot coolLoad oldD oldD.oldDs addLT
attribute [simp] skipOp idleOp
attribute [simp] nextOps nextIt opndOk nextS overS keyV rangeD entryD runeD
attribute [simp] run den den_ite evOps evOp evZ evZs deepD absC absCs killT loneC intC setX noDup evOther evCall evCallP calleeP findMD calleeD findC findC2 findZ findM aval gdD opd strip scond sconds binE isNilC cmpNil nilS TK.isSlice binD binI isShift cmpI intRes valR okR AR.and pickD mkwhn nmOf S.put S.eff S.bump applyE
attribute [simp] loadD partD subD storeD updD fieldAddrD fieldD indexAddrD indexD buildD placesD fillD constD constD1 okD oneD cellsD retP retD packD Op.operands Call.operands newBox Value.oneCell' pureD puresD TK.isAgg unD TK.isBool lpc
theorem bytesD_ML : ∀ (l : List Int), bytesD (ML dU l) = some (l.map fun n => UInt8.ofNat n.toNat)
  | [] => rfl
  | n :: l => by
    have := bytesD_ML l
    simp only [ML, List.map_cons] at this ⊢
    simp only [bytesD, this]
theorem elemsD'_ML {α : Type} {tab : Tab} {s : Nat} {z : D} {enc : α → D} (t : Bool) (l : List α) : elemsD' tab s (.sl t s z (ML enc l)) = some (ML enc l) := by simp [elemsD']

attribute [simp] keyKind keyOf intsD makeMapD mapO rowsMap lookrD lookupD mapUpdateD bytesD_ML elemsD' bytesD TK.isByte
attribute [simp] isGoCall freshE Eff.still D.isAgg D.isLit lenD convD buildSliceD assertD bndD sliceD elemsD elemsOk ownName appendD makeSliceD copyD clearD lenM deleteD isMapT TK.concrete TK.isNil eqCells nilD eqNil sortD strRes
attribute [simp] enumD Ts.of Tab.of addNm addNms namesT reach nodupNm outOk namesOkB lendOkB lendN lendD lendOk lendOk.lendOks namesD namesDs namesO renD renDs renO flatD flatDs flatO canonT canonN idxNm backN deadT backT
attribute [simp] idL leTo leSt leTs leTab leD leDs leO deltas uniqN addN lkN pairTs pairD pairDs pairTab pairO nodupN
end Go.Eng
namespace Go.Eng
variable [HasG]
set_option linter.unusedSectionVars false
set_option linter.unusedVariables false
set_option linter.unusedSimpArgs false

/-- a method by value, found at once -/
theorem meth_of {P : Program} {t : TypeId} {name : String} {f : FuncId} (h1 : (((P.info? t).bind fun i => i.methods.find? (·.name == name)).map fun m => (m.path.isEmpty, m.func)) = some (true, some (f, false)))
    (h4 : (match P.underlying t with | some (.pointer _) | none => false | _ => true) = true) : Meth P t name f := by
  intro v w
  cases hi : P.info? t with
  | none => simp [hi] at h1
  | some i =>
    simp only [hi, Option.bind_some] at h1
    cases hm : i.methods.find? (·.name == name) with
    | none => simp [hm] at h1
    | some mm =>
      simp only [hm, Option.map_some, Option.some.injEq, Prod.mk.injEq] at h1
      obtain ⟨h2, h3⟩ := h1
      have h2' : mm.path = #[] := by simpa using h2
      have hfuel : P.types.size + Made.depth = (P.types.size + Made.depth - 1) + 1 := by simp [Made.depth]
      cases hu : P.underlying t with
      | none => simp [hu] at h4
      | some d =>
        rw [hfuel]
        simp only [method, Sem.run_bind, typeInfo, run_program, Result.andThen_ok, hi, Sem.run_pure, hm, h2', follow, h3]
        simp only [receiverAt, Sem.run_bind, run_und hu, Result.andThen_ok]
        cases d <;> first | (simp [hu] at h4; done) | simp [Place.get]


/-- a method that takes a pointer -/
theorem methp_of {P : Program} {t : TypeId} {name : String} {f : FuncId} (h1 : (((P.info? t).bind fun i => i.methods.find? (·.name == name)).map fun m => (m.path.isEmpty, m.func)) = some (true, some (f, true)))
    (h4 : (match P.underlying t with | some (.pointer _) => true | _ => false) = true) : Meth P t name f := by
  intro v w
  cases hi : P.info? t with
  | none => simp [hi] at h1
  | some i =>
    simp only [hi, Option.bind_some] at h1
    cases hm : i.methods.find? (·.name == name) with
    | none => simp [hm] at h1
    | some mm =>
      simp only [hm, Option.map_some, Option.some.injEq, Prod.mk.injEq] at h1
      obtain ⟨h2, h3⟩ := h1
      have h2' : mm.path = #[] := by simpa using h2
      have hfuel : P.types.size + Made.depth = (P.types.size + Made.depth - 1) + 1 := by simp [Made.depth]
      cases hu : P.underlying t with
      | none => simp [hu] at h4
      | some d =>
        rw [hfuel]
        simp only [method, Sem.run_bind, typeInfo, run_program, Result.andThen_ok, hi, Sem.run_pure, hm, h2', follow, h3]
        simp only [receiverAt, Sem.run_bind, run_und hu, Result.andThen_ok]
        cases d <;> first | (simp [hu] at h4; done) | simp [Place.get]
/-- a method of what is pointed to -/
theorem methd_of {P : Program} {t e : TypeId} {name : String} {f : FuncId} (h1 : (((P.info? t).bind fun i => i.methods.find? (·.name == name)).map fun m => (m.path.isEmpty, m.func)) = some (true, some (f, false)))
    (h4 : P.underlying t = some (.pointer e)) : MethD P t name f e := by
  intro a w
  cases hi : P.info? t with
  | none => simp [hi] at h1
  | some i =>
    simp only [hi, Option.bind_some] at h1
    cases hm : i.methods.find? (·.name == name) with
    | none => simp [hm] at h1
    | some mm =>
      simp only [hm, Option.map_some, Option.some.injEq, Prod.mk.injEq] at h1
      obtain ⟨h2, h3⟩ := h1
      have h2' : mm.path = #[] := by simpa using h2
      have hfuel : P.types.size + Made.depth = (P.types.size + Made.depth - 1) + 1 := by simp [Made.depth]
      rw [hfuel]
      simp only [method, Sem.run_bind, typeInfo, run_program, Result.andThen_ok, hi, Sem.run_pure, hm, h2', follow, h3]
      have hw : ∀ s : String, (Builtin.ssaWrapNilChk_ #[t] t #[.pointer (some a), strVal "", strVal s]).run P w = .ok (.pointer (some a)) w := fun s => rfl
      simp [receiverAt, Sem.run_bind, run_und h4, Result.andThen_ok, Place.get, hw, asAddr]

/-- a round's end: the state is one of the invariant, with less to do -/
def Again {α : Type} (inv : α → Prop) (l : α → List (Nat × D)) (L : α → List (Nm × OO)) (g : Nat) (μ : α → Nat) (p : α) (σ' : S) : Prop := ∃ p', inv p' ∧ leTo σ' (l p') (L p') g ∧ μ p' < μ p
theorem Again.mk {α : Type} {inv : α → Prop} {l : α → List (Nat × D)} {L : α → List (Nm × OO)} {g : Nat} {μ : α → Nat} {p : α} {σ' : S} (p' : α) (h1 : inv p') (h2 : leTo σ' (l p') (L p') g) (h3 : μ p' < μ p) : Again inv l L g μ p σ' := ⟨p', h1, h2, h3⟩
section
variable {E : Env} {Γ : Ctx} {m : Bool} {base : Nat} {fl : List Nat} {R : S → Prop} {d : Nat} {c : Code} {k : List Fr} {σ : S} {A : Nat → S → Prop}
theorem loop_inv {α : Type} (inv : α → Prop) (l : α → List (Nat × D)) (L : α → List (Nm × OO)) (g : Nat) (μ : α → Nat) (p0 : α) (n : Nat) (hg : 1 ≤ g) (hi : inv p0) (hle : leTo σ (l p0) (L p0) g)
    (h : ∀ p, inv p → den (loopP E Γ m base fl R d) R (run E Γ m base fl n (.code c) (.lp :: k) (mkS (l p) (L p) g)) fun j σ' => if j = lpc k then Again inv l L g μ p σ' else A j σ') : loopP E Γ m base fl R (d + 1) c k σ A := by
  simp only [loopP]
  exact .inl ⟨α, inv, l, L, g, μ, p0, hg, hi, hle, fun p hp => ⟨n, h p hp⟩⟩
theorem loop_unroll (n : Nat) (h : den (loopP E Γ m base fl R d) R (run E Γ m base fl n (.code c) (.lpu c :: k) σ) A) : loopP E Γ m base fl R (d + 1) c k σ A := by
  simp only [loopP]
  exact .inr ⟨n, h⟩
end
theorem nz_lit (v : Value) : nz (.lit v) = .lit v := rfl
theorem nz1_lit (v : Value) : nz1 (.lit v) = .lit v := rfl
theorem nz_agg (cs : List D) : nz (.agg cs) = .agg (cs.map nz1) := rfl
theorem nz_sl (t : Bool) (s : Nat) (z : D) (xs : List D) : nz (.sl t s z xs) = nz1 (.sl t s z xs) := rfl
theorem nz_el (d : D) : nz (.el d) = .el d := rfl
theorem nz1_el (d : D) : nz1 (.el d) = .el d := rfl
theorem nz_own (nm : Nm) (s o n : Nat) : nz (.own nm s o n) = .own nm s o n := rfl
theorem nz1_own (nm : Nm) (s o n : Nat) : nz1 (.own nm s o n) = .own nm s o n := rfl
theorem nz_ptr (nm : Nm) (o : Nat) : nz (.ptr nm o) = .ptr nm o := rfl
theorem nz_fn (f : Fn) (a b : List D) : nz (.fn f a b) = .fn f a b := rfl
theorem nz_iface (t : TypeId) (d : D) : nz (.iface t d) = .iface t d := rfl
theorem viewL_cons (x : D) (l : List D) (o n : Nat) : viewL (x :: l) o n = if o = 0 ∧ n = l.length + 1 then x :: l else ((x :: l).drop o).take n := rfl
theorem viewL_nil (o n : Nat) : viewL [] o n = [] := by simp [viewL]
theorem inR_i64 (n : Int) : inR .i64 n ↔ -9223372036854775808 ≤ n ∧ n ≤ 9223372036854775807 := Iff.rfl
theorem inR_u8 (n : Int) : inR .u8 n ↔ 0 ≤ n ∧ n ≤ 255 := Iff.rfl
attribute [simp] inR_i64 inR_u8 mkS viewL_cons viewL_nil
end Go.Eng
namespace Go.Eng
set_option linter.unusedSectionVars false
set_option linter.unusedVariables false
set_option linter.unusedSimpArgs false

/-! ### the program's header, read word by word -/
theorem words_app {b : List Char} : ∀ (a : List Char), (a.all fun c => c != Char.ofNat 32) = true → wordsSigns (a ++ Char.ofNat 32 :: b) = a :: wordsSigns b
  | [], _ => by simp only [List.nil_append]; rw [show Char.ofNat 32 = (Char.ofNat 32) from rfl]; simp only [wordsSigns]
  | c :: a, h => by
    simp only [List.all_cons, Bool.and_eq_true] at h
    have ih := words_app (b := b) a h.2
    have hc : c ≠ (Char.ofNat 32) := by
      intro e; subst e; simp at h
    simp only [List.cons_append]
    rw [wordsSigns]
    · rw [ih]
    · exact hc

theorem head_cut {P : Program} {l : List Nat} (a s r : List Nat)
    (hl : P.initOrder.toList = l.map Char.ofNat) (hs : l = a ++ 32 :: (s ++ 32 :: (99 :: 117 :: 116 :: 32 :: r)))
    (ha : (a.map Char.ofNat == "harness".toList || a.map Char.ofNat == "ownmain".toList) = true)
    (hsum : isSumSigns (s.map Char.ofNat) = true)
    (hb : ((a.map Char.ofNat).all (fun c => c != Char.ofNat 32) && (s.map Char.ofNat).all fun c => c != Char.ofNat 32) = true) :
    behindMainWord (wordsSigns P.initOrder.toList) = "cut".toList :: wordsSigns (r.map Char.ofNat) := by
  simp only [Bool.and_eq_true] at hb
  rw [hl, hs]
  simp only [List.map_append, List.map_cons]
  rw [words_app _ hb.1, words_app _ hb.2]
  have e : ∀ r' : List Char, Char.ofNat 99 :: Char.ofNat 117 :: Char.ofNat 116 :: Char.ofNat 32 :: r' = [Char.ofNat 99, Char.ofNat 117, Char.ofNat 116] ++ Char.ofNat 32 :: r' := fun _ => rfl
  rw [e, words_app _ (by decide)]
  show (if ((a.map Char.ofNat == "harness".toList || a.map Char.ofNat == "ownmain".toList) && isSumSigns (s.map Char.ofNat)) = true then _ else _) = _
  rw [if_pos (by rw [ha, hsum]; rfl)]
  rfl

theorem strip_cut (ws : List (List Char)) : ∀ l : List String, (l.all fun o => !("cut".toList == o.toList)) = true → stripLifts l ("cut".toList :: ws) = ([], "cut".toList :: ws)
  | [], _ => rfl
  | o :: l, h => by
    simp only [List.all_cons, Bool.and_eq_true, Bool.not_eq_true'] at h
    unfold stripLifts
    rw [h.1]
    exact strip_cut ws l h.2

theorem strip_cut' (ws : List (List Char)) : stripLifts liftWords ("cut".toList :: ws) = ([], "cut".toList :: ws) := strip_cut ws _ (by decide +kernel)

theorem headLifts_cut {P : Program} {ws : List (List Char)} (h : behindMainWord (wordsSigns P.initOrder.toList) = "cut".toList :: ws) : P.headLifts = [] := by
  unfold Program.headLifts
  rw [h]
  simp only [strip_cut']
  split <;> rfl

theorem mayEnter_cut {P : Program} {ws : List (List Char)} (h : behindMainWord (wordsSigns P.initOrder.toList) = "cut".toList :: ws)
    (h1 : P.laysLater = false) (h2 : P.bearsReflect = false) (h3 : P.doorFits [] = true) : P.mayEnter = true := by
  unfold Program.mayEnter
  rw [h]
  simp only [strip_cut', h1, h2, h3, List.head?_cons]
  rw [show (some "cut".toList == some "cut".toList) = true from by decide +kernel]
  simp

theorem liftsFinal_cut {P : Program} {ws : List (List Char)} (h : behindMainWord (wordsSigns P.initOrder.toList) = "cut".toList :: ws) : P.liftsFinal = false := by
  unfold Program.liftsFinal
  rw [headLifts_cut h, h]
  simp only [List.head?_cons]
  rw [show (some "cut".toList == some "carried".toList) = false from by decide +kernel]
  rfl

theorem make_cut {P : Program} {ws : List (List Char)} (h : behindMainWord (wordsSigns P.initOrder.toList) = "cut".toList :: ws) : P.make = some .cut := by
  unfold Program.make
  rw [h]
  simp only []
  rw [show ("cut".toList == "gc".toList || "cut".toList == "spec".toList) = false from by decide +kernel,
    show ("cut".toList == "cut".toList) = true from by decide +kernel]
  rfl
end Go.Eng
namespace Go.Eng
variable [HasG]
set_option linter.unusedSectionVars false
set_option linter.unusedVariables false
set_option linter.unusedSimpArgs false

/-! ### structs of whole numbers: '==' -/
/-- the cells of a type that is built of 64-bit whole numbers alone, without gaps -/
def cellsOf (P : Program) : Nat → TypeId → Option Nat
  | 0, _ => none
  | d + 1, t => match P.underlying t with
    | some (.int .i64) => some 1
    | some (.struct fs) => if P.stoodInHeld t || (P.eqGuardType P.depth t) then none else
        fs.toList.foldl (fun a f => match a with
          | none => none
          | some o => if f.offset == o && f.name != "_" then match cellsOf P d f.type, (P.info? f.type).map (·.size) with
            | some k, some s => if s == k then some (o + k) else none
            | _, _ => none
            else none) (some 0)
    | _ => none
def valOf (P : Program) (t : TypeId) (ns : List Int) : Value :=
  match P.underlying t with
  | some (.struct _) => .agg (ns.map (Value.int .i64)).toArray
  | _ => .int .i64 (ns.headD 0)
theorem run_part {P : Program} {w : World} {t : TypeId} {ns : List Int} {o k d : Nat} (hc : cellsOf P (d + 1) t = some k) (hs : (P.info? t).map (·.size) = some k) (ho : o + k ≤ ns.length) :
    (part t (ns.map (Value.int .i64)).toArray o).run P w = .ok (valOf P t ((ns.drop o).take k)) w := by
  unfold cellsOf at hc
  cases hu : P.underlying t with
  | none => simp [hu] at hc
  | some u =>
    cases hi : P.info? t with
    | none => simp [hi] at hs
    | some i =>
      simp only [hi, Option.map_some, Option.some.injEq] at hs
      cases u <;> simp only [hu, reduceCtorEq] at hc
      case int kk =>
        have hk : k = 1 := by
          cases kk <;> simp at hc
          exact hc.symm
        subst hk
        simp only [part, isAgg, Sem.run_bind, run_und hu, Result.andThen_ok, Sem.run_pure, valOf, hu]
        have e1 : (ns.map (Value.int .i64)).toArray[o]? = some (.int .i64 (ns[o]'(by omega))) := by simp [List.getElem?_eq_getElem (show o < ns.length by omega)]
        have e2 : ((ns.drop o).take 1).headD 0 = ns[o]'(by omega) := by
          rw [List.drop_eq_getElem_cons (show o < ns.length by omega)]; rfl
        simp only [e1, e2, Bool.false_eq_true, if_false, Sem.run_pure]
      case struct fs =>
        simp only [part, isAgg, Sem.run_bind, run_und hu, Result.andThen_ok, Sem.run_pure, valOf, hu]
        simp only [if_true, Sem.run_bind, Go.sizeOf, typeInfo, run_program, hi, Result.andThen_ok, Sem.run_pure]
        congr 2
        apply Array.ext'
        simp [hs, List.extract_eq_take_drop, List.map_take, List.map_drop]
theorem fields_none {P : Program} {d : Nat} : ∀ (fs : List Field), fs.foldl (fun a f => match a with
          | none => none
          | some o => if f.offset == o && f.name != "_" then match cellsOf P d f.type, (P.info? f.type).map (·.size) with
            | some k, some s => if s == k then some (o + k) else none
            | _, _ => none
            else none) (none : Option Nat) = none
  | [] => rfl
  | f :: fs => by simp only [List.foldl_cons]; exact fields_none fs
theorem eq_cells {P : Program} : ∀ (d : Nat) (t : TypeId) (k : Nat), cellsOf P d t = some k → ∀ (as bs : List Int) (w : World) (x : Nat), as.length = k → bs.length = k →
    (Op.equalIn (d + x) t (valOf P t as) (valOf P t bs)).run P w = .ok (as == bs) w
  | 0, t, k, h, _, _, _, _, _, _ => by simp [cellsOf] at h
  | d + 1, t, k, h, as, bs, w, x, ha, hb => by
    have e : d + 1 + x = (d + x) + 1 := by omega
    rw [e]
    unfold cellsOf at h
    cases hu : P.underlying t with
    | none => simp [hu] at h
    | some u =>
      cases u <;> simp only [hu, reduceCtorEq] at h
      case int kk =>
        have hk : k = 1 := by cases kk <;> simp at h; exact h.symm
        subst hk
        obtain ⟨a, rfl⟩ : ∃ a, as = [a] := List.length_eq_one_iff.1 ha
        obtain ⟨b, rfl⟩ : ∃ b, bs = [b] := List.length_eq_one_iff.1 hb
        simp only [valOf, hu, List.headD_cons]
        rw [run_equalIn_int w (d + x) t .i64 kk a b hu]
        simp
      case struct fs =>
        have hg : (P.stoodInHeld t || P.eqGuardType P.depth t) = false := by
          cases hq : (P.stoodInHeld t || P.eqGuardType P.depth t) with
          | false => rfl
          | true => simp [hq] at h
        simp only [hg, Bool.false_eq_true, if_false] at h
        simp only [Bool.or_eq_false_iff] at hg
        have hf : P.fieldsOf t = fs := by simp [Program.fieldsOf, hu]
        simp only [valOf, hu]
        rw [run_equalIn_struct w (d + x) t _ _ (by rw [hf]; exact hu) hg.1, hf]
        -- field by field
        have key : ∀ (l : List Field) (o : Nat), o ≤ k → l.foldl (fun a f => match a with
          | none => none
          | some o => if f.offset == o && f.name != "_" then match cellsOf P d f.type, (P.info? f.type).map (·.size) with
            | some k, some s => if s == k then some (o + k) else none
            | _, _ => none
            else none) (some o) = some k → (Op.eqFields (d + x) (as.map (Value.int .i64)).toArray (bs.map (Value.int .i64)).toArray l).run P w = .ok (as.drop o == bs.drop o) w := by
          intro l
          induction l with
          | nil =>
            intro o ho hl
            simp only [List.foldl_nil, Option.some.injEq] at hl
            subst hl
            simp only [Op.eqFields, Sem.run_pure]
            rw [List.drop_of_length_le (by omega), List.drop_of_length_le (by omega)]
            rfl
          | cons f l ih =>
            intro o ho hl
            simp only [List.foldl_cons] at hl
            by_cases hc : (f.offset == o && f.name != "_") = true
            · rw [if_pos hc] at hl
              simp only [Bool.and_eq_true, beq_iff_eq, bne_iff_ne, ne_eq] at hc
              cases hk : cellsOf P d f.type with
              | none => simp only [hk] at hl; rw [fields_none] at hl; simp at hl
              | some j =>
                cases hs : (P.info? f.type).map (·.size) with
                | none => simp only [hk, hs] at hl; rw [fields_none] at hl; simp at hl
                | some s =>
                  simp only [hk, hs] at hl
                  by_cases hsj : (s == j) = true
                  · rw [if_pos hsj] at hl
                    have hsj' : s = j := by simpa using hsj
                    subst hsj'
                    have hle : o + s ≤ k := by
                      have : ∀ (l : List Field) (p : Nat), l.foldl (fun a f => match a with
                        | none => none
                        | some o => if f.offset == o && f.name != "_" then match cellsOf P d f.type, (P.info? f.type).map (·.size) with
                          | some k, some s => if s == k then some (o + k) else none
                          | _, _ => none
                          else none) (some p) = some k → p ≤ k := by
                        intro l
                        induction l with
                        | nil => intro p hp; simp only [List.foldl_nil, Option.some.injEq] at hp; omega
                        | cons g l ih2 =>
                          intro p hp
                          simp only [List.foldl_cons] at hp
                          split at hp
                          · split at hp
                            · split at hp
                              · have := ih2 _ hp; omega
                              · rw [fields_none] at hp; simp at hp
                            · rw [fields_none] at hp; simp at hp
                          · rw [fields_none] at hp; simp at hp
                      exact this l _ hl
                    cases d with
                    | zero => simp [cellsOf] at hk
                    | succ d =>
                      have hn : f.name ≠ "_" := hc.2
                      simp only [Op.eqFields, if_pos hn, Sem.run_bind, hc.1]
                      rw [run_part hk hs (by omega), Result.andThen_ok, run_part hk hs (by omega), Result.andThen_ok,
                        eq_cells (d + 1) f.type s hk ((as.drop o).take s) ((bs.drop o).take s) w x (by simp; omega) (by simp; omega), Result.andThen_ok]
                      have ih' := ih (o + s) hle hl
                      have sp : (as.drop o == bs.drop o) = (((as.drop o).take s == (bs.drop o).take s) && (as.drop (o + s) == bs.drop (o + s))) := by
                        rw [Bool.eq_iff_iff]
                        simp only [beq_iff_eq, Bool.and_eq_true]
                        constructor
                        · intro e; rw [← List.drop_drop, ← List.drop_drop, e]; exact ⟨rfl, rfl⟩
                        · rintro ⟨e1, e2⟩
                          rw [← List.take_append_drop s (as.drop o), ← List.take_append_drop s (bs.drop o), List.drop_drop, List.drop_drop, e1, e2]
                      cases hq : ((as.drop o).take s == (bs.drop o).take s) with
                      | true => simp only [Bool.not_true, Bool.false_eq_true, if_false]; rw [ih', sp, hq]; simp
                      | false => simp only [Bool.not_false, if_true, Sem.run_pure]; rw [sp, hq]; simp
                  · rw [if_neg hsj, fields_none] at hl; simp at hl
            · rw [if_neg hc, fields_none] at hl; simp at hl
        have := key fs.toList 0 (Nat.zero_le _) h
        simpa using this
theorem ck_cells {P : Program} : ∀ (d : Nat) (t : TypeId) (k : Nat), cellsOf P d t = some k → ∀ (as : List Int) (e : Bool) (w : World) (x : Nat), as.length = k →
    (Instr.checkKey e (d + x) t (valOf P t as)).run P w = .ok () w
  | 0, t, k, h, _, _, _, _, _ => by simp [cellsOf] at h
  | d + 1, t, k, h, as, e, w, x, ha => by
    have e1 : d + 1 + x = (d + x) + 1 := by omega
    rw [e1]
    unfold cellsOf at h
    cases hu : P.underlying t with
    | none => simp [hu] at h
    | some u =>
      cases u <;> simp only [hu, reduceCtorEq] at h
      case int kk =>
        simp only [Instr.checkKey, Sem.run_bind, run_und hu, Result.andThen_ok]
        have hk : k = 1 := by cases kk <;> simp at h; exact h.symm
        subst hk
        obtain ⟨a, rfl⟩ : ∃ a, as = [a] := List.length_eq_one_iff.1 ha
        simp only [valOf, hu, Sem.run_pure]
      case struct fs =>
        have hg : (P.stoodInHeld t || P.eqGuardType P.depth t) = false := by
          cases hq : (P.stoodInHeld t || P.eqGuardType P.depth t) with
          | false => rfl
          | true => simp [hq] at h
        simp only [hg, Bool.false_eq_true, if_false] at h
        simp only [valOf, hu, Instr.checkKey, Sem.run_bind, run_und hu, Result.andThen_ok]
        have key : ∀ (l : List Field) (o : Nat), o ≤ k → l.foldl (fun a f => match a with
          | none => none
          | some o => if f.offset == o && f.name != "_" then match cellsOf P d f.type, (P.info? f.type).map (·.size) with
            | some k, some s => if s == k then some (o + k) else none
            | _, _ => none
            else none) (some o) = some k → (forIn l PUnit.unit (fun f _ => do
              if f.name ≠ "_" then Instr.checkKey e (d + x) f.type (← part f.type (as.map (Value.int .i64)).toArray f.offset)
              pure (ForInStep.yield PUnit.unit)) : Sem PUnit).run P w = .ok PUnit.unit w := by
          intro l
          induction l with
          | nil => intro o ho hl; simp
          | cons f l ih =>
            intro o ho hl
            simp only [List.foldl_cons] at hl
            by_cases hc : (f.offset == o && f.name != "_") = true
            · rw [if_pos hc] at hl
              simp only [Bool.and_eq_true, beq_iff_eq, bne_iff_ne, ne_eq] at hc
              cases hk : cellsOf P d f.type with
              | none => simp only [hk] at hl; rw [fields_none] at hl; simp at hl
              | some j =>
                cases hs : (P.info? f.type).map (·.size) with
                | none => simp only [hk, hs] at hl; rw [fields_none] at hl; simp at hl
                | some s =>
                  simp only [hk, hs] at hl
                  by_cases hsj : (s == j) = true
                  · rw [if_pos hsj] at hl
                    have hsj' : s = j := by simpa using hsj
                    subst hsj'
                    have hle : o + s ≤ k := by
                      have : ∀ (l : List Field) (p : Nat), l.foldl (fun a f => match a with
                        | none => none
                        | some o => if f.offset == o && f.name != "_" then match cellsOf P d f.type, (P.info? f.type).map (·.size) with
                          | some k, some s => if s == k then some (o + k) else none
                          | _, _ => none
                          else none) (some p) = some k → p ≤ k := by
                        intro l
                        induction l with
                        | nil => intro p hp; simp only [List.foldl_nil, Option.some.injEq] at hp; omega
                        | cons g l ih2 =>
                          intro p hp
                          simp only [List.foldl_cons] at hp
                          split at hp
                          · split at hp
                            · split at hp
                              · have := ih2 _ hp; omega
                              · rw [fields_none] at hp; simp at hp
                            · rw [fields_none] at hp; simp at hp
                          · rw [fields_none] at hp; simp at hp
                      exact this l _ hl
                    cases d with
                    | zero => simp [cellsOf] at hk
                    | succ d =>
                      have hn : f.name ≠ "_" := hc.2
                      simp only [List.forIn_cons, Sem.run_bind, hc.1, if_pos hn]
                      rw [run_part hk hs (by omega), Result.andThen_ok, ck_cells (d + 1) f.type s hk ((as.drop o).take s) e w x (by simp; omega), Result.andThen_ok]
                      simp only [Sem.run_pure, Result.andThen_ok]
                      exact ih (o + s) hle hl
                  · rw [if_neg hsj, fields_none] at hl; simp at hl
            · rw [if_neg hc, fields_none] at hl; simp at hl
        have := key fs.toList 0 (Nat.zero_le _) h
        rw [← Array.forIn_toList]
        simp at this ⊢
        rw [this]; rfl
theorem eqInts_of {P : Program} {t : TypeId} {k : Nat} (h : cellsOf P 6 t = some k) (hs : (match P.underlying t with | some (.struct _) => true | _ => false) = true) (hg : P.eqGuardType P.depth t = false) : EqInts P t k := by
  refine ⟨fun as bs ha hb => ?_, fun as e w ha => ?_⟩
  rotate_left
  · have := ck_cells 6 t k h as e w 9994 ha
    cases hu : P.underlying t with
    | none => simp [hu] at hs
    | some u =>
      cases u <;> simp [hu] at hs
      simp only [valOf, hu] at this
      exact this
  refine ⟨hg, fun w => ?_⟩
  have := eq_cells 6 t k h as bs w 9994 ha hb
  cases hu : P.underlying t with
  | none => simp [hu] at hs
  | some u =>
    cases u <;> simp [hu] at hs
    simp only [valOf, hu] at this
    exact this
end Go.Eng
namespace Go.Eng
variable [HasG]
set_option linter.unusedSectionVars false
set_option linter.unusedVariables false
set_option linter.unusedSimpArgs false

/-! ### rows, element by element -/
theorem drop_at {α : Type} {l : List α} {p : Nat} {d : α} (h : p < l.length) : l.drop p = (l[p]?.getD d) :: l.drop (p + 1) := by
  rw [List.drop_eq_getElem_cons h, List.getElem?_eq_getElem h]; rfl
theorem take_at {α : Type} {l : List α} {p : Nat} {d : α} (h : p < l.length) : l.take (p + 1) = l.take p ++ [l[p]?.getD d] := by
  rw [List.take_add_one, List.getElem?_eq_getElem h]; rfl
theorem fill_step {α : Type} {l : List α} {p : Nat} {d e : α} (h : p < l.length) : (l.take p ++ List.replicate (l.length - p) d).set p (l[p]?.getD e) = l.take (p + 1) ++ List.replicate (l.length - (p + 1)) d := by
  rw [List.set_append_right _ _ (by rw [List.length_take]; omega)]
  have h1 : (l.take p).length = p := by rw [List.length_take]; omega
  rw [h1, Nat.sub_self]
  obtain ⟨k, hk⟩ : ∃ k, l.length - p = k + 1 := ⟨l.length - p - 1, by omega⟩
  have hk2 : l.length - (p + 1) = k := by omega
  rw [hk, hk2, List.replicate_succ, List.set_cons_zero, List.take_add_one, List.getElem?_eq_getElem h]
  simp only [Option.getD_some, Option.toList_some, List.append_assoc, List.singleton_append]
theorem take_eq_step {α : Type} {a b : List α} {p : Nat} {d : α} (h : a.take p = b.take p) (ha : p < a.length) (hb : p < b.length) (e : a[p]?.getD d = b[p]?.getD d) : a.take (p + 1) = b.take (p + 1) := by
  rw [take_at (d := d) ha, take_at (d := d) hb, h, e]
theorem take_eq_full {α : Type} {a b : List α} {p : Nat} (h : a.take p = b.take p) (ha : a.length ≤ p) (hb : b.length ≤ p) : a = b := by
  rwa [List.take_of_length_le ha, List.take_of_length_le hb] at h
/-- a row that counts on from 'k', 'm' for each element -/
def mkL {α : Type} (f : Int → α) (m k : Int) (n : Nat) : List α := (List.range n).map fun (i : Nat) => f (k + m * (i : Int))
section
variable {α : Type} {f : Int → α} {m k : Int}
@[simp] theorem mkL_length (n : Nat) : (mkL f m k n).length = n := by simp [mkL]
@[simp] theorem mkL_zero : mkL f m k 0 = [] := rfl
theorem mkL_succ (n : Nat) : mkL f m k (n + 1) = mkL f m k n ++ [f (k + m * (n : Int))] := by simp [mkL, List.range_succ]
theorem mkL_get {n p : Nat} {d : α} (h : p < n) : (mkL f m k n)[p]?.getD d = f (k + m * (p : Int)) := by simp [mkL, h]
theorem mark_step {l : List α} {p : Nat} {x : α} (h : p < l.length) (e : x = f (k + m * (p : Int))) : (mkL f m k p ++ l.drop p).set p x = mkL f m k (p + 1) ++ l.drop (p + 1) := by
  subst e
  rw [List.set_append_right _ _ (by rw [mkL_length]; exact Nat.le_refl _), mkL_length, Nat.sub_self, List.drop_eq_getElem_cons h, List.set_cons_zero, mkL_succ]
  simp
theorem mark_step0 {l : List α} {p : Nat} {x : α} (h : p < l.length) (e : x = f (k + m * (p : Int))) : mkL f m k p ++ (l.drop p).set 0 x = mkL f m k (p + 1) ++ l.drop (p + 1) := by
  subst e
  rw [List.drop_eq_getElem_cons h, List.set_cons_zero, mkL_succ]
  simp
theorem mark_get {l : List α} {p : Nat} {d : α} (h : p < l.length) : (mkL f m k p ++ l.drop p)[p]?.getD d = l[p]?.getD d := by
  rw [List.getElem?_append_right (by rw [mkL_length]; exact Nat.le_refl _), mkL_length, Nat.sub_self, List.getElem?_drop]; simp
theorem mark_len {l : List α} {p : Nat} (h : p ≤ l.length) : (mkL f m k p ++ l.drop p).length = l.length := by simp; omega
end
theorem set_get {α : Type} {l : List α} {p : Nat} {x d : α} (h : p < l.length) : (l.set p x)[p]?.getD d = x := by simp [h]
def isRg : List Nat → Nat → Nat → Bool
  | [], i, n => i == n
  | k :: r, i, n => k == i && isRg r (i + 1) n
theorem isRg_iff : ∀ (l : List Nat) (i n : Nat), isRg l i n = true ↔ i ≤ n ∧ l = List.range' i (n - i)
  | [], i, n => by
    simp only [isRg, beq_iff_eq]
    constructor
    · rintro rfl; simp
    · rintro ⟨h1, h2⟩
      have := congrArg List.length h2
      simp at this; omega
  | k :: r, i, n => by
    simp only [isRg, Bool.and_eq_true, beq_iff_eq, isRg_iff r (i + 1) n]
    constructor
    · rintro ⟨rfl, h1, h2⟩
      refine ⟨by omega, ?_⟩
      have : n - k = (n - (k + 1)) + 1 := by omega
      rw [this, List.range'_succ, h2]
    · rintro ⟨h1, h2⟩
      rcases Nat.eq_zero_or_pos (n - i) with h0 | h0
      · rw [h0] at h2; simp at h2
      · have : n - i = (n - (i + 1)) + 1 := by omega
        rw [this, List.range'_succ] at h2
        simp only [List.cons.injEq] at h2
        exact ⟨h2.1, by omega, h2.2⟩
theorem range_eq (l : List Nat) (n : Nat) : (l = List.range n) = (isRg l 0 n = true) := by
  rw [isRg_iff, List.range_eq_range']
  simp
attribute [simp] range_eq isRg
end Go.Eng
namespace Go.Eng
variable [HasG]
set_option linter.unusedSectionVars false
set_option linter.unusedVariables false
set_option linter.unusedSimpArgs false

/-! ### contracts of functions that are handed functions: one for each -/
def key1 : D → List Nat
  | .fn (.func f) _ _ => [f]
  | .iface t _ => [t]
  | .el (.fn (.func f) _ _) => [f]
  | .sx _ xs => [1000 + xs.length]
  | _ => []
def keyD : D → List Nat
  | .agg [] => []
  | .agg (c :: cs) => key1 c ++ keyD (.agg cs)
  | d => key1 d
def keyDs : List D → List Nat
  | [] => []
  | d :: ds => keyD d ++ keyDs ds
def selK : List (List Nat × Con) → List Nat → Option Con
  | [], _ => none
  | (k, c) :: r, x => if k = x then some c else selK r x
def selCon (f : FuncId) (own : Bool) (T : List (List Nat × Con)) : Con := ⟨f, own, fun ds ti => match selK T (keyDs ds) with
  | some c => c.fn ds ti
  | none => none⟩
theorem selK_mem {x : List Nat} {c : Con} : ∀ {T : List (List Nat × Con)}, selK T x = some c → ∃ k, (k, c) ∈ T
  | [], h => by cases h
  | (k, d) :: r, h => by
    simp only [selK] at h
    split at h
    · cases h; exact ⟨k, by simp⟩
    · obtain ⟨k', h'⟩ := selK_mem h; exact ⟨k', by simp [h']⟩
theorem selCon_ok {P : Program} {f : FuncId} {own : Bool} {T : List (List Nat × Con)} (h : ∀ p ∈ T, p.2.f = f ∧ p.2.ok P) : (selCon f own T).ok P := by
  intro ds tin p r tout hf hp
  simp only [selCon] at hf
  split at hf
  · rename_i c hc
    obtain ⟨k, hk⟩ := selK_mem hc
    have := (h _ hk).2 ds tin p r tout hf hp
    rw [(h _ hk).1] at this
    exact this
  · simp at hf
theorem selCon_f (f : FuncId) (own : Bool) (T : List (List Nat × Con)) : (selCon f own T).f = f := rfl
theorem selCon_own (f : FuncId) (own : Bool) (T : List (List Nat × Con)) : (selCon f own T).own = own := rfl
theorem selCon_fn (f : FuncId) (own : Bool) (T : List (List Nat × Con)) (ds : List D) (ti : List (Nm × OO)) : (selCon f own T).fn ds ti = match selK T (keyDs ds) with
  | some c => c.fn ds ti
  | none => none := rfl
attribute [simp] key1 keyD keyDs selK selCon_f selCon_own selCon_fn
end Go.Eng
namespace Go.Eng
variable [HasG]
set_option linter.unusedSectionVars false
set_option linter.unusedVariables false
set_option linter.unusedSimpArgs false

theorem nz_sx (s : Nat) (xs : List D) : nz (.sx s xs) = .sx s xs := rfl
theorem nz1_sx (s : Nat) (xs : List D) : nz1 (.sx s xs) = .sx s xs := rfl
theorem nz_fm (k : Nat) (ks : List (List Int)) (z : D) (xs : List D) : nz (.fm k ks z xs) = .fm k ks z xs := rfl
theorem one_add_nat (n : Nat) : 1 + n = n + 1 := Nat.add_comm 1 n
attribute [simp] one_add_nat
/-- a text's bytes -/
def bytesI (b : ByteArray) : List Int := b.toList.map fun c => (c.toNat : Int)
theorem ML_bytes (b : ByteArray) : (b.toList.map fun c => (D.lit (.int .u8 (c.toNat : Int)) : D)) = ML dU (bytesI b) := by simp [ML, bytesI]
theorem bytesI_len (b : ByteArray) : (bytesI b).length = b.size := by
  rw [bytesI, List.length_map, ByteArray.toList_eq]; exact Array.length_toList
theorem bytesI_bd {b : ByteArray} : ∀ x ∈ bytesI b, 0 ≤ x ∧ x ≤ 255 := by
  intro x hx
  simp only [bytesI, List.mem_map] at hx
  obtain ⟨c, _, rfl⟩ := hx
  have := c.toNat_lt
  omega
theorem bs_ext {a b : ByteArray} (h : a.toList = b.toList) : a = b := by
  rw [ByteArray.toList_eq, ByteArray.toList_eq] at h
  cases a; cases b; simp_all [Array.toList_inj]
theorem bs_eq (a b : ByteArray) : (a.toList == b.toList) = decide (a = b) := by
  rw [Bool.eq_iff_iff]
  simp only [beq_iff_eq, decide_eq_true_eq]
  exact ⟨bs_ext, fun h => by rw [h]⟩
theorem bs_isEmpty (s : ByteArray) : s.toList.isEmpty = decide (s = ⟨#[]⟩) := by
  rw [Bool.eq_iff_iff]
  simp only [List.isEmpty_iff, decide_eq_true_eq]
  constructor
  · intro h; apply bs_ext; rw [h, ByteArray.toList_eq]
  · intro h; rw [h, ByteArray.toList_eq]
attribute [simp] ML_bytes bytesI_len bs_eq bs_isEmpty
/-! ### lists, as the texts go through them -/
/-- in the ascending order of their numbers, each of them valid -/
def ascBy {α : Type} (ok : α → Bool) (num : α → Int) : Option Int → List α → Bool
  | _, [] => true
  | p, x :: r => ok x && (match p with | none => true | some q => decide (q < num x)) && ascBy ok num (some (num x)) r
def prevO {α : Type} [Inhabited α] (num : α → Int) (l : List α) (p : Nat) : Option Int := if p = 0 then none else some (num (l[p - 1]?.getD default))
section
variable {α : Type} [Inhabited α] {ok : α → Bool} {num : α → Int} {l : List α} {p : Nat}
@[simp] theorem prevO_zero : prevO num l 0 = none := rfl
@[simp] theorem prevO_succ : prevO num l (p + 1) = some (num (l[p]?.getD default)) := by simp [prevO]
theorem ascBy_at (h : p < l.length) : ascBy ok num (prevO num l p) (l.drop p) =
    (ok (l[p]?.getD default) && decide (0 < p → num (l[p - 1]?.getD default) < num (l[p]?.getD default)) && ascBy ok num (prevO num l (p + 1)) (l.drop (p + 1))) := by
  rw [drop_at (d := default) h, prevO_succ]
  cases p with
  | zero => simp [ascBy]
  | succ p => simp [ascBy]
omit [Inhabited α] in
theorem ascBy_end (h : l.length ≤ p) (o : Option Int) : ascBy ok num o (l.drop p) = true := by
  rw [List.drop_eq_nil_of_le h]; rfl
end
/-- the number is this one -/
def wantN {α : Type} (num : α → Int) (n : Int) (x : α) : Bool := decide (num x = n)
/-- the first place whose element is wanted; -1 if there is none -/
def indexBy {α : Type} (want : α → Bool) : Int → List α → Int
  | _, [] => -1
  | i, x :: r => if want x then i else indexBy want (i + 1) r
section
variable {α : Type} {want : α → Bool} {l : List α} {p : Nat} {d : α}
theorem indexBy_at (h : p < l.length) : indexBy want p (l.drop p) = if want (l[p]?.getD d) then (p : Int) else indexBy want ((p + 1 : Nat) : Int) (l.drop (p + 1)) := by
  rw [drop_at (d := d) h, indexBy]; push_cast; rfl
theorem indexBy_end (h : l.length ≤ p) (i : Int) : indexBy want i (l.drop p) = -1 := by
  rw [List.drop_eq_nil_of_le h]; rfl
theorem indexBy_bd : ∀ (l : List α) (i : Int), indexBy want i l = -1 ∨ (i ≤ indexBy want i l ∧ indexBy want i l < i + l.length)
  | [], i => .inl rfl
  | x :: r, i => by
    simp only [indexBy]
    split
    · right; simp; omega
    · rcases indexBy_bd r (i + 1) with h | h
      · exact .inl h
      · right; simp; omega
end
/-- those that are wanted, as something else -/
def pick {α β : Type} (want : α → Bool) (f : α → β) (l : List α) : List β := (l.filter want).map f
section
variable {α β : Type} {want : α → Bool} {f : α → β} {l : List α} {p : Nat} {d : α}
theorem pick_at (h : p < l.length) : pick want f (l.take (p + 1)) = pick want f (l.take p) ++ if want (l[p]?.getD d) then [f (l[p]?.getD d)] else [] := by
  rw [take_at (d := d) h]; simp only [pick, List.filter_append, List.map_append]
  congr 1
  by_cases hw : want (l[p]?.getD d) = true <;> simp [hw, List.filter]
theorem pick_len (l : List α) : (pick want f l).length ≤ l.length := by simp [pick]; exact List.length_filter_le _ _
theorem pick_take_len (l : List α) (p : Nat) : (pick want f (l.take p)).length ≤ p := by
  refine Nat.le_trans (pick_len _) ?_
  simp; omega
@[simp] theorem pick_nil : pick want f [] = [] := rfl
end
/-- whether one is wanted -/
theorem any_at {α : Type} {want : α → Bool} {l : List α} {p : Nat} {d : α} (h : p < l.length) : (l.drop p).any want = (want (l[p]?.getD d) || (l.drop (p + 1)).any want) := by
  rw [drop_at (d := d) h]; rfl
theorem any_end {α : Type} {want : α → Bool} {l : List α} {p : Nat} (h : l.length ≤ p) : (l.drop p).any want = false := by
  rw [List.drop_eq_nil_of_le h]; rfl
theorem all_at {α : Type} {want : α → Bool} {l : List α} {p : Nat} {d : α} (h : p < l.length) : (l.drop p).all want = (want (l[p]?.getD d) && (l.drop (p + 1)).all want) := by
  rw [drop_at (d := d) h]; rfl
theorem all_end {α : Type} {want : α → Bool} {l : List α} {p : Nat} (h : l.length ≤ p) : (l.drop p).all want = true := by
  rw [List.drop_eq_nil_of_le h]; rfl
/-- how many are wanted -/
theorem countP_at {α : Type} {want : α → Bool} {l : List α} {p : Nat} {d : α} (h : p < l.length) : (l.take (p + 1)).countP want = (l.take p).countP want + if want (l[p]?.getD d) then 1 else 0 := by
  rw [take_at (d := d) h, List.countP_append]
  by_cases hw : want (l[p]?.getD d) = true <;> simp [hw]
theorem countP_take {α : Type} {want : α → Bool} {l : List α} {p : Nat} : (l.take p).countP want ≤ p := by
  refine Nat.le_trans List.countP_le_length ?_
  simp; omega
theorem foldl_at {α σ : Type} {f : σ → α → σ} {s : σ} {l : List α} {p : Nat} {d : α} (h : p < l.length) : (l.take (p + 1)).foldl f s = f ((l.take p).foldl f s) (l[p]?.getD d) := by
  rw [take_at (d := d) h]; simp
theorem getD_mem {α : Type} {l : List α} {p : Nat} {d : α} (h : p < l.length) : l[p]?.getD d ∈ l := by
  rw [List.getElem?_eq_getElem h]; exact List.getElem_mem h
end Go.Eng
namespace Go.Eng
variable [HasG]
set_option linter.unusedSectionVars false
set_option linter.unusedVariables false
set_option linter.unusedSimpArgs false

/-! ### a slice that may be nil -/
/-- an empty slice is one that is nil or is not -/
theorem pco_slice {P : Program} {f : FuncId} {t : Bool} {s : Nat} {z r : D} {tin tout : Tab} (h : ∀ a cap, PCo P f [.lit (.slice a 0 cap)] tin r tout) : PCo P f [.sl t s z []] tin r tout := by
  refine ⟨(h none 0).1, fun w F β γ vs O G hr => ?_⟩
  simp only [Reps, Rep] at hr
  obtain ⟨v, vs', rfl, hv, rfl⟩ := hr
  have key : ∀ a cap, v = .slice a 0 cap → Reps F w.heap β [.lit (.slice a 0 cap)] [v] := fun a cap e => by
    simp only [Reps, Rep]; exact ⟨v, [], rfl, e, rfl⟩
  rcases hv with ⟨_, a, cap, e, _⟩ | ⟨b, off, cap, c, e, fr, rfl, _⟩
  · exact (h a cap).2 w F β γ _ O G (key _ _ e)
  · exact (h _ cap).2 w F β γ _ O G (key _ _ rfl)
/-- nil, as an own row that holds nothing -/
theorem pc_ghost {P : Program} {f : FuncId} {ds : List D} {s s' : Nat} {z z' : D} (h : PC P f ds (.sl true s' z' []) []) : PCo P f ds Tab.nil (.own (0, 1) s 0 0) (Tab.of [((0, 1), .arr false s z [])]) := by
  refine ⟨h.1, fun w F β γ vs O G hr => (h.2 w F β γ vs O G hr).mono fun e w' => ?_⟩
  rintro ⟨v, F', β', γ', g', he, O', hβ, hv⟩
  have hsl : ∃ a, v = .slice a 0 0 := by
    simp only [Rep] at hv
    rcases hv with ⟨_, a, cap, e, hc⟩ | ⟨b, off, cap, c, e, fr, e', _, _, _, hc, _⟩
    · rw [hc trivial] at e; exact ⟨a, e⟩
    · have := hc trivial
      simp only [List.length_nil] at this e'
      rw [this] at e'; exact ⟨_, e'⟩
  have h01 : β (0, 1) = none := by
    cases hb : β (0, 1) with
    | none => rfl
    | some x =>
      rcases O.gen _ _ hb with h1 | ⟨_, h1⟩
      · simp at h1
      · simp [Tab.nil, Tab.get] at h1
  have hT : ∀ nm o, (Tab.of [((0, 1), OO.arr false s z [])]).get nm = some o → nm = (0, 1) ∧ o = .arr false s z [] := by
    intro nm o h
    simp only [Tab.of, Tab.get, Tab.set] at h
    split at h
    · rename_i e; simp only [Option.some.injEq] at h; exact ⟨e.symm, h.symm⟩
    · simp [Tab.nil] at h
  refine ⟨v, F', fun nm => if nm = (0, 1) then some (none, s, 0) else β' nm, fun nm => if nm = (0, 1) then fun _ => False else γ' nm, g' + 1, he, ?_, ?_, ?_⟩
  · exact {
      F0F := O'.F0F, Fsrc := O'.Fsrc, Flt := O'.Flt, keep := O'.keep, size := O'.size, os := O'.os, tp := O'.tp, out := O'.out
      gen := fun nm x h => by
        by_cases e : nm = (0, 1)
        · subst e
          by_cases h1 : 1 < g' + 1
          · exact .inl h1
          · exact .inr ⟨by show 1 = g' + 1; omega, by simp [Tab.of, Tab.get, Tab.set]⟩
        · simp only [if_neg e] at h
          rcases O'.gen nm x h with h1 | ⟨h1, _⟩ <;> exact .inl (by omega)
      own := fun nm o h => by
        obtain ⟨rfl, rfl⟩ := hT nm o h
        exact ⟨none, 0, by simp, fun _ => ⟨rfl, rfl⟩, fun b hb => by cases hb⟩
      fps := fun nm o h _ x hx => by
        obtain ⟨rfl, rfl⟩ := hT nm o h
        simp [fp] at hx
      dis := fun nm nm' o o' h h' _ _ hne => by
        obtain ⟨rfl, rfl⟩ := hT nm o h
        obtain ⟨rfl, rfl⟩ := hT nm' o' h'
        exact absurd rfl hne }
  · intro nm x h
    have : nm ≠ (0, 1) := fun e => by rw [e, h01] at h; cases h
    simp only [if_neg this]
    exact hβ nm x h
  · obtain ⟨a, rfl⟩ := hsl
    simp only [Rep]
    exact .inl ⟨a, trivial, rfl⟩
theorem nilS_ML {α : Type} {e : α → D} {l : List α} {t : Bool} {s : Nat} {z : D} (h : ¬ l = []) : nilS (.sl t s z (ML e l)) = some false := by
  cases l with
  | nil => exact absurd rfl h
  | cons x r => rfl
/-! ### rows that are marked -/
section
variable {α : Type} {f : Int → α} {m k : Int}
theorem mark_get0 {l : List α} {p : Nat} {x d : α} (h : p < l.length) : (mkL f m k p ++ (l.drop p).set 0 x)[p]?.getD d = x := by
  rw [List.getElem?_append_right (by rw [mkL_length]; exact Nat.le_refl _), mkL_length, Nat.sub_self, List.getElem?_set_self (by simp; omega)]; rfl
end
end Go.Eng
namespace Go.Eng
open Go.RowKit Go.ChangeShapes Go.WideShapes
set_option linter.unusedVariables false
set_option linter.unusedSimpArgs false

/-! ### package variables, from a law's premise to the engine and back -/
theorem var_heap {P : Program} {w : World} {n : String} {g : Nat} {cs : Array Value} (hg : P.globalNamed n = some g) (h : w.var? P n = some cs) : ∃ t fr, w.heap[g]? = some (.cells cs t fr) := by
  simp only [World.var?, hg, Option.bind_some] at h
  split at h
  · rename_i c t fr hb
    simp only [Option.some.injEq] at h; subst h
    exact ⟨_, _, hb⟩
  · simp at h
theorem var_keep {P : Program} {B g : Nat} {W W' : World} {n : String} {cs : Array Value} (h : Below B W W') (hg : P.globalNamed n = some g) (hgB : g < B) (hv : W.var? P n = some cs) : W'.var? P n = some cs := by
  unfold World.var? at hv ⊢
  simp only [hg, Option.bind_some] at hv ⊢
  rw [h.block g hgB]
  exact hv
/-- the named variables read behind a call as they read before -/
theorem vars_below {H : Type} {enc : TypeId × Value → H} {P : Program} (hl : laidOutB P = true) {W W' : World} (hB : Below W.heap.size W W') : ∀ (ns : List String) {gs : List (DataW H)} {ps : List MemPlace},
    (ns.all fun n => match P.globalNamed n with | none => true | some g => match (P.globals[g]?).map (·.type) with | none => true | some t => P.readableRec t && decide (t < P.types.size)) = true →
    DataW.TrodVars enc P W (fun _ => true) ns gs ps → ∃ qs, DataW.TrodVars enc P W' (fun b => decide (b < W.heap.size)) ns gs qs
  | [], gs, ps, _, h => by
    obtain ⟨rfl, rfl⟩ := trodVars_none h
    exact ⟨[], rfl⟩
  | n :: ns, [], ps, _, h => by simp [DataW.TrodVars] at h
  | n :: ns, d :: gs, ps, ha, h => by
    obtain ⟨g, t, cs, fuel, p, q, h1, h2, h3, h4, hs, e⟩ := h
    simp only [List.all_cons, Bool.and_eq_true] at ha
    obtain ⟨ha, hr⟩ := ha
    obtain ⟨qs, hq⟩ := vars_below hl hB ns hr hs
    rw [h1] at ha; simp only at ha
    rw [h2] at ha; simp only [Bool.and_eq_true, decide_eq_true_eq] at ha
    obtain ⟨tt, fr, hb⟩ := var_heap h1 h3
    have hgl : g < W.heap.size := (Array.getElem?_eq_some_iff.1 hb).1
    obtain ⟨f2, hd⟩ := Below.trod hl ha.1 ha.2 (v := .agg cs) (⟨fuel, by simpa [Value.cells] using h4⟩ : DataW.Trod enc P W 0 (fun _ => true) true t (.agg cs) d p) hB (fun x hx => DataW.trod_lt fuel _ _ _ h4 x hx)
    exact ⟨_, g, t, cs, f2, p, qs, h1, h2, var_keep hB h1 hgl h3, by simpa [Value.cells] using hd, hq, rfl⟩
/-- a listed variable that is an array of whole numbers -/
theorem laid_ints {P : Program} {n : String} {g : Nat} {t e : TypeId} {k : IntKind} {d : DataW Unit} {r : List (String × DataW Unit)} {W : World} (zs : List Int) (h : laidMet P ((n, d) :: r) W) (hd : d = .agg (zs.map fun x => .lit (.int k x)))
    (hg : P.globalNamed n = some g) (ht : (P.globals[g]?).map (·.type) = some t) (hu : P.underlying t = some (.array zs.length e)) (he : P.underlying e = some (.int k)) (hc : P.cellsOf t = zs.length) (hce : P.cellsOf e = 1) :
    ∃ ty fr, W.heap[g]? = some (.cells (zs.map (Value.int k)).toArray ty fr) := by
  obtain ⟨ps, ⟨g0, t0, cs0, f0, p0, q0, hg0, ht0, hv0, hd0, _, _⟩, _, _⟩ := h
  obtain rfl := Option.some.inj (hg.symm.trans hg0)
  obtain rfl := Option.some.inj (ht.symm.trans ht0)
  obtain ⟨tt, fr, hb⟩ := var_heap hg hv0
  refine ⟨tt, fr, ?_⟩
  obtain ⟨xs, m1, rfl, hx1, hlen, hn, hel⟩ := DataW.trod_array hu hd0
  subst hd
  simp only [Prod.mk.injEq, DataW.agg.injEq] at hx1
  obtain ⟨hx1, _⟩ := hx1
  have key : cs0 = (zs.map (Value.int k)).toArray := by
    apply Array.ext'
    apply List.ext_getElem?
    intro i
    by_cases hi : i < zs.length
    · have h0 := hel i hi
      rw [hce, Nat.mul_one] at h0
      have hxi : xs[i]? = some xs[i] := List.getElem?_eq_getElem (by omega)
      rw [hxi] at h0
      obtain ⟨z, e1, e2, _⟩ := DataW.trod_int he h0
      have e3 : (cs0.toList.drop i).take 1 = [cs0.toList[i]] := by
        rw [List.take_one, List.head?_drop, List.getElem?_eq_getElem (by omega)]; rfl
      rw [e3] at e1
      have e4 : xs[i].1 = .lit (.int k zs[i]) := by
        have := congrArg (fun l => l[i]?) hx1
        simpa [hi, hxi] using this.symm
      rw [e2] at e4
      simp only [DataW.lit.injEq, Lit.int.injEq, true_and] at e4
      subst e4
      simp only [List.cons.injEq, and_true] at e1
      rw [List.getElem?_eq_getElem (by omega), e1]
      simp [hi]
    · rw [List.getElem?_eq_none (by omega), List.getElem?_eq_none (by simp; omega)]
  rw [← key]; exact hb
theorem rep_ints0 {F : Nat → Prop} {h : Array Obj} {g : Nat} {k : IntKind} {zs : List Int} {ty : TypeId} {fr} (hF : F g) (hb : h[g]? = some (.cells (zs.map (Value.int k)).toArray ty fr)) :
    Rep F h Beta.none (.el (.agg (zs.map fun z => .lit (.int k z)))) (gval g) := by
  simp only [Rep, gval]
  refine ⟨g, 0, _, ty, fr, .agg (zs.map (Value.int k)).toArray, rfl, hF, hb, ⟨_, rfl, ?_⟩, fun j hj => by simp [Value.cells]⟩
  exact Reps.map zs fun x _ => by simp only [Rep]
theorem rep_ints {F : Nat → Prop} {h : Array Obj} {g : Nat} {k : IntKind} {zs : List Int} {ty : TypeId} {fr} (hF : F g) (hb : h[g]? = some (.cells (zs.map (Value.int k)).toArray ty fr)) :
    Rep F h Beta.none (.el (.agg (zs.map fun z => .lit (.int k z)))) (gval g) ∧ ExactG h g (.el (.agg (zs.map fun z => .lit (.int k z)))) :=
  ⟨rep_ints0 hF hb, _, ty, fr, hb, by simp⟩
theorem rep_no {F : Nat → Prop} {h : Array Obj} {g : Nat} {v : Value} : Rep F h Beta.none .any v ∧ ExactG h g .any := ⟨by simp only [Rep], trivial⟩
/-- what the engine knows of a variable, as the shelf's contracts say it -/
theorem GlobF.tab [HasG] {P : Program} {F : Nat → Prop} {w : World} {n : String} {g : Nat} {k : IntKind} {zs : List Int} (G : GlobF F w.heap) (hg : HasG.gl g = .el (.agg (zs.map fun z => .lit (.int k z)))) (hn : P.globalNamed n = some g) :
    w.var? P n = some (zs.map (Value.int k)).toArray := by
  have hG := G g
  rw [hg] at hG
  obtain ⟨hr, c, ty, fr, hb, hs⟩ := hG
  simp only [Rep, gval] at hr
  obtain ⟨b, off, c', e', fr', u, h1, h2, h3, ⟨vs, rfl, hvs⟩, hseg⟩ := hr
  simp only [Value.pointer.injEq, Option.some.injEq, Addr.mk.injEq] at h1
  obtain ⟨rfl, rfl, _⟩ := h1
  rw [hb] at h3
  simp only [Option.some.injEq, Obj.cells.injEq] at h3
  obtain ⟨rfl, rfl, rfl⟩ := h3
  have hv : vs = zs.map (Value.int k) := by
    have key : ∀ (zs : List Int) (vs : List Value), Reps F w.heap Beta.none (zs.map fun z => D.lit (.int k z)) vs → vs = zs.map (Value.int k) := by
      intro zs
      induction zs with
      | nil => intro vs h; simpa only [List.map_nil, Reps] using h
      | cons z zs ih =>
        intro vs h
        simp only [List.map_cons, Reps, Rep] at h
        obtain ⟨v, vs', rfl, rfl, h⟩ := h
        rw [ih vs' h]; rfl
    exact key zs vs hvs
  subst hv
  simp only [World.var?, hn, Option.bind_some, hb]
  congr 1
  apply Array.ext'
  apply List.ext_getElem?
  intro i
  by_cases hi : i < zs.length
  · have := hseg i (by simp [Value.cells]; omega)
    simpa [Value.cells] using this
  · simp at hs
    rw [List.getElem?_eq_none (by simp; omega), List.getElem?_eq_none (by simp; omega)]
theorem rep_any {F : Nat → Prop} {h : Array Obj} {β : Beta} {v : Value} : Rep F h β .any v := by simp only [Rep]
end Go.Eng
namespace Go.Eng
variable [HasG]
set_option linter.unusedSectionVars false
set_option linter.unusedVariables false
set_option linter.unusedSimpArgs false

/-! ### contracts of the library's, taken as they are proved elsewhere -/
theorem reps_none {F : Nat → Prop} {h : Array Obj} {β : Beta} : ∀ {ds : List D} {vs : List Value}, puresD ds = true → Reps F h β ds vs → Reps F h Beta.none ds vs
  | [], vs, _, r => by simpa only [Reps] using r
  | d :: ds, vs, hp, r => by
    simp only [puresD, Bool.and_eq_true] at hp
    simp only [Reps] at r ⊢
    obtain ⟨v, vs', e, r1, r2⟩ := r
    exact ⟨v, vs', e, Rep.rebeta _ hp.1 r1, reps_none hp.2 r2⟩
theorem enters_of_func {P : Program} {f : FuncId} {fn : Func} (hf : P.funcs[f]? = some fn) (hn : (fn.name == "runtime.NumGoroutine") = false) (hb : fn.body.isNone = false) : Enters P f := ⟨fn, hf, hn, hb⟩
/-- what a function leaves of the memory: all that was there; new blocks may have come -/
structure Grown (w w' : World) : Prop where
  old : ∀ b, b < w.heap.size → w'.heap[b]? = w.heap[b]?
  size : w.heap.size ≤ w'.heap.size
  os : w'.os = w.os
  tp : w'.tape = w.tape
  out : w'.output = w.output
theorem grown_drew (w : World) (k : Nat) (os : Array Obj) : Grown w (Go.Sort.grow (w.drewN k) os) :=
  ⟨fun b hb => by simp only [Go.Sort.grow, World.drewN]; rw [Array.getElem?_append_left hb], by simp [Go.Sort.grow, World.drewN], rfl, rfl, rfl⟩
theorem grown_refl (w : World) : Grown w w := ⟨fun _ _ => rfl, Nat.le_refl _, rfl, rfl, rfl⟩
/-- a function of plain data whose result is a plain value -/
theorem pco_lit {P : Program} {f : FuncId} {ds : List D} {r : Value} (hE : Enters P f) (hp : puresD ds = true)
    (h : ∀ (w : World) (F : Nat → Prop) (vs : List Value), GlobF F w.heap → Reps F w.heap Beta.none ds vs → Calls P f vs.toArray w fun e w' => e = .returned r ∧ Grown w w') : PCo P f ds Tab.nil (.lit r) Tab.nil := by
  refine ⟨hE, fun w F β γ vs O G hr => (h w F vs G (reps_none hp hr)).mono fun e w' ⟨he, g⟩ => ?_⟩
  refine ⟨r, F, β, γ, 1, he, ?_, fun _ _ h => h, by simp only [Rep]⟩
  exact O.frz g.old g.size g.os g.tp g.out (fun _ h => h) (fun _ h => .inl h)
/-- a frozen row of plain values, as the shelf's contracts say it -/
theorem rep_row {α : Type} {w : World} {F : Nat → Prop} {t : Bool} {z : D} {f : α → Value} {l : List α} {v : Value} (hf : ∀ x, (f x).cells = #[f x]) (r : Rep F w.heap Beta.none (.sl t 1 z (ML (fun x => .lit (f x)) l)) v) :
    (l = [] ∧ ∃ a cap, v = .slice a 0 cap) ∨ ∃ b off cap, v = .slice (some ⟨b, off, none⟩) l.length cap ∧ b < w.heap.size ∧ l.length ≤ cap ∧ ∀ (j : Nat) x, l[j]? = some x → w.cell? ⟨b, off + j, none⟩ = some (f x) := by
  simp only [Rep] at r
  rcases r with ⟨h0, a, cap, e, _⟩ | ⟨b, off, cap, c, e, fr, h1, h2, h3, h4, _, h6⟩
  · exact .inl ⟨by simpa [ML] using h0, a, cap, e⟩
  · right
    have hl : (ML (fun x => D.lit (f x)) l).length = l.length := by simp [ML]
    rw [hl] at h1 h4
    refine ⟨b, off, cap, h1, (Array.getElem?_eq_some_iff.1 h3).1, h4, fun j x hx => ?_⟩
    have hj : j < l.length := (List.getElem?_eq_some_iff.1 hx).1
    obtain ⟨u, g1, _, g3⟩ := h6.get j (by rw [hl]; exact hj)
    have e1 : (ML (fun x => D.lit (f x)) l)[j]'(by rw [hl]; exact hj) = D.lit (f x) := by
      simp only [ML, List.getElem_map]
      rw [(List.getElem?_eq_some_iff.1 hx).2]
    rw [e1] at g1
    simp only [Rep] at g1
    subst g1
    have := g3 0 (by rw [hf]; simp)
    rw [hf] at this
    simp only [Nat.mul_one, Nat.add_zero] at this
    simp only [World.cell?, h3]
    simpa using this
theorem grown_below {w w' : World} (h : RowKit.Below w.heap.size w w') : Grown w w' := ⟨fun b hb => h.block b hb, h.size, h.os, h.tape, h.output⟩
end Go.Eng
namespace Go.Eng
variable [HasG]
set_option linter.unusedSectionVars false
set_option linter.unusedVariables false
set_option linter.unusedSimpArgs false

/-! ### a row of one's own that a function of the library's changes in its place -/
theorem putCells_size {α : Type} [Inhabited α] (enc : α → Value) (off : Nat) (d : Array α) (c : Array Value) : (Go.Sort.putCells enc off d c).size = c.size := by simp [Go.Sort.putCells]
theorem putCells_get {α : Type} [Inhabited α] (enc : α → Value) (d : List α) (c : Array Value) (j : Nat) (hj : j < d.length) (hc : d.length ≤ c.size) : (Go.Sort.putCells enc 0 d.toArray c)[j]? = some (enc d[j]) := by
  have h1 : j < c.size := by omega
  simp [Go.Sort.putCells, h1, hj]
/-- the row's new contents in their old place; new blocks may have come -/
theorem Own.rowPut {w w' : World} {F : Nat → Prop} {β : Beta} {γ : Nm → Nat → Prop} {z : D} {l l' : List Int} {b cap : Nat} (O : Own w (Mof β γ (Tab.of [((0, 0), .arr false 1 z (ML dI l))])) F F β γ (Tab.of [((0, 0), .arr false 1 z (ML dI l))]) 1 w)
    (hβ : β (0, 0) = some (some b, 1, cap)) (hl : l'.length = l.length) {n : Nat} {os : Array Obj} (hw : w' = Go.Sort.grow (Go.Sort.putRow (Value.int .i64) (Go.Sort.ahead w n) b 0 l'.toArray) os) :
    Own w (Mof β γ (Tab.of [((0, 0), .arr false 1 z (ML dI l))])) F F β γ (Tab.of [((0, 0), .arr false 1 z (ML dI l'))]) 1 w' := by
  have ho : (Tab.of [((0, 0), .arr false 1 z (ML dI l))]).get (0, 0) = some (.arr false 1 z (ML dI l)) := rfl
  have only : ∀ (o : OO) nm o', (Tab.of [((0, 0), o)]).get nm = some o' → nm = (0, 0) := fun o nm o' h => by
    simp only [Tab.of, Tab.get_set] at h
    split at h
    · rename_i e; exact e.symm
    · cases h
  have hb := O.fps (0, 0) _ ho (by simp) b (.inl ⟨1, cap, hβ⟩)
  obtain ⟨bo, cap', hβ', hn, hblk⟩ := O.own (0, 0) _ ho
  rw [hβ] at hβ'
  simp only [Option.some.injEq, Prod.mk.injEq] at hβ'
  obtain ⟨rfl, _, rfl⟩ := hβ'
  obtain ⟨hG, c, e, hc, hcs, hcl, hrow⟩ := hblk b rfl
  have hlen : (ML dI l).length = l.length := by simp [ML]
  rw [hlen] at hcl
  have heap : ∀ i, i < w.heap.size → w'.heap[i]? = if i = b then some (.cells (Go.Sort.putCells (Value.int .i64) 0 l'.toArray c) e (0, 0)) else w.heap[i]? := fun i hi => by
    rw [hw]
    simp only [Go.Sort.grow, Go.Sort.putRow, Go.Sort.mapBlock, Go.Sort.ahead]
    rw [Array.getElem?_append_left (by simpa using hi)]
    rw [Array.getElem?_modify]
    by_cases hib : i = b
    · subst hib
      rw [if_pos rfl, if_pos rfl, hc]; rfl
    · rw [if_neg (Ne.symm hib), if_neg hib]
  have hsz : w.heap.size ≤ w'.heap.size := by rw [hw]; simp [Go.Sort.grow, Go.Sort.putRow, Go.Sort.mapBlock, Go.Sort.ahead]
  refine O.one (0, 0) (.arr false 1 z (ML dI l')) (fun nm hne => .inl ?_) rfl (by simp) (fun _ _ h => h) (fun _ _ => rfl) (fun _ _ => rfl) (fun i => i = b) (fun i hi hx => ?_) (fun i hi => hi ▸ hb.1) (fun nm o' hne h' => absurd (only _ nm o' h') hne) (fun i hi => hi ▸ hb.2.2) hsz (by rw [hw]; rfl) (by rw [hw]; rfl) (by rw [hw]; rfl) (fun _ => Iff.rfl) ?_ ?_
  · simp only [Tab.of, Tab.get_set, if_neg (Ne.symm hne)]
  · rw [heap i hi, if_neg hx]
  · refine ⟨some b, cap, hβ, (fun h => by cases h), fun b' hb' => ?_⟩
    cases hb'
    refine ⟨hG, _, e, by rw [heap b hb.2.1, if_pos rfl], by rw [putCells_size]; exact hcs, by simp [ML]; omega, ?_⟩
    refine Repx.of_get fun i hi => ?_
    have hi' : i < l'.length := by simpa [ML] using hi
    refine ⟨.int .i64 l'[i], by simp [ML, Rep], ⟨by simp [ML, okD, oneD, Value.oneCell'], rfl⟩, fun j hj => ?_⟩
    have hj0 : j = 0 := by simpa [Value.cells] using hj
    subst hj0
    have := putCells_get (Value.int .i64) l' c i hi' (by omega)
    simpa [Value.cells, Nat.mul_one] using this
  · intro _ x hx
    exact .inr ⟨(0, 0), _, ho, by simp, hx, .inl rfl⟩
/-- A SORT, as a contract of the engine's -/
theorem pco_sort {P : Program} {f : FuncId} {l l' : List Int} {z : D} (hE : Enters P f) (hl : l'.length = l.length)
    (h0 : l = [] → ∀ a cap w, Calls P f #[.slice a 0 cap] w fun e w' => e = .returned (.tuple #[]) ∧ w' = w)
    (h : ∀ blk off cap w, Go.Sort.Holds (Value.int .i64) w blk off l.toArray → blk < w.heap.size → Calls P f #[.slice (some ⟨blk, off, none⟩) l.length cap] w fun e w' => e = .returned (.tuple #[]) ∧ ∃ n os, w' = Go.Sort.grow (Go.Sort.putRow (Value.int .i64) (Go.Sort.ahead w n) blk off l'.toArray) os) :
    PCo P f [.own (0, 0) 1 0 l.length] (Tab.of [((0, 0), .arr false 1 z (ML dI l))]) (.tup []) (Tab.of [((0, 0), .arr false 1 z (ML dI l'))]) := by
  refine ⟨hE, fun w F β γ vs O G hr => ?_⟩
  simp only [Reps] at hr
  obtain ⟨v, vs', rfl, hv, rfl⟩ := hr
  have rt : Rep F w.heap β (.tup []) (.tuple #[]) := by simp only [Rep, Reps]; exact ⟨[], rfl, rfl⟩
  have nilcase : l = [] → ∀ a cap, v = .slice a 0 cap → Calls P f [v].toArray w fun e w' => ∃ v F' β' γ' g', e = .returned v ∧ Own w (Mof β γ (Tab.of [((0, 0), .arr false 1 z (ML dI l))])) F F' β' γ' (Tab.of [((0, 0), .arr false 1 z (ML dI l'))]) g' w' ∧ (∀ nm x, β nm = some x → β' nm = some x) ∧ Rep F' w'.heap β' (.tup []) v := by
    intro hnil a cap hva
    subst hnil
    have : l' = [] := List.eq_nil_of_length_eq_zero (by simpa using hl)
    subst this
    subst hva
    refine (h0 rfl a cap w).mono ?_
    rintro e w' ⟨rfl, rfl⟩
    exact ⟨_, F, β, γ, 1, rfl, O, fun _ _ h => h, rt⟩
  simp only [Rep] at hv
  rcases hv with ⟨a, hn0, hva⟩ | ⟨b, cap, hβ, hvb, hle⟩
  · exact nilcase (List.eq_nil_of_length_eq_zero hn0) a 0 hva
  · have ho : (Tab.of [((0, 0), .arr false 1 z (ML dI l))]).get (0, 0) = some (.arr false 1 z (ML dI l)) := rfl
    obtain ⟨bo, cap', hβ', hn, hblk⟩ := O.own (0, 0) _ ho
    rw [hβ] at hβ'
    simp only [Option.some.injEq, Prod.mk.injEq] at hβ'
    obtain ⟨rfl, _, rfl⟩ := hβ'
    obtain ⟨hG, c, e, hc, hcs, hcl, hrow⟩ := hblk b rfl
    have hlen : (ML dI l).length = l.length := by simp [ML]
    have hblt : b < w.heap.size := (Array.getElem?_eq_some_iff.1 hc).1
    have hH : Go.Sort.Holds (Value.int .i64) w b 0 l.toArray := fun j hj => by
      have hj' : j < l.length := by simpa using hj
      obtain ⟨u, g1, _, g3⟩ := hrow.get j (by rw [hlen]; exact hj')
      have e1 : (ML dI l)[j]'(by rw [hlen]; exact hj') = dI l[j] := by simp [ML]
      rw [e1] at g1
      simp only [dI, Rep] at g1
      subst g1
      have := g3 0 (by simp [Value.cells])
      simp only [Nat.mul_one, Nat.add_zero, Nat.zero_add, Value.cells] at this
      refine ⟨?_, ?_⟩
      · simp only [World.cell?, hc]
        simpa [hj'] using this
      · simp [World.frozen?, hc]
    simp only [Nat.zero_mul, Nat.sub_zero] at hvb
    subst hvb
    refine (h b 0 cap w hH hblt).mono ?_
    rintro e w' ⟨rfl, n, os, hw⟩
    have O' := O.rowPut hβ hl hw
    refine ⟨_, F, β, γ, 1, rfl, O', fun _ _ h => h, ?_⟩
    simp only [Rep, Reps]; exact ⟨[], rfl, rfl⟩
end Go.Eng
namespace Go.Eng
variable [HasG]
set_option linter.unusedSectionVars false
set_option linter.unusedVariables false
set_option linter.unusedSimpArgs false

/-! ### contracts of one function for different shapes of memory: the first that fits -/
def orFn : List Con → List D → List (Nm × OO) → Option (Prop × D × List (Nm × OO))
  | [], _, _ => none
  | c :: r, ds, ti => match c.fn ds ti with
    | some x => some x
    | none => orFn r ds ti
def orCon (f : FuncId) (own : Bool) (T : List Con) : Con := ⟨f, own, orFn T⟩
theorem orFn_mem : ∀ {T : List Con} {ds ti x}, orFn T ds ti = some x → ∃ c ∈ T, c.fn ds ti = some x
  | [], _, _, _, h => by simp [orFn] at h
  | c :: r, ds, ti, x, h => by
    simp only [orFn] at h
    split at h
    · rename_i y hy
      simp only [Option.some.injEq] at h; subst h
      exact ⟨c, by simp, hy⟩
    · obtain ⟨d, hd, e⟩ := orFn_mem h
      exact ⟨d, by simp [hd], e⟩
theorem orCon_ok {P : Program} {f : FuncId} {own : Bool} {T : List Con} (h : ∀ c ∈ T, c.f = f ∧ c.ok P) : (orCon f own T).ok P := by
  intro ds tin p r tout hf hp
  obtain ⟨c, hc, e⟩ := orFn_mem hf
  have := (h _ hc).2 ds tin p r tout e hp
  rw [(h _ hc).1] at this
  exact this
theorem orFn_take {c : Con} {r : List Con} {ds ti x} (h : c.fn ds ti = some x) : orFn (c :: r) ds ti = some x := by simp only [orFn, h]
theorem orFn_skip {c : Con} {r : List Con} {ds ti x} (h : c.fn ds ti = none) (h2 : orFn r ds ti = some x) : orFn (c :: r) ds ti = some x := by simp only [orFn, h, h2]
theorem mkCon_none {f : FuncId} {own : Bool} {α : Type} {args : α → List D} {tin : α → List (Nm × OO)} {pre : α → Prop} {res : α → D} {tout : α → List (Nm × OO)} {ds ti} (h : ∀ x, (tin x).map Prod.fst ≠ ti.map Prod.fst) : (mkCon f own args tin pre res tout).fn ds ti = none := by
  simp only [mkCon]
  rw [dif_neg]
  rintro ⟨x, _, hx⟩
  exact h x (by rw [hx])
theorem mkCon_noneA {f : FuncId} {own : Bool} {α : Type} {args : α → List D} {tin : α → List (Nm × OO)} {pre : α → Prop} {res : α → D} {tout : α → List (Nm × OO)} {ds ti} (h : ∀ x, (args x).map nz = ds.map nz → False) : (mkCon f own args tin pre res tout).fn ds ti = none := by
  simp only [mkCon]
  rw [dif_neg]
  rintro ⟨x, hx, _⟩
  exact h x hx
theorem mkCon_noneT {f : FuncId} {own : Bool} {α : Type} {args : α → List D} {tin : α → List (Nm × OO)} {pre : α → Prop} {res : α → D} {tout : α → List (Nm × OO)} {ds ti} (h : ∀ x, tin x ≠ ti) : (mkCon f own args tin pre res tout).fn ds ti = none := by
  simp only [mkCon]
  rw [dif_neg]
  rintro ⟨x, _, hx⟩
  exact h x hx
theorem orCon_f (f : FuncId) (own : Bool) (T : List Con) : (orCon f own T).f = f := rfl
theorem orCon_own (f : FuncId) (own : Bool) (T : List Con) : (orCon f own T).own = own := rfl

/-! ### nil slices in a struct, as own rows that hold nothing -/
theorem rep_one {F : Nat → Prop} {h : Array Obj} {β : Beta} {s : Nat} {z : D} {v : Value} (hv : Rep F h β (.sl true s z []) v) : ∃ a, v = .slice a 0 0 := by
  simp only [Rep] at hv
  rcases hv with ⟨_, a, cap, e, hc⟩ | ⟨b, off, cap, c, e, fr, e', _, _, _, hc, _⟩
  · rw [hc trivial] at e; exact ⟨a, e⟩
  · have := hc trivial
    simp only [List.length_nil] at this e'
    rw [this] at e'; exact ⟨_, e'⟩
theorem tab_two {s s' : Nat} {z z' : D} {n : Nm} {o : OO} (h : (Tab.of [((0, 1), .arr false s z []), ((1, 1), .arr false s' z' [])]).get n = some o) : (n = (0, 1) ∧ o = .arr false s z []) ∨ (n = (1, 1) ∧ o = .arr false s' z' []) := by
  simp only [Tab.of, Tab.get, Tab.set] at h
  split at h
  · rename_i e; simp only [Option.some.injEq] at h; exact .inl ⟨e.symm, h.symm⟩
  · split at h
    · rename_i e; simp only [Option.some.injEq] at h; exact .inr ⟨e.symm, h.symm⟩
    · simp [Tab.nil] at h
/-- data that hold nothing but nil slices and plain values, and the same with own rows in their place -/
inductive NilTo : List D → List D → Prop where
  | nil : NilTo [] []
  | lit {x : Value} {a b : List D} : NilTo a b → NilTo (.lit x :: a) (.lit x :: b)
  | sl {s : Nat} {z : D} {s' k : Nat} {a b : List D} : NilTo a b → NilTo (.sl true s z [] :: a) (.own (k, 1) s' 0 0 :: b)
theorem NilTo.reps {F F' : Nat → Prop} {h h' : Array Obj} {β β' : Beta} {a b : List D} (n : NilTo a b) : ∀ {vs : List Value}, Reps F h β a vs → Reps F' h' β' b vs := by
  induction n with
  | nil => intro vs hv; simpa only [Reps] using hv
  | lit _ ih =>
    intro vs hv
    simp only [Reps, Rep] at hv ⊢
    obtain ⟨v, vs', e, e2, r⟩ := hv
    exact ⟨v, vs', e, e2, ih r⟩
  | sl _ ih =>
    intro vs hv
    simp only [Reps] at hv ⊢
    obtain ⟨v, vs', e, e2, r⟩ := hv
    obtain ⟨q, hq⟩ := rep_one e2
    exact ⟨v, vs', e, by simp only [Rep]; exact .inl ⟨q, trivial, hq⟩, ih r⟩
/-- a struct with two nil slices and a value, as two own rows that hold nothing -/
theorem pc_nils {P : Program} {f : FuncId} {ds a b : List D} {q : Value} {z1 z2 : D} (n : NilTo a b) (h : PC P f ds (.tup [.agg a, .lit q]) []) :
    PCo P f ds Tab.nil (.tup [.agg b, .lit q]) (Tab.of [((0, 1), .arr false 1 z1 []), ((1, 1), .arr false 1 z2 [])]) := by
  refine ⟨h.1, fun w F β γ vs O G hr => (h.2 w F β γ vs O G hr).mono fun e w' => ?_⟩
  rintro ⟨v, F', β', γ', g', he, O', hβ, hv⟩
  have h0 : ∀ k : Nat, β (k, 1) = none := fun k => by
    cases hb : β (k, 1) with
    | none => rfl
    | some x =>
      rcases O.gen _ _ hb with h1 | ⟨_, h1⟩
      · simp at h1
      · simp [Tab.nil, Tab.get] at h1
  refine ⟨v, F', fun nm => if nm = (0, 1) ∨ nm = (1, 1) then some (none, 1, 0) else β' nm, fun nm => if nm = (0, 1) ∨ nm = (1, 1) then fun _ => False else γ' nm, g' + 2, he, ?_, ?_, ?_⟩
  · exact {
      F0F := O'.F0F, Fsrc := O'.Fsrc, Flt := O'.Flt, keep := O'.keep, size := O'.size, os := O'.os, tp := O'.tp, out := O'.out
      gen := fun nm x h => by
        by_cases e : nm = (0, 1) ∨ nm = (1, 1)
        · rcases e with rfl | rfl <;> exact .inl (by show 1 < g' + 2; omega)
        · simp only [if_neg e] at h
          rcases O'.gen nm x h with h1 | ⟨h1, _⟩ <;> exact .inl (by omega)
      own := fun nm o h => by
        rcases tab_two h with ⟨rfl, rfl⟩ | ⟨rfl, rfl⟩ <;> exact ⟨none, 0, by simp, fun _ => ⟨rfl, rfl⟩, fun b hb => by cases hb⟩
      fps := fun nm o h _ x hx => by
        rcases tab_two h with ⟨rfl, rfl⟩ | ⟨rfl, rfl⟩ <;> simp [fp] at hx
      dis := fun nm nm' o o' h h' _ _ hne x hx => by
        rcases tab_two h with ⟨rfl, rfl⟩ | ⟨rfl, rfl⟩ <;> simp [fp] at hx }
  · intro nm x h
    have : ¬ (nm = (0, 1) ∨ nm = (1, 1)) := fun e => by rcases e with e | e <;> (rw [e, h0] at h; cases h)
    simp only [if_neg this]
    exact hβ nm x h
  · simp only [Rep, Reps] at hv ⊢
    obtain ⟨V, rfl, u, U, rfl, ⟨A, rfl, hA⟩, b1, B1, rfl, rfl, rfl⟩ := hv
    exact ⟨_, rfl, _, _, rfl, ⟨_, rfl, n.reps hA⟩, _, _, rfl, rfl, rfl⟩
end Go.Eng
namespace Go.Eng
variable [HasG]
set_option linter.unusedSectionVars false
set_option linter.unusedVariables false
set_option linter.unusedSimpArgs false

theorem and_rev {p q : Prop} (h2 : q) (h1 : p) : p ∧ q := ⟨h1, h2⟩
/-- an index into a list that is not empty -/
theorem lt_ne {α : Type} {l : List α} {v : Int} (h : 0 < (l.length : Int) → 0 ≤ v ∧ v < l.length) (hl : ¬ l = []) : 0 ≤ v ∧ v < l.length ∧ v.toNat < l.length := by
  have h0 : 0 < l.length := List.length_pos_iff.2 hl
  have := h (by omega)
  omega
/-! ### something is returned: one and the same, wherever the run goes -/
def nnOps : List Oper → Bool
  | [] => true
  | o :: _ => match o.op with
    | .next _ _ => false
    | _ => true
/-- no loop over a map -/
def nn : Code → Bool
  | .region _ ops false => nnOps ops.toList
  | .seq x y => nn x && nn y
  | .cond _ x y => nn x && nn y
  | .block _ c => nn c
  | .scope c => nn c
  | .loop c => nn c
  | _ => true
def nnK : List Fr → Bool
  | [] => true
  | .seq c :: k => nn c && nnK k
  | .lpu c :: k => nn c && nnK k
  | .blk _ :: k => nnK k
  | .lp :: k => nnK k
def nnM : Cmd → Bool
  | .code c => nn c
  | _ => true
def T.fine : T → Prop
  | .bad => True
  | .ret _ => True
  | .again _ _ => True
  | .ob _ t => t.fine
  | .loop c k _ => nn c = true ∧ nnK k = true
  | .nxt .. => False
theorem nextOps_nn {σ : S} {l : List Oper} (h : nnOps l = true) : nextOps σ l = none := by
  cases l with
  | nil => rfl
  | cons o r =>
    simp only [nextOps]
    have : nextIt σ o = none := by
      simp only [nnOps] at h
      unfold nextIt
      split
      · rename_i ho; rw [ho] at h; cases h
      · rfl
    rw [this]
theorem run_fine {E : Env} {Γ : Ctx} {m : Bool} {base : Nat} {fl : List Nat} : ∀ (n : Nat) (c : Cmd) (k : List Fr) (σ : S), nnM c = true → nnK k = true → (run E Γ m base fl n c k σ).fine := by
  intro n
  induction n with
  | zero => intro c k σ _ _; simp only [run, T.fine]
  | succ n ih =>
    intro c k σ hc hk
    cases c with
    | code c =>
      simp only [nnM] at hc
      cases c
      case skip | label => simp only [run]; exact ih .norm k σ rfl hk
      case seq x y =>
        simp only [nn, Bool.and_eq_true] at hc
        simp only [run]; exact ih (.code x) (.seq y :: k) σ hc.1 (by simp only [nnK, hc.2, hk, Bool.and_self])
      case cond c x y =>
        simp only [nn, Bool.and_eq_true] at hc
        simp only [run]
        split
        · simp only [T.fine]
          split
          · exact ih (.code x) k σ hc.1 hk
          · exact ih (.code y) k σ hc.2 hk
        · simp only [T.fine]
      case region id ops draw =>
        cases draw with
        | false =>
          simp only [nn] at hc
          simp only [run, nextOps_nn hc]
          split
          · simp only [T.fine]; exact ih .norm k _ rfl hk
          · simp only [T.fine]
        | true =>
          simp only [run]
          split
          · simp only [T.fine]; exact ih .norm k _ rfl hk
          · simp only [T.fine]
      case block id c => simp only [run]; exact ih (.code c) (.blk id :: k) σ (by simpa only [nn, nnM] using hc) (by simpa only [nnK] using hk)
      case scope c => simp only [run]; exact ih (.code c) k σ (by simpa only [nn, nnM] using hc) hk
      case loop c => simp only [run, T.fine]; exact ⟨by simpa only [nn] using hc, hk⟩
      case exit id => simp only [run]; exact ih (.exit id) k σ rfl hk
      case ret => simp only [run]; exact ih .ret k σ rfl hk
      all_goals simp only [run, T.fine]
    | norm =>
      cases k with
      | nil => simp only [run, T.fine]
      | cons f k => cases f with
        | seq y =>
          simp only [nnK, Bool.and_eq_true] at hk
          simp only [run]; exact ih (.code y) k σ hk.1 hk.2
        | blk id => simp only [nnK] at hk; simp only [run]; exact ih .norm k σ rfl hk
        | lp => simp only [run, T.fine]
        | lpu c =>
          simp only [run]
          have hk' := hk
          simp only [nnK, Bool.and_eq_true] at hk'
          exact ih (.code c) (.lpu c :: k) σ hk'.1 hk
    | exit id =>
      cases k with
      | nil => simp only [run, T.fine]
      | cons f k => cases f with
        | seq y => simp only [nnK, Bool.and_eq_true] at hk; simp only [run]; exact ih (.exit id) k σ rfl hk.2
        | blk id' =>
          simp only [nnK] at hk
          simp only [run]
          split
          · exact ih .norm k σ rfl hk
          · exact ih (.exit id) k σ rfl hk
        | lp => simp only [nnK] at hk; simp only [run]; exact ih (.exit id) k σ rfl hk
        | lpu c => simp only [nnK, Bool.and_eq_true] at hk; simp only [run]; exact ih (.exit id) k σ rfl hk.2
    | ret => simp only [run, T.fine]

theorem den_mono {L : Code → List Fr → S → (Nat → S → Prop) → Prop} {R : S → Prop} (hL : ∀ c k σ A A', (∀ j σ, A j σ → A' j σ) → L c k σ A → L c k σ A') : ∀ (t : T) (A A' : Nat → S → Prop), (∀ j σ, A j σ → A' j σ) → den L R t A → den L R t A'
  | .bad, _, _, _, h => h
  | .ret _, _, _, _, h => h
  | .again j σ, _, _, hA, h => hA j σ h
  | .ob _ t, A, A', hA, h => ⟨h.1, den_mono hL t A A' hA h.2⟩
  | .loop c k σ, A, A', hA, h => hL c k σ A A' hA h
  | .nxt n seen f t, A, A', hA, h => ⟨fun i hi hs => den_mono hL (f i) A A' hA (h.1 i hi hs), fun hs => den_mono hL t A A' hA (h.2 hs)⟩
section
variable {E : Env} {Γ : Ctx} {m : Bool} {base : Nat} {fl : List Nat}
theorem loopP_mono {R : S → Prop} : ∀ (d : Nat) (c : Code) (k : List Fr) (σ : S) (A A' : Nat → S → Prop), (∀ j σ, A j σ → A' j σ) → loopP E Γ m base fl R d c k σ A → loopP E Γ m base fl R d c k σ A' := by
  intro d
  induction d with
  | zero => intro c k σ A A' _ h; simp only [loopP] at h
  | succ d ih =>
    intro c k σ A A' hA h
    simp only [loopP] at h ⊢
    rcases h with ⟨α, inv, l, L, g, μ, p0, hg, hi, hl, hr⟩ | ⟨n, hn⟩
    · refine .inl ⟨α, inv, l, L, g, μ, p0, hg, hi, hl, fun p hp => ?_⟩
      obtain ⟨n, hn⟩ := hr p hp
      refine ⟨n, den_mono ih _ _ _ (fun j σ' h => ?_) hn⟩
      by_cases e : j = lpc k
      · rw [if_pos e] at h ⊢; exact h
      · rw [if_neg e] at h ⊢; exact hA _ _ h
    · exact .inr ⟨n, den_mono ih _ _ _ hA hn⟩

theorem den_ex {X : Type} {L : Code → List Fr → S → (Nat → S → Prop) → Prop} {Lx : X → Code → List Fr → S → (Nat → S → Prop) → Prop} {R : S → Prop} {Rx : X → S → Prop} (hR : ∀ σ, R σ → ∃ x, Rx x σ)
    (hL : ∀ c k σ (A : Nat → S → Prop) (Ax : X → Nat → S → Prop), nn c = true → nnK k = true → (∀ j σ, A j σ → ∃ x, Ax x j σ) → L c k σ A → ∃ x, Lx x c k σ (Ax x)) :
    ∀ (t : T) (A : Nat → S → Prop) (Ax : X → Nat → S → Prop), t.fine → (∀ j σ, A j σ → ∃ x, Ax x j σ) → den L R t A → ∃ x, den (Lx x) (Rx x) t (Ax x)
  | .bad, _, _, _, _, h => h.elim
  | .ret σ, _, _, _, _, h => hR σ h
  | .again j σ, _, _, _, hA, h => hA j σ h
  | .ob _ t, A, Ax, hf, hA, h => by
    obtain ⟨x, hx⟩ := den_ex hR hL t A Ax hf hA h.2
    exact ⟨x, h.1, hx⟩
  | .loop c k σ, A, Ax, hf, hA, h => hL c k σ A Ax hf.1 hf.2 hA h
  | .nxt .., _, _, hf, _, _ => hf.elim
theorem loopP_ex {X : Type} {R : S → Prop} {Rx : X → S → Prop} (hR : ∀ σ, R σ → ∃ x, Rx x σ) : ∀ (d : Nat) (c : Code) (k : List Fr) (σ : S) (A : Nat → S → Prop) (Ax : X → Nat → S → Prop), nn c = true → nnK k = true → (∀ j σ, A j σ → ∃ x, Ax x j σ) →
    loopP E Γ m base fl R d c k σ A → ∃ x, loopP E Γ m base fl (Rx x) d c k σ (Ax x) := by
  intro d
  induction d with
  | zero => intro c k σ A Ax _ _ _ h; simp only [loopP] at h
  | succ d ih =>
    intro c k σ A Ax hc hk hA h
    simp only [loopP] at h
    rcases h with ⟨α, inv, l, L, g, μ, p0, hg, hi, hl, hr⟩ | ⟨n, hn⟩
    · let Ch : X → Nat → α → Prop := fun x q => Nat.rec (fun _ => False) (fun _ C p => ∃ n, den (loopP E Γ m base fl (Rx x) d) (Rx x) (run E Γ m base fl n (.code c) (.lp :: k) (mkS (l p) (L p) g)) fun j σ' => if j = lpc k then (∃ p', C p' ∧ leTo σ' (l p') (L p') g) else Ax x j σ') q
      have key : ∀ q p, μ p < q → inv p → ∃ x, Ch x q p := by
        intro q
        induction q with
        | zero => intro p hp; omega
        | succ q ihq =>
          intro p hp hip
          obtain ⟨n, hn⟩ := hr p hip
          obtain ⟨x, hx⟩ := den_ex hR ih _ _ (fun x j σ' => if j = lpc k then (∃ p', Ch x q p' ∧ leTo σ' (l p') (L p') g) else Ax x j σ') (run_fine n (.code c) (.lp :: k) _ hc (by simpa only [nnK] using hk)) (fun j σ' h => by
            by_cases e : j = lpc k
            · simp only [if_pos e] at h ⊢
              obtain ⟨p', h1, h2, h3⟩ := h
              obtain ⟨x, hx⟩ := ihq p' (by omega) h1
              exact ⟨x, p', hx, h2⟩
            · simp only [if_neg e] at h ⊢
              exact hA j σ' h) hn
          exact ⟨x, n, hx⟩
      obtain ⟨x, hx⟩ := key (μ p0 + 1) p0 (by omega) hi
      refine ⟨x, ?_⟩
      simp only [loopP]
      refine .inl ⟨Nat × α, fun z => Ch x z.1 z.2, fun z => l z.2, fun z => L z.2, g, fun z => z.1, (μ p0 + 1, p0), hg, hx, hl, fun z hz => ?_⟩
      obtain ⟨q, p⟩ := z
      cases q with
      | zero => exact hz.elim
      | succ q =>
        obtain ⟨n, hn⟩ := hz
        refine ⟨n, den_mono (loopP_mono d) _ _ _ (fun j σ' h => ?_) hn⟩
        by_cases e : j = lpc k
        · rw [if_pos e] at h ⊢
          obtain ⟨p', h1, h2⟩ := h
          exact ⟨(q, p'), h1, h2, Nat.lt_succ_self q⟩
        · rw [if_neg e] at h ⊢; exact h
    · obtain ⟨x, hx⟩ := den_ex hR ih _ _ Ax (run_fine n (.code c) (.lpu c :: k) σ hc (by simp only [nnK, hc, hk, Bool.and_self])) hA hn
      refine ⟨x, ?_⟩
      simp only [loopP]
      exact .inr ⟨n, hx⟩
variable {P : Program}
/-- a contract whose result is not said, but for what 'ok' says of it -/
theorem pco_ex_of_run {X : Type} (ok : X → Prop) (r : X → D) (tout : X → List (Nm × OO)) (fl : List Nat) (hE : E.ok P) (hΓ : Γ.ok P) (hm : P.follows .mixedOrders = true) {f : FuncId} {fn : Func} {c : Code} {ds : List D} {tin : List (Nm × OO)} (n d : Nat) (hf : P.funcs[f]? = some fn)
    (hn : (fn.name == "runtime.NumGoroutine") = false) (hb : fn.body = some c) (hk : codeOk (ds.length + (fn.ntmps - ds.length)) c = true) (hlex : lexC Γ fl c = true) (hnn : nn c = true) (htin : (tin.all fun p => p.1.2 == 0) = true)
    (h : den (loopP E Γ m base fl (fun σ => ∃ x, ok x ∧ retP Γ fn.results.toList (r x) (tout x) σ) d) (fun σ => ∃ x, ok x ∧ retP Γ fn.results.toList (r x) (tout x) σ) (run E Γ m base fl n (.code c) [] ⟨Ts.of (enumD ds 0), Tab.of tin, 1⟩) fun _ _ => False) :
    ∃ x, ok x ∧ PCo P f ds (Tab.of tin) (r x) (Tab.of (tout x)) := by
  have hR : ∀ σ, (∃ x, ok x ∧ retP Γ fn.results.toList (r x) (tout x) σ) → ∃ x : { x // ok x }, retP Γ fn.results.toList (r x.1) (tout x.1) σ := fun σ ⟨x, h1, h2⟩ => ⟨⟨x, h1⟩, h2⟩
  obtain ⟨x, hx⟩ := den_ex (X := { x // ok x }) (Lx := fun x => loopP E Γ m base fl (retP Γ fn.results.toList (r x.1) (tout x.1)) d) (Rx := fun x σ => retP Γ fn.results.toList (r x.1) (tout x.1) σ) hR
    (fun c k σ A Ax h1 h2 h3 h4 => loopP_ex hR d c k σ A Ax h1 h2 h3 h4) (run E Γ m base fl n (.code c) [] ⟨Ts.of (enumD ds 0), Tab.of tin, 1⟩) _ (fun _ _ _ => False) (run_fine n (.code c) [] _ hnn rfl) (fun _ _ h => h.elim) h
  exact ⟨x.1, x.2, pco_of_run fl hE hΓ hm n d hf hn hb hk hlex htin hx⟩
end
end Go.Eng
namespace Go.Eng
variable [HasG]
set_option linter.unusedSectionVars false
set_option linter.unusedVariables false
set_option linter.unusedSimpArgs false

/-! ### an own row that is returned, said as frozen data -/
theorem rep_frz {F : Nat → Prop} {h : Array Obj} {β : Beta} {γ : Nm → Nat → Prop} {s n : Nat} {z : D} {rows : List D} {v : Value} (hn : n = rows.length) (ok : OwnOK F h β (γ (0, 1)) (0, 1) (.arr false s z rows)) (hv : Rep F h β (.own (0, 1) s 0 n) v) :
    Rep (fun b => F b ∨ fp β γ (0, 1) b) h β (.sl false s z rows) v := by
  subst hn
  obtain ⟨bo, cap, h1, h2, h3⟩ := ok
  simp only [Rep] at hv ⊢
  rcases hv with ⟨a, e, rfl⟩ | ⟨b, cap', h4, rfl, h5⟩
  · exact .inl ⟨List.length_eq_zero_iff.1 e, a, 0, rfl, (fun h => (by cases h))⟩
  · rw [h1] at h4
    simp only [Option.some.injEq, Prod.mk.injEq] at h4
    obtain ⟨rfl, _, rfl⟩ := h4
    obtain ⟨_, c, e, g1, g2, g3, g4⟩ := h3 b rfl
    simp only [RowP_false] at g4
    refine .inr ⟨b, 0, cap, c, e, (0, 0), by simp, .inr (.inl ⟨s, cap, h1⟩), g1, g3, (fun h => (by cases h)), Repx.mono (fun x hx => ⟨.inl hx, rfl⟩) _ (fun _ _ h => h) g4⟩
theorem own_frz {W0 w : World} {M0 F0 F : Nat → Prop} {β : Beta} {γ : Nm → Nat → Prop} {g : Nat} {o : OO} (hd : o ≠ .dead) (O : Own W0 M0 F0 F β γ (Tab.of [((0, 1), o)]) g w) : Own W0 M0 F0 (fun b => F b ∨ fp β γ (0, 1) b) β γ Tab.nil (g + 1) w := by
  have h0 : (Tab.of [((0, 1), o)]).get (0, 1) = some o := by simp [Tab.of, Tab.get, Tab.set]
  have O1 := O.freeze h0 hd
  exact {
    F0F := O1.F0F, Fsrc := O1.Fsrc, Flt := O1.Flt, keep := O1.keep, size := O1.size, os := O1.os, tp := O1.tp, out := O1.out
    gen := fun nm x h => by rcases O1.gen nm x h with h1 | ⟨h1, _⟩ <;> exact .inl (by omega)
    own := fun nm o h => (by simp [Tab.nil, Tab.get] at h)
    fps := fun nm o h => (by simp [Tab.nil, Tab.get] at h)
    dis := fun nm nm' o o' h => (by simp [Tab.nil, Tab.get] at h) }
theorem pco_frz1 {P : Program} {f : FuncId} {ds : List D} {s n : Nat} {z : D} {rows : List D} (hn : n = rows.length) (h : PCo P f ds (Tab.of []) (.own (0, 1) s 0 n) (Tab.of [((0, 1), .arr false s z rows)])) : PCo P f ds (Tab.of []) (.sl false s z rows) (Tab.of []) := by
  refine ⟨h.1, fun w F β γ vs O G hr => (h.2 w F β γ vs O G hr).mono fun e w' => ?_⟩
  rintro ⟨v, F', β', γ', g', he, O', hβ, hv⟩
  have h0 : (Tab.of [((0, 1), OO.arr false s z rows)]).get (0, 1) = some (.arr false s z rows) := by simp [Tab.of, Tab.get, Tab.set]
  exact ⟨v, _, β', γ', g' + 1, he, own_frz (by simp) O', hβ, rep_frz hn (O'.own _ _ h0) hv⟩
theorem pco_frz2 {P : Program} {f : FuncId} {ds : List D} {s n : Nat} {z : D} {rows rest : List D} (hn : n = rows.length) (h : PCo P f ds (Tab.of []) (.tup (.own (0, 1) s 0 n :: rest)) (Tab.of [((0, 1), .arr false s z rows)])) : PCo P f ds (Tab.of []) (.tup (.sl false s z rows :: rest)) (Tab.of []) := by
  refine ⟨h.1, fun w F β γ vs O G hr => (h.2 w F β γ vs O G hr).mono fun e w' => ?_⟩
  rintro ⟨v, F', β', γ', g', he, O', hβ, hv⟩
  have h0 : (Tab.of [((0, 1), OO.arr false s z rows)]).get (0, 1) = some (.arr false s z rows) := by simp [Tab.of, Tab.get, Tab.set]
  refine ⟨v, _, β', γ', g' + 1, he, own_frz (by simp) O', hβ, ?_⟩
  rw [Rep] at hv ⊢
  obtain ⟨V, rfl, hV⟩ := hv
  rw [Reps] at hV
  obtain ⟨u, U, rfl, hu, hU⟩ := hV
  refine ⟨_, rfl, ?_⟩
  rw [Reps]
  exact ⟨_, _, rfl, rep_frz hn (O'.own _ _ h0) hu, Reps.mono (fun x hx => ⟨.inl hx, rfl⟩) _ (fun _ _ h => h) hU⟩
end Go.Eng
