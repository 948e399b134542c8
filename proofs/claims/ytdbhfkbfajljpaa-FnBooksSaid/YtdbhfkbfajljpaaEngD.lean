/- The engine: Go text read on data. What a function answers is told of data (integers, strings, structs, slices as rows, memory of one's own); a text's run is reckoned on data, and every run of the model follows it, in whatever order a statement is carried out. No condition of its own. -/
import Derived.Test.YtdbhfkbfajljpaaEngC
import Derived.Scope
import Derived.Below
namespace Go.Eng
variable [HasG]
set_option linter.unusedSectionVars false
set_option linter.unusedVariables false
set_option linter.unusedSimpArgs false

inductive Kd | pure | read | new | write
/-- a conversion: of whole numbers, of bytes to a string, of a string to bytes -/
def convK (Γ : Ctx) (dst : TypeId) : Kd :=
  match Γ.get dst with
  | some di => match di.kind with
    | .str => .read
    | .slice _ => .new
    | _ => .pure
  | none => .pure
/-- a map is asked: for a row, which is taken out of it, or for something else -/
def lookK' (Γ : Ctx) (t : TypeId) : Kd :=
  match Γ.get t with
  | some ti => if rowsMap Γ ti = true then .write else .read
  | none => .read
@[simp] theorem lookK'_pure {Γ : Ctx} {t : TypeId} : (lookK' Γ t = .pure) = False := by unfold lookK'; cases Γ.get t with | none => simp | some ti => by_cases h : rowsMap Γ ti = true <;> simp [h]
@[simp] theorem lookK'_new {Γ : Ctx} {t : TypeId} : (lookK' Γ t = .new) = False := by unfold lookK'; cases Γ.get t with | none => simp | some ti => by_cases h : rowsMap Γ ti = true <;> simp [h]
/-- the length of a map is looked up in memory -/
def isMapT (Γ : Ctx) (q : Call) : Bool := match q.argTypes.toList with
  | [t] => match Γ.get t with
    | some ti => match ti.kind with
      | .map _ _ => true
      | _ => false
    | none => false
  | _ => false
def kindOf (Γ : Ctx) (c : Md) : Op → Kd
  | .convert _ dst _ => convK Γ dst
  | .load .. => if c.isFrz then .pure else .read
  | .lookup t _ _ _ => lookK' Γ t
  | .makeMap .. => .new
  | .mapUpdate .. => .write
  | .range .. => .new
  | .entry .. => .write
  | .next .. => .write
  | .store .. => .write
  | .box .. | .alloc .. | .buildSlice .. | .makeSlice .. => .new
  | .call q => match q.callee with
    | .builtin .len => if isMapT Γ q then .write else .pure
    | .builtin _ => .write
    | _ => if c.pureCall q then .pure else .write
  | _ => .pure
def kComm0 (Γ : Ctx) (c : Md) (oi oj : Oper) : Bool :=
  match kindOf Γ c oi.op, kindOf Γ c oj.op with
  | .pure, _ => true
  | _, .pure => true
  | .read, .read => true
  | .read, .new => true
  | .new, .new => oi.dst.isSome && oj.dst.isSome
  | _, _ => false
def isNew : Kd → Bool
  | .new => true
  | _ => false
def isLoad : Op → Bool
  | .load .. => true
  | _ => false
/-- names that cannot be the same -/
def near (oi oj : Oper) : Bool := match oi.dst, oj.dst with
  | some a, some b => a != b && decide (a < b + 1000) && decide (b < a + 1000)
  | _, _ => false
def freeOp (c : Md) : Op → Bool
  | .call q => isGoCall (.call q) && c.freeCall q
  | _ => false
def adder (Γ : Ctx) (c : Md) (o : Oper) : Bool := freeOp c o.op || isNew (kindOf Γ c o.op)
def barOp (c : Md) : Op → Bool
  | .call q => isGoCall (.call q) && (c.barCall q && !c.apCall q)
  | _ => false
def apOp (c : Md) : Op → Bool
  | .call q => isGoCall (.call q) && c.apCall q
  | _ => false
def adderB (Γ : Ctx) (c : Md) (o : Oper) : Bool := adder Γ c o || barOp c o.op
/-- a row may be taken out of a map -/
def isTake (Γ : Ctx) : Op → Bool
  | .lookup t _ _ _ => match Γ.get t with
    | some ti => rowsMap Γ ti
    | none => false
  | _ => false
def takeComm (Γ : Ctx) (c : Md) (oi oj : Oper) : Bool :=
  (isLoad oi.op && isTake Γ oj.op) || (isTake Γ oi.op && isLoad oj.op) || (((isNew (kindOf Γ c oi.op) && isTake Γ oj.op) || (isTake Γ oi.op && isNew (kindOf Γ c oj.op))) && (oi.dst.isSome && oj.dst.isSome))
def lentOp (c : Md) : Op → Bool
  | .call q => isGoCall (.call q) && c.lentCall q
  | _ => false
def lentComm (c : Md) (oi oj : Oper) : Bool := (isLoad oi.op && lentOp c oj.op) || (lentOp c oi.op && isLoad oj.op) || (lentOp c oi.op && lentOp c oj.op)
def kComm (Γ : Ctx) (c : Md) (ops : Array Oper) (oi oj : Oper) : Bool :=
  kComm0 Γ c oi oj || (isAppend oi.op && isNew (kindOf Γ c oj.op) && oi.dst.isSome && oj.dst.isSome) || (cApp c ops && ((isLoad oi.op && isAppend oj.op) || (isAppend oi.op && isLoad oj.op) || (adderB Γ c oi && isLoad oj.op) || (isLoad oi.op && adderB Γ c oj) || (adderB Γ c oi && adderB Γ c oj && near oi oj))) || (cApp c ops && takeComm Γ c oi oj) || lentComm c oi oj || (cApp c ops && ((isLoad oi.op && apOp c oj.op) || (apOp c oi.op && isLoad oj.op) || (adder Γ c oi && apOp c oj.op && near oi oj) || (apOp c oi.op && adder Γ c oj && near oi oj)))

section
variable {P : Program} {Γ : Ctx} {m : Bool} {base : Nat} {c : Md} {ops : Array Oper}

theorem aval_congr {tab : Tab} {nm : Nm} {ρ ρ' : Operand → D} {op : Op} (h : ∀ x ∈ op.operands, ρ x = ρ' x) : aval Γ m tab nm ρ op = aval Γ m tab nm ρ' op := by
  cases op <;> simp only [Op.operands] at h <;> simp only [aval]
  case build t ps =>
    have : (ps.toList.map fun p => (p.1, ρ p.2)) = (ps.toList.map fun p => (p.1, ρ' p.2)) := List.map_congr_left fun p hp => by
      rw [h p.2 (by simp; exact ⟨p.1, by simpa using hp⟩)]
    rw [this]
  case buildSlice t len ps =>
    have : (ps.toList.map fun p => (p.1, ρ p.2)) = (ps.toList.map fun p => (p.1, ρ' p.2)) := List.map_congr_left fun p hp => by
      rw [h p.2 (by simp; exact ⟨p.1, by simpa using hp⟩)]
    rw [this]
  case makeFunc fn fs cs =>
    rw [List.map_congr_left (l := fs.toList) fun x hx => h x (by simp; left; simpa using hx), List.map_congr_left (l := cs.toList) fun x hx => h x (by simp; right; simpa using hx)]
  case makeMap t r =>
    have e1 : r.map ρ = r.map ρ' := by cases r with | none => rfl | some y => simp [h y (by simp)]
    rw [e1]
  case slice t x lo hi mx =>
    have e1 : lo.map ρ = lo.map ρ' := by cases lo with | none => rfl | some y => simp [h y (by simp)]
    have e2 : hi.map ρ = hi.map ρ' := by cases hi with | none => rfl | some y => simp [h y (by simp)]
    have e3 : mx.map ρ = mx.map ρ' := by cases mx with | none => rfl | some y => simp [h y (by simp)]
    rw [h x (by simp), e1, e2, e3]
  case call q =>
    have two : ∀ x y, q.args.toList = [x, y] → ρ x = ρ' x ∧ ρ y = ρ' y := fun x y e => by
      have e1 : q.args = #[x, y] := by apply Array.ext'; simpa using e
      exact ⟨h x (by simp [Call.operands, e1]), h y (by simp [Call.operands, e1])⟩
    have one : ∀ x, q.args.toList = [x] → ρ x = ρ' x := fun x e => by
      have e1 : q.args = #[x] := by apply Array.ext'; simpa using e
      exact h x (by simp [Call.operands, e1])
    cases q.callee with
    | value f => rfl
    | invoke f n => rfl
    | builtin b =>
      cases b <;> try rfl
      case len =>
        dsimp only
        split
        · rename_i x t e1 e2; rw [one x e1]
        · rfl
      case cap =>
        dsimp only
        split
        · rename_i x t e1 e2; rw [one x e1]
        · rfl
      case append =>
        dsimp only
        split
        · rename_i x y t u e1 e2; obtain ⟨k1, k2⟩ := two x y e1; rw [k1, k2]
        · rfl
      case copy =>
        dsimp only
        split
        · rename_i x y t u e1 e2; obtain ⟨k1, k2⟩ := two x y e1; rw [k1, k2]
        · rfl
      case clear =>
        dsimp only
        split
        · rename_i x t e1 e2; rw [one x e1]
        · rfl
      case delete =>
        dsimp only
        split
        · rename_i x y t u e1 e2; obtain ⟨k1, k2⟩ := two x y e1; rw [k1, k2]
        · rfl
  all_goals (first | rfl | (simp_all; done))

theorem convD_pure {tab tab' : Tab} {si di : TI} {dst : TypeId} {x : D} (hd : Γ.get dst = some di) (h : convK Γ dst = .pure) : convD Γ m tab si di x = convD Γ m tab' si di x ∧ ∀ r, convD Γ m tab si di x = some r → ∃ k n, intRes m k n = some r := by
  unfold convK at h
  rw [hd] at h
  cases hk : di.kind <;> simp [hk] at h <;> simp only [convD, hk]
  case int k =>
    refine ⟨trivial, fun r hr => ?_⟩
    split at hr
    · exact ⟨_, _, hr⟩
    · simp at hr
  all_goals simp
theorem convD_new {tab tab' : Tab} {si di : TI} {dst : TypeId} {x : D} (hd : Γ.get dst = some di) (h : convK Γ dst = .new) : convD Γ m tab si di x = convD Γ m tab' si di x ∧ ∀ r, convD Γ m tab si di x = some r → r.eff = .frz := by
  unfold convK at h
  rw [hd] at h
  cases hk : di.kind <;> simp [hk] at h <;> simp only [convD, hk]
  case slice e =>
    refine ⟨trivial, fun r hr => ?_⟩
    repeat' first
      | (simp only [reduceCtorEq] at hr; done)
      | (simp only [Option.some.injEq] at hr; subst hr; rfl)
      | split at hr
theorem lookupD_read {tab : Tab} {ti : TI} {x i : D} {ok : Bool} {r : AR} (h : lookupD Γ tab ti x i ok = some r) : r.eff = .none ∧ ∀ nm oo, tab.get nm = none → lookupD Γ (tab.set nm oo) ti x i ok = some r := by
  unfold lookupD at h ⊢
  split at h
  · split at h
    · split at h
      · rename_i hk
        split at h
        · split at h
          · rename_i hkk
            exact ⟨(okR_some h).1, fun nm oo hn => by rw [← hk, if_pos rfl, if_pos hkk]; exact h⟩
          · simp at h
        · rename_i nm'
          split at h
          · rename_i kk ks z vs ht
            split at h
            · rename_i hkk
              refine ⟨(okR_some h).1, fun nm oo hn => ?_⟩
              have hne : nm ≠ nm' := fun e => by rw [e] at hn; rw [hn] at ht; cases ht
              simp only [Tab.get_set, if_neg hne, ht, hk, hkk, if_true]
              exact h
            · simp at h
          · simp at h
        · simp at h
      · simp at h
    · simp at h
  · simp at h
theorem elemsD'_upd {tab : Tab} {nm : Nm} {oo : OO} {s : Nat} {x : D} {ys : List D} (hn : tab.get nm = none) (h : elemsD' tab s x = some ys) : elemsD' (tab.set nm oo) s x = some ys ∧ elemsOk (tab.set nm oo) x = elemsOk tab x := by
  unfold elemsD' at h
  split at h
  · exact ⟨h, rfl⟩
  · rename_i nm' s' o n
    have hne : tab.get nm' ≠ none := fun e => by rw [e] at h; simp at h
    have hnm : nm ≠ nm' := fun e => by rw [e] at hn; exact hne hn
    simp only [elemsD', elemsOk, Tab.get_set, if_neg hnm]
    exact ⟨h, trivial⟩
  · simp at h
theorem convD_read {tab : Tab} {si di : TI} {dst : TypeId} {x : D} {r : AR} (hd : Γ.get dst = some di) (h : convK Γ dst = .read) (hr : convD Γ m tab si di x = some r) :
    r.eff = .none ∧ ∀ nm oo, tab.get nm = none → convD Γ m (tab.set nm oo) si di x = some r := by
  unfold convK at h
  rw [hd] at h
  cases hk : di.kind <;> simp [hk] at h <;> simp only [convD, hk] at hr ⊢
  split at hr
  · split at hr
    · split at hr
      · rename_i hb
        split at hr
        · rename_i ys hys
          split at hr
          · rename_i l hl
            simp only [Option.some.injEq] at hr; subst hr
            refine ⟨rfl, fun nm oo hn => ?_⟩
            obtain ⟨e1, e2⟩ := elemsD'_upd (oo := oo) hn hys
            simp only [e1, e2, hl, hb, if_true]
          · simp at hr
        · simp at hr
      · simp at hr
    · simp at hr
  · simp at hr
theorem lenM_none {q : Call} {t : TypeId} {tab : Tab} {x : D} (h : isMapT Γ q = false) (ht : q.argTypes.toList = [t]) : lenM Γ tab t x = none := by
  unfold isMapT at h
  rw [ht] at h
  simp only at h
  unfold lenM
  split
  · rfl
  · rename_i ti hti
    rw [hti] at h
    simp only at h
    split
    · rename_i k e nm hk
      rw [hk] at h; simp at h
    · rfl
theorem aval_pure {tab tab' : Tab} {nm nm' : Nm} {ρ : Operand → D} {op : Op} (hg : isGoCall op = false) (hz : isLoad op = false) (h : kindOf Γ c op = .pure) : aval Γ m tab nm ρ op = aval Γ m tab' nm' ρ op := by
  cases op <;> simp only [kindOf, reduceCtorEq, lookK'_pure, lookK'_new] at h <;> simp only [aval]
  case load => simp [isLoad] at hz
  case call q =>
    obtain ⟨cal, args, tys⟩ := q
    cases cal with
    | value f => simp [isGoCall] at hg
    | invoke f n => simp [isGoCall] at hg
    | builtin b =>
      cases b <;> simp at h
      dsimp only
      split
      · rename_i x t e1 e2
        rw [lenM_none h e2, lenM_none h e2]
      · rfl
  case convert src dst x =>
    split
    · rename_i si di h1 h2; exact (convD_pure h2 h).1
    · rfl
theorem aval_new {tab tab' : Tab} {nm : Nm} {ρ : Operand → D} {op : Op} (h : kindOf Γ c op = .new) : aval Γ m tab nm ρ op = aval Γ m tab' nm ρ op := by
  cases op <;> simp only [kindOf, reduceCtorEq, lookK'_pure, lookK'_new] at h <;> simp only [aval]
  case load => split at h <;> cases h
  case call q => (repeat' split at h) <;> simp at h
  case convert src dst x =>
    split
    · rename_i si di h1 h2; exact (convD_new h2 h).1
    · rfl

theorem okR_still {d : D} {r : AR} (h : okR d = some r) : r.eff = .none := (okR_some h).1
theorem valR_still {v : Value} {r : AR} (h : valR v = some r) : r.eff = .none := (valR_sound h).1
theorem intRes_eff {m k n} {r : AR} (h : intRes m k n = some r) : r.eff = .none := by
  unfold intRes at h
  split at h
  · simp only [Option.some.injEq] at h; subst h; rfl
  · exact valR_still h
theorem binI_eff {m op k a b} {r : AR} (h : binI m op k a b = some r) : r.eff = .none := by
  cases op <;> simp only [binI, cmpI] at h
  case quo =>
    cases hq : intRes m k (a.tdiv b) with
    | none => simp [hq, AR.and] at h
    | some q => simp only [hq, AR.and, Option.some.injEq] at h; subst h; exact intRes_eff (r := q) hq
  all_goals first
    | exact intRes_eff h
    | exact valR_still h
    | (simp only [Option.some.injEq] at h; subst h; rfl)
theorem binD_eff {op t x y} {cc : Bool} {r : AR} (h : binD Γ m cc op t x y = some r) : r.eff = .none := by
  unfold binD at h
  repeat' first
    | exact binI_eff h
    | exact valR_still h
    | (simp only [reduceCtorEq] at h; done)
    | (simp only [Option.some.injEq] at h; subst h; rfl)
    | split at h
    | (unfold strRes at h)
theorem binE_eff {op t y x} {dy : D} {cc : Bool} {r : AR} (h : binE Γ m cc op t y x dy = some r) : r.eff = .none := by
  unfold binE at h
  split at h
  · exact cmpNil_eff h
  · exact binD_eff h
theorem load_eff {ti : TI} {tab : Tab} {x : D} {r : AR} (h : loadD ti tab x = some r) : r.eff = .none := by
  unfold loadD at h
  repeat' first
    | exact okR_still h
    | (simp only [reduceCtorEq] at h; done)
    | (simp only [Option.some.injEq] at h; subst h; rfl)
    | split at h
set_option maxHeartbeats 1000000 in
theorem aval_pure_eff {tab : Tab} {nm : Nm} {ρ : Operand → D} {op : Op} {r : AR} (hg : isGoCall op = false) (hk : kindOf Γ c op = .pure) (h : aval Γ m tab nm ρ op = some r) : r.eff = .none := by
  cases op <;> simp only [kindOf, reduceCtorEq, lookK'_pure, lookK'_new] at hk <;> simp only [aval, reduceCtorEq] at h
  case load =>
    split at h
    · exact load_eff h
    · simp at h
  case move | assign | makeFunc => exact okR_still h
  case binOp => exact binE_eff h
  case unOp =>
    unfold unD at h
    split at h
    · exact valR_still h
    · exact intRes_eff h
    · simp at h
  case call q =>
    obtain ⟨cal, args, tys⟩ := q
    cases cal with
    | value f => simp [isGoCall] at hg
    | invoke f n => simp [isGoCall] at hg
    | builtin b =>
      cases b <;> simp at hk
      dsimp only at h
      split at h
      · rename_i x t e1 e2
        rw [lenM_none hk e2] at h
        split at h
        · rename_i r' hr
          simp only [Option.some.injEq] at h; subst h
          unfold lenD at hr
          repeat' first
            | exact valR_still hr
            | (simp only [reduceCtorEq] at hr; done)
            | split at hr
        · simp at h
      · simp at h
  case convert src dst x =>
    split at h
    · rename_i si di h1 h2
      obtain ⟨k, n, hr⟩ := (convD_pure (tab' := tab) h2 hk).2 r h
      exact intRes_eff hr
    · simp at h
  all_goals
    (try unfold assertD at h)
    (try unfold buildD at h)
    (try unfold fieldAddrD at h)
    (try unfold fieldD at h)
    (try unfold indexAddrD at h)
    (try unfold indexD at h)
    (try unfold sliceD at h)
    repeat' first
      | exact okR_still h
      | exact valR_still h
      | exact intRes_eff h
      | (simp only [reduceCtorEq] at h; done)
      | (simp only [Option.some.injEq] at h; subst h; rfl)
      | split at h
theorem loadD_upd {ti : TI} {tab : Tab} {nm : Nm} {oo : OO} {x : D} {r : AR} (hn : tab.get nm = none) (h : loadD ti tab x = some r) : loadD ti (tab.set nm oo) x = some r := by
  have e : ∀ n o, tab.get n = some o → (tab.set nm oo).get n = some o := fun n o ho => by
    rw [Tab.get_set, if_neg]
    · exact ho
    · rintro rfl; rw [hn] at ho; cases ho
  unfold loadD at h ⊢
  split at h
  · split at h
    · rename_i d hd; simp only [e _ _ hd]; exact h
    · simp at h
  · split at h
    · rename_i p s z xs hd; simp only [e _ _ hd]; exact h
    · simp at h
  · exact h
  · simp at h

structure Agree (ops : Array Oper) (o : Oper) (ts ts' : Ts) : Prop where
  opr : ∀ x ∈ o.op.operands, opd ts x = opd ts' x
  gd : gdD ops o ts = gdD ops o ts'

theorem opd_put {ts : Ts} {t : Nat} {d : D} {x : Operand} (h : x ≠ .tmp t) : opd (ts.up t d) x = opd ts x := by
  cases x with
  | tmp t' =>
    have : t ≠ t' := fun e => h (by rw [e])
    simp [opd, tget, Ts.up, this]
  | _ => rfl
theorem agree_put {σ : S} {o : Oper} {dst : Option Tmp} {d : D} (h : ∀ t, dst = some t → t ∉ o.looksAt ops) : Agree ops o (σ.put dst d).ts σ.ts := by
  cases dst with
  | none => exact ⟨fun _ _ => rfl, rfl⟩
  | some t =>
    have ht := h t rfl
    refine ⟨fun x hx => opd_put fun e => ht ?_, ?_⟩
    · subst e
      exact List.mem_append_left _ (List.mem_filterMap.2 ⟨.tmp t, by simpa using hx, rfl⟩)
    · unfold gdD
      cases hg : o.guard with
      | none => rfl
      | some jw =>
        obtain ⟨j, want⟩ := jw
        cases hj : (ops[j]?).bind (·.dst) with
        | none => simp only [hj]
        | some t' =>
          have hne : t ≠ t' := fun e => ht (by subst e; simp [Oper.looksAt, hg, hj])
          have : tget (σ.put (some t) d).ts t' = tget σ.ts t' := by
            simp [S.put, tget, Ts.up, hne]
          simp only [hj, this]
theorem sconds_congr {g : Bool} {ts ts' : Ts} : ∀ {l : List Operand}, (∀ x ∈ l, opd ts x = opd ts' x) → sconds g ts l → sconds g ts' l
  | [], _, _ => trivial
  | x :: l, h, hs => ⟨by rw [← h x (by simp)]; exact hs.1, sconds_congr (fun y hy => h y (by simp [hy])) hs.2⟩
theorem callTo_congr {q : Call} {ts ts' : Ts} {fid : FuncId} {ds : List D} (h : ∀ x ∈ q.operands, opd ts x = opd ts' x) (H : CallTo P ts q fid ds) : CallTo P ts' q fid ds := by
  obtain ⟨cal, args, tys⟩ := q
  unfold CallTo at H ⊢
  cases cal with
  | builtin b => exact H
  | value f =>
    simp only at H ⊢
    have hf := h f (by simp [Call.operands])
    have hm : (args.toList.map fun x => strip (opd ts' x)) = (args.toList.map fun x => strip (opd ts x)) :=
      List.map_congr_left fun x hx => by rw [h x (by simp [Call.operands]; exact .inr (by simpa using hx))]
    rw [← hf, hm]; exact H
  | invoke f name =>
    simp only at H ⊢
    have hf := h f (by simp [Call.operands])
    have hm : (args.toList.map fun x => strip (opd ts' x)) = (args.toList.map fun x => strip (opd ts x)) :=
      List.map_congr_left fun x hx => by rw [h x (by simp [Call.operands]; exact .inr (by simpa using hx))]
    rw [← hf, hm]; exact H

theorem callT2_congr {q : Call} {ts ts' : Ts} {tab : Tab} {fid : FuncId} {ds : List D} (h : ∀ x ∈ q.operands, opd ts x = opd ts' x) (H : CallT2 Γ P ts tab q fid ds) : CallT2 Γ P ts' tab q fid ds := by
  rcases H with H | ⟨x, name, t, nm, off, e, ti, r, hcal, hx, hm, hti, hl, rfl⟩
  · exact .inl (callTo_congr h H)
  · obtain ⟨cal, args, tys⟩ := q
    simp only at hcal
    subst hcal
    have hf := h x (by simp [Call.operands])
    refine .inr ⟨x, name, t, nm, off, e, ti, r, rfl, by rw [← hf]; exact hx, hm, hti, hl, ?_⟩
    exact congrArg (r.d :: ·) (List.map_congr_left fun x hx => by rw [h x (by simp [Call.operands]; exact .inr (by simpa using hx))])
theorem boxLoad_congr {ts ts' : Ts} {op : Op} {gen : Nat} (h : ∀ x ∈ op.operands, opd ts x = opd ts' x) : boxLoad ts gen op = boxLoad ts' gen op := by
  cases op <;> try rfl
  · rename_i t a
    simp only [boxLoad, h a (by simp [Op.operands])]
  · rename_i t a i ok
    simp only [boxLoad, h a (by simp [Op.operands])]
theorem coolLoad_congr {hot : Nat → Bool} {ts ts' : Ts} {op : Op} (h : ∀ x ∈ op.operands, opd ts x = opd ts' x) : coolLoad hot ts op = coolLoad hot ts' op := by
  cases op <;> try rfl
  rename_i t a
  simp only [coolLoad, h a (by simp [Op.operands])]
theorem frzLoad_congr {ts ts' : Ts} {op : Op} (h : ∀ x ∈ op.operands, opd ts x = opd ts' x) : frzLoad ts op = frzLoad ts' op := by
  cases op <;> try rfl
  rename_i t a
  simp only [frzLoad, h a (by simp [Op.operands])]
theorem YA.ts {o : Oper} {σ σ' : S} {d : D} {t : TE} (A : Agree ops o σ.ts σ'.ts) (ht : σ'.tab = σ.tab) (hgn : σ'.gen = σ.gen) (Y : YA P Γ m base c ops o σ d t) : YA P Γ m base c ops o σ' d t := by
  have hav : aval Γ m σ'.tab (nmOf base o, σ'.gen) (fun x => strip (opd σ'.ts x)) o.op = aval Γ m σ.tab (nmOf base o, σ.gen) (fun x => strip (opd σ.ts x)) o.op := by
    rw [ht, hgn]; exact aval_congr fun x hx => by rw [A.opr x hx]
  cases Y with
  | skip hg h0 hs => exact .skip (by rw [← A.gd]; exact hg) h0 hs
  | idle hn hg h0 hi hq => exact .idle hn (by rw [← A.gd]; exact hg) h0 hi hq
  | @pick g q x y b d0 hg ho hc hd h =>
    have ha := A.opr
    rw [ho] at ha; simp only [Op.operands] at ha
    have h1 := ha q (by simp)
    have h2 := ha x (by simp)
    have h3 := ha y (by simp)
    exact .pick (by rw [← A.gd]; exact hg) ho (by rw [← h1]; exact hc) (by rw [← h2, ← h3]; exact hd) (by rw [← h1, ← h2, ← h3]; exact h)
  | @callP g q r hg ho hgo h =>
    have ha := A.opr
    rw [ho] at ha; simp only [Op.operands] at ha
    obtain ⟨fid, ds, h1, h2, h3⟩ := h
    exact .callP (by rw [← A.gd]; exact hg) ho hgo ⟨fid, ds, callTo_congr ha h1, sconds_congr (fun x hx => ha x (by simpa using hx)) h2, h3⟩
  | @callD q r L hn hg ho hgo h =>
    have ha := A.opr
    rw [ho] at ha; simp only [Op.operands] at ha
    obtain ⟨fid, ds, r0, news, h1, h2, h3⟩ := h
    exact .callD hn hg ho hgo ⟨fid, ds, r0, news, callTo_congr ha h1, sconds_congr (fun x hx => ha x (by simpa using hx)) h2, by rw [ht, hgn]; exact h3⟩
  | @callE q r T hc hn hg ho hgo h hl hb ha' =>
    have ha := A.opr
    rw [ho] at ha; simp only [Op.operands] at ha
    obtain ⟨fid, ds, h1, h2, h3⟩ := h
    exact .callE hc hn (by rw [← A.gd]; exact hg) ho hgo ⟨fid, ds, (by rw [ht]; exact callT2_congr ha h1), sconds_congr (fun x hx => ha x (by simpa using hx)) h2, by rw [ht, hgn]; exact h3⟩ hl hb ha'
  | @callN q r L hb hg ho hgo h ha' =>
    have ha := A.opr
    rw [ho] at ha; simp only [Op.operands] at ha
    obtain ⟨fid, ds, fuel, r0, news, h1, h2, h3⟩ := h
    exact .callN hb hg ho hgo ⟨fid, ds, fuel, r0, news, callTo_congr ha h1, sconds_congr (fun x hx => ha x (by simpa using hx)) h2, by rw [ht, hgn]; exact h3⟩ ha'
  | @callA q r ns L ha' hg ho hgo h =>
    have ha := A.opr
    rw [ho] at ha; simp only [Op.operands] at ha
    obtain ⟨fid, ds, tin, tout, r0, h1, h2, h3⟩ := h
    exact .callA ha' hg ho hgo ⟨fid, ds, tin, tout, r0, callTo_congr ha h1, sconds_congr (fun x hx => ha x (by simpa using hx)) h2, by rw [ht, hgn]; exact h3⟩
  | @callL g q r hc hn hg ho hgo h hb ha' =>
    have ha := A.opr
    rw [ho] at ha; simp only [Op.operands] at ha
    obtain ⟨fid, ds, fuel, h1, h2, h3, h4⟩ := h
    have := YA.callL (P := P) (Γ := Γ) (m := m) (base := base) (c := c) (ops := ops) (o := o) (σ := σ') hc hn (by rw [← A.gd]; exact hg) ho hgo ⟨fid, ds, fuel, (by rw [ht]; exact callT2_congr ha h1), sconds_congr (fun x hx => ha x (by simpa using hx)) h2, h3, by rw [ht, hgn]; exact h4⟩ hb ha'
    rw [ht] at this
    exact this
  | op hg hcl h hs hob he hf hb => exact .op (by rw [← A.gd]; exact hg) hcl (by rw [hav]; exact h) (sconds_congr (fun x hx => A.opr x (by simpa using hx)) hs) hob he (by rw [ht, hgn]; exact hf) ⟨fun e => by rw [← boxLoad_congr A.opr, hgn]; exact hb.1 e, fun e => by rw [← frzLoad_congr A.opr]; exact hb.2.1 e, by rw [← coolLoad_congr A.opr]; exact hb.2.2⟩

def teStill : TE → Bool
  | .none => true
  | .op .none => true
  | _ => false
theorem still_eff {σ : S} {k : Nat} {t : TE} (h : teStill t = true) : σ.eff k t = σ := by
  cases t with
  | none => rfl
  | op e => cases e <;> simp [teStill] at h; rfl
  | tab T => simp [teStill] at h
  | add L => simp [teStill] at h
  | upd ns L => simp [teStill] at h

theorem idle_pure {op : Op} (hk : kindOf Γ c op = .pure) (hq : ∀ q, op = .call q → isGoCall op = true → c.pureCall q = false) : ¬ idleOp op = true := by
  intro hi
  cases op <;> simp only [idleOp, Bool.false_eq_true] at hi <;> simp only [kindOf, reduceCtorEq] at hk
  rename_i q
  obtain ⟨cal, args, tys⟩ := q
  cases cal with
  | builtin b => cases b <;> simp at hi hk
  | value f =>
    have := hq _ rfl rfl
    simp [this] at hk
  | invoke f n =>
    have := hq _ rfl rfl
    simp [this] at hk
theorem YA.pureKind {o : Oper} {σ : S} {d : D} {t : TE} (hk : kindOf Γ c o.op = .pure) (Y : YA P Γ m base c ops o σ d t) : teStill t = true ∧ ∀ tab', YA P Γ m base c ops o { σ with tab := tab' } d t := by
  cases Y with
  | skip hg h0 hs => exact ⟨rfl, fun tab' => .skip hg h0 hs⟩
  | idle hn hg h0 hi hq => exact absurd hi (idle_pure hk hq)
  | pick hg ho hc hd h => exact ⟨rfl, fun tab' => .pick hg ho hc hd h⟩
  | callP hg ho hgo h => exact ⟨rfl, fun tab' => .callP hg ho hgo h⟩
  | @callE q r T hc hn hg ho hgo h =>
    rw [ho] at hk
    rw [ho] at hgo
    obtain ⟨cal, args, tys⟩ := q
    cases cal <;> simp [kindOf, isGoCall, hc] at hk hgo
  | @callL g q r hc hn hg ho hgo h =>
    rw [ho] at hk
    rw [ho] at hgo
    obtain ⟨cal, args, tys⟩ := q
    cases cal <;> simp [kindOf, isGoCall, hc] at hk hgo
  | @callD q r L hn hg ho hgo h =>
    have hc : ∀ q, c.pureCall q = false := fun q => by cases c <;> simp [Md.isNews] at hn; rfl
    rw [ho] at hk
    rw [ho] at hgo
    obtain ⟨cal, args, tys⟩ := q
    cases cal <;> simp [kindOf, isGoCall, hc] at hk hgo
  | @callN q r L hb hg ho hgo h =>
    have hn := Md.bar_news hb
    have hc : ∀ q, c.pureCall q = false := fun q => by cases c <;> simp [Md.isNews] at hn; rfl
    rw [ho] at hk
    rw [ho] at hgo
    obtain ⟨cal, args, tys⟩ := q
    cases cal <;> simp [kindOf, isGoCall, hc] at hk hgo
  | @callA q r ns L hb hg ho hgo h =>
    have hn := Md.ap_news hb
    have hc : ∀ q, c.pureCall q = false := fun q => by cases c <;> simp [Md.isNews] at hn; rfl
    rw [ho] at hk
    rw [ho] at hgo
    obtain ⟨cal, args, tys⟩ := q
    cases cal <;> simp [kindOf, isGoCall, hc] at hk hgo
  | op hg hcl h hs hob he hf hb =>
    have e := aval_pure_eff hcl hk h
    refine ⟨by rw [e]; rfl, fun tab' => ?_⟩
    refine .op hg hcl (by
      rw [← h]
      cases hz : isLoad o.op with
      | false => exact aval_pure hcl hz hk
      | true =>
        cases hop : o.op <;> rw [hop] at hz <;> simp only [isLoad, Bool.false_eq_true] at hz
        rename_i ty ad
        rw [hop] at hk
        have hfz : c.isFrz = true := by
          cases hc : c.isFrz with
          | true => rfl
          | false => simp [kindOf, hc] at hk
        have hel := hb.2.1 hfz
        rw [hop] at hel
        simp only [frzLoad] at hel
        simp only [aval]
        cases hx : strip (opd σ.ts ad) <;> rw [hx] at hel <;> simp only [isElD, Bool.false_eq_true] at hel
        rfl) hs hob he (by rw [e]; trivial) hb
theorem YA.readKind {o : Oper} {σ : S} {d : D} {t : TE} (hk : kindOf Γ c o.op = .read) (Y : YA P Γ m base c ops o σ d t) :
    teStill t = true ∧ ∀ nm oo, σ.tab.get nm = none → YA P Γ m base c ops o { σ with tab := σ.tab.set nm oo } d t := by
  have hop : (∃ t a, o.op = .load t a) ∨ (∃ src dst x, o.op = .convert src dst x ∧ convK Γ dst = .read) ∨ ∃ t x i ok, o.op = .lookup t x i ok ∧ lookK' Γ t = .read := by
    cases h : o.op <;> simp [kindOf, h] at hk
    case load => exact .inl ⟨_, _, rfl⟩
    case convert src dst x => exact .inr (.inl ⟨_, _, _, rfl, hk⟩)
    case lookup t x i ok => exact .inr (.inr ⟨_, _, _, _, rfl, hk⟩)
    case call q => (repeat' split at hk) <;> simp at hk
  rcases hop with ⟨ty, ad, hop⟩ | ⟨src, dst, x, hop, hcv⟩ | ⟨ty, x, ix, ok, hop, hlk⟩
  · cases Y with
    | skip hg h0 hs => exact ⟨rfl, fun nm oo hn => .skip hg h0 hs⟩
    | idle hn hg h0 hi hq => rw [hop] at hi; simp [idleOp] at hi
    | pick hg ho hc hd h => rw [hop] at ho; cases ho
    | callP hg ho hgo h => rw [hop] at ho; cases ho
    | callE hc hn hg ho hgo h => rw [hop] at ho; cases ho
    | callL hc hn hg ho hgo h => rw [hop] at ho; cases ho
    | callD hn hg ho hgo h => rw [hop] at ho; cases ho
    | callN hb hg ho hgo h => rw [hop] at ho; cases ho
    | callA ha hg ho hgo h => rw [hop] at ho; cases ho
    | @op g r hg hcl h hs hob he hf hb =>
      rw [hop] at h
      simp only [aval] at h
      split at h
      · rename_i ti hti
        have e := load_eff h
        refine ⟨by rw [e]; rfl, fun nm oo hn => .op hg hcl ?_ hs hob he (by rw [e]; trivial) hb⟩
        rw [hop]; simp only [aval, hti]
        exact loadD_upd hn h
      · simp at h
  · cases Y with
    | skip hg h0 hs => exact ⟨rfl, fun nm oo hn => .skip hg h0 hs⟩
    | idle hn hg h0 hi hq => rw [hop] at hi; simp [idleOp] at hi
    | pick hg ho hc hd h => rw [hop] at ho; cases ho
    | callP hg ho hgo h => rw [hop] at ho; cases ho
    | callE hc hn hg ho hgo h => rw [hop] at ho; cases ho
    | callL hc hn hg ho hgo h => rw [hop] at ho; cases ho
    | callD hn hg ho hgo h => rw [hop] at ho; cases ho
    | callN hb hg ho hgo h => rw [hop] at ho; cases ho
    | callA ha hg ho hgo h => rw [hop] at ho; cases ho
    | @op g r hg hcl h hs hob he hf hb =>
      rw [hop] at h
      simp only [aval] at h
      split at h
      · rename_i si di hsi hdi
        obtain ⟨e, hup⟩ := convD_read hdi hcv h
        refine ⟨by rw [e]; rfl, fun nm oo hn => .op hg hcl ?_ hs hob he (by rw [e]; trivial) hb⟩
        rw [hop]; simp only [aval, hsi, hdi]
        exact hup nm oo hn
      · simp at h
  · cases Y with
    | skip hg h0 hs => exact ⟨rfl, fun nm oo hn => .skip hg h0 hs⟩
    | idle hn hg h0 hi hq => rw [hop] at hi; simp [idleOp] at hi
    | pick hg ho hc hd h => rw [hop] at ho; cases ho
    | callP hg ho hgo h => rw [hop] at ho; cases ho
    | callE hc hn hg ho hgo h => rw [hop] at ho; cases ho
    | callL hc hn hg ho hgo h => rw [hop] at ho; cases ho
    | callD hn hg ho hgo h => rw [hop] at ho; cases ho
    | callN hb hg ho hgo h => rw [hop] at ho; cases ho
    | callA ha hg ho hgo h => rw [hop] at ho; cases ho
    | @op g r hg hcl h hs hob he hf hb =>
      rw [hop] at h
      simp only [aval] at h
      split at h
      · rename_i ti hti
        have hrm : ¬ rowsMap Γ ti = true := fun e => by simp [lookK', hti, e] at hlk
        rw [if_neg hrm] at h
        obtain ⟨e, hup⟩ := lookupD_read h
        refine ⟨by rw [e]; rfl, fun nm oo hn => .op hg hcl ?_ hs hob he (by rw [e]; trivial) hb⟩
        rw [hop]; simp only [aval, hti, if_neg hrm]
        exact hup nm oo hn
      · simp at h
theorem lentOp_md {op : Op} (h : lentOp c op = true) : c.isNews = false ∧ c.isFrz = false ∧ isGoCall op = true ∧ ∃ q, op = .call q ∧ c.lentCall q = true := by
  cases op <;> simp [lentOp] at h
  rename_i q
  have hc : ∃ ll, c = .lent ll := by cases c <;> simp [Md.lentCall] at h; exact ⟨_, rfl⟩
  obtain ⟨ll, rfl⟩ := hc
  exact ⟨rfl, rfl, h.1, q, rfl, h.2⟩
theorem YA.lentKind {o : Oper} {σ : S} {d : D} {t : TE} (hk : lentOp c o.op = true) (Y : YA P Γ m base c ops o σ d t) (k : Nat) : σ.eff k t = σ := by
  obtain ⟨hn, hf, hgo, q, hop, hl⟩ := lentOp_md hk
  cases Y with
  | skip hg h0 hs => rfl
  | idle hn hg h0 hi hq => rfl
  | pick hg ho hc hd h => rfl
  | callP hg ho hgo h => rfl
  | callE hc hn hg ho hgo h hl2 =>
    rw [hop] at ho
    simp only [Op.call.injEq] at ho
    subst ho
    rw [hl] at hl2; cases hl2
  | callL hc hn hg ho hgo h => rfl
  | callD hn2 hg ho hgo h => rw [hn] at hn2; cases hn2
  | callN hb hg ho hgo h => rw [Md.bar_news hb] at hn; cases hn
  | callA ha hg ho hgo h => rw [Md.ap_news ha] at hn; cases hn
  | op hg hcl h hs hob he hf hb => rw [hgo] at hcl; cases hcl
theorem YA.loadKind {o : Oper} {σ : S} {d : D} {t : TE} (hf : c.isFrz = false) (hk : isLoad o.op = true) (Y : YA P Γ m base c ops o σ d t) (k : Nat) : σ.eff k t = σ := by
  have hr : kindOf Γ c o.op = .read := by cases h : o.op <;> simp [isLoad, h] at hk; simp [kindOf, hf]
  exact still_eff (Y.readKind hr).1
theorem YA.newKind {o : Oper} {σ : S} {d : D} {t : TE} (hk : kindOf Γ c o.op = .new) (Y : YA P Γ m base c ops o σ d t) :
    (t = .op .frz ∨ ∃ oo, t = .op (.new oo) ∧ σ.tab.get (nmOf base o, σ.gen) = none) ∧ ∀ tab' : Tab, tab'.get (nmOf base o, σ.gen) = none ∨ t = .op .frz → YA P Γ m base c ops o { σ with tab := tab' } d t := by
  have eff : ∀ {tab nm ρ} {r : AR}, aval Γ m tab nm ρ o.op = some r → r.eff = .frz ∨ ∃ oo, r.eff = .new oo := by
    intro tab nm ρ r h
    cases hop : o.op <;> simp [kindOf, hop] at hk <;> rw [hop] at h <;> simp only [aval] at h
    case call q => (repeat' split at hk) <;> simp at hk
    case load => (repeat' split at hk) <;> simp at hk
    case convert src dst x =>
      split at h
      · rename_i si di h1 h2; exact .inl ((convD_new (tab' := tab) h2 hk).2 r h)
      · simp at h
    all_goals
      (try unfold newBox at h)
      (try unfold buildSliceD at h)
      (try unfold makeSliceD at h)
      (try unfold makeMapD at h)
      (try unfold rangeD at h)
      repeat' first
        | (simp only [reduceCtorEq] at h; done)
        | (simp only [Option.some.injEq] at h; subst h; exact .inr ⟨_, rfl⟩)
        | (simp only [Option.some.injEq] at h; subst h; exact .inl rfl)
        | split at h
  cases Y with
  | skip hg h0 hs => exact absurd hk (by cases h : o.op <;> simp [skipOp, h] at hs <;> simp [kindOf] <;> (split <;> simp))
  | idle hn hg h0 hi hq => exact ⟨.inl rfl, fun tab' _ => .idle hn hg h0 hi hq⟩
  | pick hg ho hc hd h => rw [ho] at hk; simp [kindOf] at hk
  | @callP g q r hg ho hgo h =>
    rw [ho] at hk hgo
    obtain ⟨cal, args, tys⟩ := q
    cases cal <;> simp [isGoCall] at hgo <;> simp [kindOf] at hk <;> split at hk <;> simp at hk
  | @callE q r T hc hn hg ho hgo h =>
    rw [ho] at hk hgo
    obtain ⟨cal, args, tys⟩ := q
    cases cal <;> simp [isGoCall] at hgo <;> simp [kindOf] at hk <;> split at hk <;> simp at hk
  | @callL g q r hc hn hg ho hgo h =>
    rw [ho] at hk hgo
    obtain ⟨cal, args, tys⟩ := q
    cases cal <;> simp [isGoCall] at hgo <;> simp [kindOf] at hk <;> split at hk <;> simp at hk
  | @callD q r L hn hg ho hgo h =>
    rw [ho] at hk hgo
    obtain ⟨cal, args, tys⟩ := q
    cases cal <;> simp [isGoCall] at hgo <;> simp [kindOf] at hk <;> split at hk <;> simp at hk
  | @callN q r L hb hg ho hgo h =>
    rw [ho] at hk hgo
    obtain ⟨cal, args, tys⟩ := q
    cases cal <;> simp [isGoCall] at hgo <;> simp [kindOf] at hk <;> split at hk <;> simp at hk
  | @callA q r ns L ha hg ho hgo h =>
    rw [ho] at hk hgo
    obtain ⟨cal, args, tys⟩ := q
    cases cal <;> simp [isGoCall] at hgo <;> simp [kindOf] at hk <;> split at hk <;> simp at hk
  | @op g r hg hcl h hs hob he hf hb =>
    rcases eff h with e | ⟨oo, e⟩
    · refine ⟨.inl (by rw [e]), fun tab' _ => .op hg hcl (by rw [← h]; exact aval_new hk) hs hob he (by rw [e]; trivial) hb⟩
    · have hf' := hf
      rw [e] at hf'
      refine ⟨.inr ⟨oo, by rw [e], hf'⟩, fun tab' hn => .op hg hcl (by rw [← h]; exact aval_new hk) hs hob he ?_ hb⟩
      rw [e] at hn ⊢
      exact hn.resolve_right (by simp)

theorem eff_put (σ : S) (k : Nat) (t : TE) (dst : Option Tmp) (d : D) : (σ.put dst d).eff k t = (σ.eff k t).put dst d := by
  cases t <;> cases dst <;> rfl

/-! ### an append, and what is made behind it -/
theorem elemsD_upd {tab : Tab} {nm : Nm} {oo : OO} {s : Nat} {x : D} {ys : List D} (hn : tab.get nm = none) (h : elemsD tab s x = some ys) : elemsD (tab.set nm oo) s x = some ys ∧ elemsOk (tab.set nm oo) x = elemsOk tab x := by
  unfold elemsD at h
  split at h
  · exact ⟨h, rfl⟩
  · rename_i nm' s' o n
    have hne : tab.get nm' ≠ none := fun e => by rw [e] at h; simp at h
    have hnm : nm ≠ nm' := fun e => by rw [e] at hn; exact hne hn
    simp only [elemsD, elemsOk, Tab.get_set, if_neg hnm]
    exact ⟨h, trivial⟩
  · exact ⟨h, rfl⟩
  · exact ⟨h, rfl⟩
  · simp at h
theorem appendD_upd {tab : Tab} {nm k : Nm} {oo : OO} {ei : TI} {a x : D} {r : AR} (hn : tab.get k = none) (h : appendD nm ei tab a x = some r) : appendD nm ei (tab.set k oo) a x = some r := by
  unfold appendD at h ⊢
  split at h
  · rename_i h0
    rw [if_pos h0]
    split at h
    · simp at h
    · rename_i ys hys
      obtain ⟨e1, e2⟩ := elemsD_upd (oo := oo) hn hys
      simp only [e1, e2]
      split at h
      · rename_i nm' s' o n
        have hne : tab.get nm' ≠ none := fun e => by rw [e] at h; simp at h
        have hnm : k ≠ nm' := fun e => by rw [e] at hn; exact hne hn
        simp only [Tab.get_set, if_neg hnm]
        exact h
      · exact h
      · simp at h
  · simp at h
theorem append_upd {tab : Tab} {nm k : Nm} {oo : OO} {ρ : Operand → D} {op : Op} {r : AR} (ha : isAppend op = true) (hk : tab.get k = none) (h : aval Γ m tab nm ρ op = some r) : aval Γ m (tab.set k oo) nm ρ op = some r := by
  cases op <;> simp only [isAppend, Bool.false_eq_true] at ha
  rename_i q
  obtain ⟨cal, args, tys⟩ := q
  cases cal <;> simp only [Bool.false_eq_true] at ha
  rename_i b
  cases b <;> simp only [Bool.false_eq_true] at ha
  simp only [aval] at h ⊢
  split at h
  · split at h
    · rename_i h1 h2
      split at h
      · exact h
      · split at h
        · exact appendD_upd hk h
        · simp at h
      · simp at h
    · simp at h
  · simp at h
/-! ### a load of a box, and an append -/
theorem append_eff {tab : Tab} {nm : Nm} {ρ : Operand → D} {op : Op} {r : AR} (ha : isAppend op = true) (h : aval Γ m tab nm ρ op = some r) :
    ∃ dd p s z xs, r.eff = .app dd (.arr p s z xs) ∧ ∀ n, dd = some n → ∃ p s z xs, tab.get n = some (.arr p s z xs) := by
  cases op <;> simp only [isAppend, Bool.false_eq_true] at ha
  rename_i q
  obtain ⟨cal, args, tys⟩ := q
  cases cal <;> simp only [Bool.false_eq_true] at ha
  rename_i b
  cases b <;> simp only [Bool.false_eq_true] at ha
  simp only [aval] at h
  repeat' first
    | (simp only [reduceCtorEq] at h; done)
    | split at h
    | (unfold appendD at h)
    | (unfold appendMakeD at h)
  all_goals (simp only [Option.some.injEq] at h; subst h)
  all_goals refine ⟨_, _, _, _, _, rfl, fun n hn => ?_⟩
  all_goals first
    | (simp only [Option.some.injEq] at hn; subst hn; exact ⟨_, _, _, _, by assumption⟩)
    | (simp only [reduceCtorEq] at hn)
theorem loadD_app {ti : TI} {tab : Tab} {nm : Nm} {dd : Option Nm} {p : Bool} {s : Nat} {z : D} {xs : List D} {x : D} {gen : Nat} (hx : noElp gen x = true) (hd : ∀ n, dd = some n → ∃ p s z xs, tab.get n = some (.arr p s z xs)) (hn : tab.get nm = none) :
    loadD ti (applyE tab nm (.app dd (.arr p s z xs))) x = loadD ti tab x := by
  cases x <;> simp only [noElp, Bool.false_eq_true] at hx <;> try rfl
  rename_i q off
  by_cases e1 : nm = q
  · subst e1
    have e2 : (applyE tab nm (.app dd (.arr p s z xs))).get nm = some (.arr p s z xs) := by cases dd <;> simp [applyE, Tab.get_set]
    simp only [loadD, e2, hn]
  · cases dd with
    | none =>
      have e2 : (applyE tab nm (.app none (.arr p s z xs))).get q = tab.get q := by simp only [applyE, Tab.get_set, if_neg e1]
      simp only [loadD, e2]
    | some n =>
      by_cases e3 : n = q
      · subst e3
        obtain ⟨p', s', z', xs', h'⟩ := hd n rfl
        have e2 : (applyE tab nm (.app (some n) (.arr p s z xs))).get n = some .dead := by simp only [applyE, Tab.get_set, if_neg e1]; simp
        simp only [loadD, e2, h']
      · have e2 : (applyE tab nm (.app (some n) (.arr p s z xs))).get q = tab.get q := by simp only [applyE, Tab.get_set, if_neg e1, if_neg e3]
        simp only [loadD, e2]
theorem YA.loadApp {oi oj : Oper} {σ : S} {d1 d2 : D} {t1 t2 : TE} (hc : cApp c ops = true) (h1 : isLoad oi.op = true) (h2 : isAppend oj.op = true) (Y2 : YA P Γ m base c ops oj σ d2 t2) :
    (YA P Γ m base c ops oi σ d1 t1 → teStill t1 = true ∧ YA P Γ m base c ops oi (σ.eff (nmOf base oj) t2) d1 t1) ∧
    (YA P Γ m base c ops oi (σ.eff (nmOf base oj) t2) d1 t1 → teStill t1 = true ∧ YA P Γ m base c ops oi σ d1 t1) := by
  have app : ∃ dd p s z xs, t2 = .op (.app dd (.arr p s z xs)) ∧ (∀ n, dd = some n → ∃ p s z xs, σ.tab.get n = some (.arr p s z xs)) ∧ σ.tab.get (nmOf base oj, σ.gen) = none := by
    cases Y2 with
    | skip hg h0 hs => exact absurd h2 (by cases h : oj.op <;> simp [skipOp, h] at hs <;> simp [isAppend])
    | idle hn hg h0 hi hq => simp [cApp, hn] at hc
    | pick hg ho hc hd h => rw [ho] at h2; simp [isAppend] at h2
    | @callP g q r hg ho hgo h => rw [ho] at h2 hgo; obtain ⟨cal, args, tys⟩ := q; cases cal <;> simp [isAppend, isGoCall] at h2 hgo
    | @callE q r T hc hn hg ho hgo h => rw [ho] at h2 hgo; obtain ⟨cal, args, tys⟩ := q; cases cal <;> simp [isAppend, isGoCall] at h2 hgo
    | @callL g q r hc hn hg ho hgo h => rw [ho] at h2 hgo; obtain ⟨cal, args, tys⟩ := q; cases cal <;> simp [isAppend, isGoCall] at h2 hgo
    | @callD q r L hn hg ho hgo h => rw [ho] at h2 hgo; obtain ⟨cal, args, tys⟩ := q; cases cal <;> simp [isAppend, isGoCall] at h2 hgo
    | @callN q r L hb hg ho hgo h => rw [ho] at h2 hgo; obtain ⟨cal, args, tys⟩ := q; cases cal <;> simp [isAppend, isGoCall] at h2 hgo
    | @callA q r ns L ha hg ho hgo h => rw [ho] at h2 hgo; obtain ⟨cal, args, tys⟩ := q; cases cal <;> simp [isAppend, isGoCall] at h2 hgo
    | @op g r hg hcl h hs hob he hf hb =>
      obtain ⟨dd, p, s, z, xs, e, hd⟩ := append_eff h2 h
      rw [e] at hf
      exact ⟨dd, p, s, z, xs, by rw [e], hd, hf⟩
  obtain ⟨dd, p, s, z, xs, rfl, hd, hn⟩ := app
  obtain ⟨ty, ad, hop⟩ : ∃ t a, oi.op = .load t a := by
    cases h : oi.op <;> simp [isLoad, h] at h1
    exact ⟨_, _, rfl⟩
  constructor
  · intro Y1
    cases Y1 with
    | skip hg h0 hs => exact ⟨rfl, .skip hg h0 hs⟩
    | idle hn hg h0 hi hq => rw [hop] at hi; simp [idleOp] at hi
    | pick hg ho hc hd h => rw [hop] at ho; cases ho
    | callP hg ho hgo h => rw [hop] at ho; cases ho
    | callE hc hn hg ho hgo h => rw [hop] at ho; cases ho
    | callL hc hn hg ho hgo h => rw [hop] at ho; cases ho
    | callD hn hg ho hgo h => rw [hop] at ho; cases ho
    | callN hb hg ho hgo h => rw [hop] at ho; cases ho
    | callA ha hg ho hgo h => rw [hop] at ho; cases ho
    | @op g r hg hcl h hs hob he hf hb =>
      have hb' := hb.1 hc
      rw [hop] at h hb'
      simp only [boxLoad] at hb'
      simp only [aval] at h
      split at h
      · rename_i ti hti
        have e := load_eff h
        refine ⟨by rw [e]; rfl, .op (σ := σ.eff (nmOf base oj) (.op (.app dd (.arr p s z xs)))) hg hcl ?_ hs hob he (by rw [e]; trivial) hb⟩
        rw [hop]; simp only [aval, hti]
        simp only [S.eff]
        rw [loadD_app hb' hd hn]
        exact h
      · simp at h
  · intro Y1
    cases Y1 with
    | skip hg h0 hs => exact ⟨rfl, .skip hg h0 hs⟩
    | idle hn hg h0 hi hq => rw [hop] at hi; simp [idleOp] at hi
    | pick hg ho hc hd h => rw [hop] at ho; cases ho
    | callP hg ho hgo h => rw [hop] at ho; cases ho
    | callE hc hn hg ho hgo h => rw [hop] at ho; cases ho
    | callL hc hn hg ho hgo h => rw [hop] at ho; cases ho
    | callD hn hg ho hgo h => rw [hop] at ho; cases ho
    | callN hb hg ho hgo h => rw [hop] at ho; cases ho
    | callA ha hg ho hgo h => rw [hop] at ho; cases ho
    | @op g r hg hcl h hs hob he hf hb =>
      have hb' := hb.1 hc
      rw [hop] at h hb'
      simp only [boxLoad] at hb'
      simp only [aval] at h
      split at h
      · rename_i ti hti
        have e := load_eff h
        refine ⟨by rw [e]; rfl, .op (σ := σ) hg hcl ?_ hs hob he (by rw [e]; trivial) hb⟩
        rw [hop]; simp only [aval, hti]
        simp only [S.eff] at h hb'
        rw [loadD_app hb' hd hn] at h
        exact h
      · simp at h
theorem YA.appNew {oi oj : Oper} {σ : S} {d1 d2 : D} {t1 t2 : TE} (h1 : isAppend oi.op = true) (h2 : kindOf Γ c oj.op = .new) (hne : nmOf base oi ≠ nmOf base oj) (Y1 : YA P Γ m base c ops oi σ d1 t1) (Y2 : YA P Γ m base c ops oj (σ.eff (nmOf base oi) t1) d2 t2) :
    YA P Γ m base c ops oj σ d2 t2 ∧ YA P Γ m base c ops oi (σ.eff (nmOf base oj) t2) d1 t1 ∧ (σ.eff (nmOf base oi) t1).eff (nmOf base oj) t2 = (σ.eff (nmOf base oj) t2).eff (nmOf base oi) t1 := by
  have hne2 : (nmOf base oi, σ.gen) ≠ (nmOf base oj, σ.gen) := fun e => hne (by simpa using e)
  obtain ⟨hn2, hi2⟩ := Y2.newKind h2
  cases Y1 with
  | skip hg h0 hs => exact absurd h1 (by cases h : oi.op <;> simp [skipOp, h] at hs <;> simp [isAppend])
  | idle hn hg h0 hi hq => exact ⟨Y2, .idle hn (by rw [show (σ.eff (nmOf base oj) t2).ts = σ.ts by cases t2 <;> rfl]; exact hg) h0 hi hq, rfl⟩
  | pick hg ho hc hd h => rw [ho] at h1; simp [isAppend] at h1
  | @callP g q r hg ho hgo h => rw [ho] at h1 hgo; obtain ⟨cal, args, tys⟩ := q; cases cal <;> simp [isAppend, isGoCall] at h1 hgo
  | @callE q r T hc hn hg ho hgo h => rw [ho] at h1 hgo; obtain ⟨cal, args, tys⟩ := q; cases cal <;> simp [isAppend, isGoCall] at h1 hgo
  | @callL g q r hc hn hg ho hgo h => rw [ho] at h1 hgo; obtain ⟨cal, args, tys⟩ := q; cases cal <;> simp [isAppend, isGoCall] at h1 hgo
  | @callD q r L hn hg ho hgo h => rw [ho] at h1 hgo; obtain ⟨cal, args, tys⟩ := q; cases cal <;> simp [isAppend, isGoCall] at h1 hgo
  | @callN q r L hb hg ho hgo h => rw [ho] at h1 hgo; obtain ⟨cal, args, tys⟩ := q; cases cal <;> simp [isAppend, isGoCall] at h1 hgo
  | @callA q r ns L ha hg ho hgo h => rw [ho] at h1 hgo; obtain ⟨cal, args, tys⟩ := q; cases cal <;> simp [isAppend, isGoCall] at h1 hgo
  | @op g r hg hcl h hs hob he hf hb =>
    obtain ⟨dd, p, s, z, xs, e, hd⟩ := append_eff h1 h
    have hf' := hf
    rw [e] at hf' hn2 hi2 ⊢
    rcases hn2 with rfl | ⟨oo, rfl, hno⟩
    · refine ⟨(hi2 σ.tab (.inr rfl)).ts ⟨fun _ _ => rfl, rfl⟩ rfl rfl, ?_, rfl⟩
      rw [← e]
      exact .op (σ := σ.eff (nmOf base oj) (.op .frz)) hg hcl h hs hob he hf hb
    · have hno' : σ.tab.get (nmOf base oj, σ.gen) = none := by
        have h3 : (applyE σ.tab (nmOf base oi, σ.gen) (.app dd (.arr p s z xs))).get (nmOf base oj, σ.gen) = none := hno
        cases dd with
        | none => simpa only [applyE, Tab.get_set, if_neg hne2] using h3
        | some n =>
          simp only [applyE, Tab.get_set, if_neg hne2] at h3
          split at h3
          · simp at h3
          · exact h3
      refine ⟨(hi2 σ.tab (.inl hno')).ts ⟨fun _ _ => rfl, rfl⟩ rfl rfl, ?_, ?_⟩
      · rw [← e]
        refine .op (σ := σ.eff (nmOf base oj) (.op (.new oo))) hg hcl (append_upd h1 hno' h) hs hob he ?_ hb
        rw [e]
        show (σ.tab.set (nmOf base oj, σ.gen) oo).get (nmOf base oi, σ.gen) = none
        rw [Tab.get_set, if_neg (Ne.symm hne2)]; exact hf'
      · simp only [S.eff, S.mk.injEq, true_and, and_true]
        cases dd with
        | none =>
          simp only [applyE]
          funext n
          simp only [Tab.set]
          by_cases e1 : (nmOf base oj, σ.gen) = n
          · subst e1; simp [hne2]
          · simp [e1]
        | some q =>
          have hq : (nmOf base oj, σ.gen) ≠ q := fun e2 => by
            obtain ⟨_, _, _, _, h5⟩ := hd q rfl
            rw [← e2, hno'] at h5; cases h5
          simp only [applyE]
          funext n
          simp only [Tab.set]
          by_cases e1 : (nmOf base oj, σ.gen) = n
          · subst e1; simp [hne2, Ne.symm hq]
          · simp [e1]
/-- what only adds objects -/
theorem YA.adds {o : Oper} {σ : S} {d : D} {t : TE} (hn : c.isNews = true) (ha : adder Γ c o = true) (Y : YA P Γ m base c ops o σ d t) :
    ∃ L, (∀ p ∈ L, ∃ i, p.1 = (nmOf base o + 1000 * i, σ.gen)) ∧ (∀ p ∈ L, σ.tab.get p.1 = none) ∧ (∀ σ' : S, σ'.gen = σ.gen → σ'.eff (nmOf base o) t = { σ' with tab := addL σ'.tab L }) ∧
      ∀ tab' : Tab, (∀ p ∈ L, tab'.get p.1 = none) → YA P Γ m base c ops o { σ with tab := tab' } d t := by
  simp only [adder, Bool.or_eq_true] at ha
  cases Y with
  | skip hg h0 hs => exact ⟨[], by simp, by simp, fun σ' _ => rfl, fun tab' _ => .skip hg h0 hs⟩
  | idle hn2 hg h0 hi hq => rw [hn] at hn2; cases hn2
  | pick hg ho hc hd h => rw [ho] at ha; simp [freeOp, kindOf, isNew] at ha
  | callP hg ho hgo h => exact ⟨[], by simp, by simp, fun σ' _ => rfl, fun tab' _ => .callP hg ho hgo h⟩
  | @callE q r T hc hn' hg ho hgo h =>
    rw [ho] at ha hgo
    obtain ⟨cal, args, tys⟩ := q
    cases cal <;> simp [isGoCall] at hgo <;> simp [freeOp, kindOf, isNew, hn', hc] at ha
  | @callL g q r hc hn' hg ho hgo h =>
    rw [ho] at ha hgo
    obtain ⟨cal, args, tys⟩ := q
    cases cal <;> simp [isGoCall] at hgo <;> simp [freeOp, kindOf, isNew, hn', hc] at ha
  | @callN q r L hb hg ho hgo h =>
    have hn' := Md.bar_free hb
    rw [ho] at ha hgo
    obtain ⟨cal, args, tys⟩ := q
    cases cal <;> simp [isGoCall] at hgo <;> simp [freeOp, kindOf, isNew, hn', (show ∀ q, c.pureCall q = false from fun q => by cases c <;> simp [Md.isNews] at hn; rfl)] at ha
  | @callA q r ns L hb hg ho hgo h =>
    have hn' := Md.ap_free hb
    rw [ho] at ha hgo
    obtain ⟨cal, args, tys⟩ := q
    cases cal <;> simp [isGoCall] at hgo <;> simp [freeOp, kindOf, isNew, hn', (show ∀ q, c.pureCall q = false from fun q => by cases c <;> simp [Md.isNews] at hn; rfl)] at ha
  | @callD q r L hn' hg ho hgo h =>
    obtain ⟨fid, ds, r0, news, h1, h2, N, ho1, hpc, rfl, rfl⟩ := h
    have e : ∀ p ∈ news, backN [] (nmOf base o) σ.gen p.1 = (nmOf base o + 1000 * p.1.1, σ.gen) := fun p hp => by
      unfold backN; rw [if_neg (by rw [ho1 p hp]; omega)]
    have names : ∀ p ∈ (news.map fun p => (backN [] (nmOf base o) σ.gen p.1, renO (backN [] (nmOf base o) σ.gen) p.2)), ∃ q ∈ news, p.1 = (nmOf base o + 1000 * q.1.1, σ.gen) := by
      intro p hp
      obtain ⟨q, hq, rfl⟩ := List.mem_map.1 hp
      exact ⟨q, hq, e q hq⟩
    refine ⟨_, fun p hp => ?_, fun p hp => ?_, fun σ' _ => rfl, fun tab' hf => ?_⟩
    · obtain ⟨q, hq, e'⟩ := names p hp; exact ⟨q.1.1, e'⟩
    · obtain ⟨q, hq, e'⟩ := names p hp
      rw [e']
      rcases N.outs q hq with ⟨h0, _⟩ | ⟨_, h0⟩
      · rw [ho1 q hq] at h0; omega
      · exact h0
    · refine .callD hn' hg ho hgo ⟨fid, ds, r0, news, h1, h2, ?_, ho1, hpc, rfl, rfl⟩
      refine ⟨N.nodup, N.args, fun n hn => (by cases hn), fun q hq => .inr ⟨ho1 q hq, ?_⟩, N.res, N.cont⟩
      have := hf (backN [] (nmOf base o) σ.gen q.1, renO (backN [] (nmOf base o) σ.gen) q.2) (List.mem_map.2 ⟨q, hq, rfl⟩)
      rw [e q hq] at this
      exact this
  | @op g r hg hcl h hs hob he hf hb =>
    have hk : kindOf Γ c o.op = .new := by
      rcases ha with ha | ha
      · cases ho : o.op <;> simp [ho, freeOp] at ha
        rw [ho] at hcl; rw [hcl] at ha; simp at ha
      · cases h : kindOf Γ c o.op <;> simp [h, isNew] at ha; rfl
    obtain ⟨hn1, hi1⟩ := (YA.op (P := P) (Γ := Γ) (m := m) (base := base) (c := c) (ops := ops) hg hcl h hs hob he hf hb).newKind hk
    rcases hn1 with e | ⟨oo, e, hno⟩
    · refine ⟨[], by simp, by simp, fun σ' _ => by rw [e]; rfl, fun tab' _ => hi1 tab' (.inr e)⟩
    · refine ⟨[((nmOf base o, σ.gen), oo)], fun p hp => ⟨0, by rw [List.mem_singleton.1 hp]; rfl⟩, fun p hp => by rw [List.mem_singleton.1 hp]; exact hno, fun σ' hg' => by rw [e]; simp only [S.eff, applyE, addL, addLT, hg'], fun tab' hf' => hi1 tab' (.inl (hf' ((nmOf base o, σ.gen), oo) (by simp)))⟩
/-- what only adds objects, and looks at older ones -/
theorem YA.addsB {o : Oper} {σ : S} {d : D} {t : TE} (hn : c.isNews = true) (ha : adderB Γ c o = true) (Y : YA P Γ m base c ops o σ d t) :
    ∃ L, (∀ p ∈ L, ∃ i, p.1 = (nmOf base o + 1000 * i, σ.gen)) ∧ (∀ p ∈ L, σ.tab.get p.1 = none) ∧ (∀ σ' : S, σ'.gen = σ.gen → σ'.eff (nmOf base o) t = { σ' with tab := addL σ'.tab L }) ∧
      ∀ tab' : Tab, (∀ nm : Nm, nm.2 ≠ σ.gen → tab'.get nm = σ.tab.get nm) → (∀ p ∈ L, tab'.get p.1 = none) → YA P Γ m base c ops o { σ with tab := tab' } d t := by
  simp only [adderB, Bool.or_eq_true] at ha
  rcases ha with ha | ha
  · obtain ⟨L, h1, h2, h3, h4⟩ := Y.adds hn ha
    exact ⟨L, h1, h2, h3, fun tab' _ h => h4 tab' h⟩
  obtain ⟨q0, hop, hgo0, hb0, ha0⟩ : ∃ q, o.op = .call q ∧ isGoCall o.op = true ∧ c.barCall q = true ∧ c.apCall q = false := by
    cases hop : o.op <;> simp only [barOp, hop, Bool.false_eq_true, Bool.and_eq_true, Bool.not_eq_true'] at ha
    exact ⟨_, rfl, ha.1, ha.2.1, ha.2.2⟩
  cases Y with
  | skip hg h0 hs => rw [hop] at hs; simp [skipOp] at hs
  | idle hn2 hg h0 hi hq => rw [hn] at hn2; cases hn2
  | pick hg ho hc hd h => rw [hop] at ho; cases ho
  | callP hg ho hgo h => exact ⟨[], by simp, by simp, fun σ' _ => rfl, fun tab' _ _ => .callP hg ho hgo h⟩
  | @callE q r T hc hn' hg ho hgo h hl hb => rw [hop] at ho; cases ho; rw [hb0] at hb; cases hb
  | @callL g q r hc hn' hg ho hgo h hb => rw [hop] at ho; cases ho; rw [hb0] at hb; cases hb
  | @callD q r L hn' hg ho hgo h =>
    obtain ⟨fid, ds, r0, news, h1, h2, N, ho1, hpc, rfl, rfl⟩ := h
    have e : ∀ p ∈ news, backN [] (nmOf base o) σ.gen p.1 = (nmOf base o + 1000 * p.1.1, σ.gen) := fun p hp => by
      unfold backN; rw [if_neg (by rw [ho1 p hp]; omega)]
    have names : ∀ p ∈ (news.map fun p => (backN [] (nmOf base o) σ.gen p.1, renO (backN [] (nmOf base o) σ.gen) p.2)), ∃ q ∈ news, p.1 = (nmOf base o + 1000 * q.1.1, σ.gen) := by
      intro p hp
      obtain ⟨q, hq, rfl⟩ := List.mem_map.1 hp
      exact ⟨q, hq, e q hq⟩
    refine ⟨_, fun p hp => ?_, fun p hp => ?_, fun σ' _ => rfl, fun tab' _ hf => ?_⟩
    · obtain ⟨q, hq, e'⟩ := names p hp; exact ⟨q.1.1, e'⟩
    · obtain ⟨q, hq, e'⟩ := names p hp
      rw [e']
      rcases N.outs q hq with ⟨h0, _⟩ | ⟨_, h0⟩
      · rw [ho1 q hq] at h0; omega
      · exact h0
    · refine .callD hn' hg ho hgo ⟨fid, ds, r0, news, h1, h2, ?_, ho1, hpc, rfl, rfl⟩
      refine ⟨N.nodup, N.args, fun n hn => (by cases hn), fun q hq => .inr ⟨ho1 q hq, ?_⟩, N.res, N.cont⟩
      have := hf (backN [] (nmOf base o) σ.gen q.1, renO (backN [] (nmOf base o) σ.gen) q.2) (List.mem_map.2 ⟨q, hq, rfl⟩)
      rw [e q hq] at this
      exact this
  | @callA q r ns L ha hg ho hgo h => rw [hop] at ho; cases ho; rw [ha0] at ha; cases ha
  | @callN q r L hb hg ho hgo h ha' =>
    obtain ⟨fid, ds, fuel, r0, news, h1, h2, hold, Lk, hpc, rfl, rfl⟩ := h
    have e : ∀ p ∈ news, backN [] (nmOf base o) σ.gen p.1 = (nmOf base o + 1000 * p.1.1, σ.gen) := fun p hp => by
      unfold backN; rw [if_neg (by rw [(Lk.outs p hp).1]; omega)]
    have names : ∀ p ∈ (news.map fun p => (backN [] (nmOf base o) σ.gen p.1, renO (backN [] (nmOf base o) σ.gen) p.2)), ∃ q ∈ news, p.1 = (nmOf base o + 1000 * q.1.1, σ.gen) := by
      intro p hp
      obtain ⟨q, hq, rfl⟩ := List.mem_map.1 hp
      exact ⟨q, hq, e q hq⟩
    refine ⟨_, fun p hp => ?_, fun p hp => ?_, fun σ' _ => rfl, fun tab' hT hf => ?_⟩
    · obtain ⟨q, hq, e'⟩ := names p hp; exact ⟨q.1.1, e'⟩
    · obtain ⟨q, hq, e'⟩ := names p hp
      rw [e']
      exact (Lk.outs q hq).2
    · obtain ⟨a1, a2, a3⟩ := oldDs_eq (T := σ.tab) (T' := tab') hT fuel ds hold
      refine .callN hb hg ho hgo ⟨fid, ds, fuel, r0, news, h1, h2, a3, ?_, by rw [a1]; exact hpc, rfl, rfl⟩ ha'
      refine ⟨a2 Lk.lend, by rw [a1]; exact Lk.pure, Lk.flat, Lk.flats, Lk.res, fun q hq => ⟨(Lk.outs q hq).1, ?_⟩, Lk.cont⟩
      have := hf (backN [] (nmOf base o) σ.gen q.1, renO (backN [] (nmOf base o) σ.gen) q.2) (List.mem_map.2 ⟨q, hq, rfl⟩)
      rw [e q hq] at this
      exact this
  | @op g r hg hcl h hs hob he hf hb => rw [hgo0] at hcl; cases hcl
theorem YA.adderLoad {oi oj : Oper} {σ : S} {d1 d2 : D} {t1 t2 : TE} (hn : c.isNews = true) (h1 : adderB Γ c oi = true) (h2 : isLoad oj.op = true) (Y1 : YA P Γ m base c ops oi σ d1 t1) :
    (YA P Γ m base c ops oj (σ.eff (nmOf base oi) t1) d2 t2 → teStill t2 = true ∧ YA P Γ m base c ops oj σ d2 t2) ∧
    (YA P Γ m base c ops oj σ d2 t2 → YA P Γ m base c ops oj (σ.eff (nmOf base oi) t1) d2 t2) := by
  obtain ⟨L, hL, hfr, heff, _⟩ := Y1.addsB hn h1
  rw [heff σ rfl]
  obtain ⟨ty, ad, hop⟩ : ∃ t a, oj.op = .load t a := by
    cases h : oj.op <;> simp [isLoad, h] at h2
    exact ⟨_, _, rfl⟩
  have key : ∀ ti x, noElp σ.gen x = true → loadD ti (addL σ.tab L) x = loadD ti σ.tab x := by
    intro ti x hx
    cases x <;> simp only [noElp, Bool.false_eq_true, decide_eq_true_eq] at hx <;> try rfl
    rename_i q off
    have hq : findL L q = none := by
      cases h : findL L q with
      | none => rfl
      | some o =>
        obtain ⟨p, hp, e⟩ := findL_mem h
        obtain ⟨i, e'⟩ := hL p hp
        rw [e'] at e
        exact absurd (by rw [← e]) hx
    simp only [loadD, addL_get, hq]
  constructor
  · intro Y2
    cases Y2 with
    | skip hg h0 hs => first | exact ⟨rfl, .skip hg h0 hs⟩ | exact .skip hg h0 hs
    | idle hn hg h0 hi hq => rw [hop] at hi; simp [idleOp] at hi
    | pick hg ho hc hd h => rw [hop] at ho; cases ho
    | callP hg ho hgo h => rw [hop] at ho; cases ho
    | callE hc hn hg ho hgo h => rw [hop] at ho; cases ho
    | callL hc hn hg ho hgo h => rw [hop] at ho; cases ho
    | callD hn hg ho hgo h => rw [hop] at ho; cases ho
    | callN hb hg ho hgo h => rw [hop] at ho; cases ho
    | callA ha hg ho hgo h => rw [hop] at ho; cases ho
    | @op g r hg hcl h hs hob he hf hb =>
      have hb' := hb.1 hn
      rw [hop] at h hb'
      simp only [boxLoad] at hb'
      simp only [aval] at h
      split at h
      · rename_i ti hti
        have e := load_eff h
        refine ⟨by rw [e]; rfl, .op (σ := σ) hg hcl ?_ hs hob he (by rw [e]; trivial) hb⟩
        rw [hop]; simp only [aval, hti]
        exact (key ti (strip (opd σ.ts ad)) hb').symm.trans h
      · simp at h
  · intro Y2
    cases Y2 with
    | skip hg h0 hs => first | exact ⟨rfl, .skip hg h0 hs⟩ | exact .skip hg h0 hs
    | idle hn hg h0 hi hq => rw [hop] at hi; simp [idleOp] at hi
    | pick hg ho hc hd h => rw [hop] at ho; cases ho
    | callP hg ho hgo h => rw [hop] at ho; cases ho
    | callE hc hn hg ho hgo h => rw [hop] at ho; cases ho
    | callL hc hn hg ho hgo h => rw [hop] at ho; cases ho
    | callD hn hg ho hgo h => rw [hop] at ho; cases ho
    | callN hb hg ho hgo h => rw [hop] at ho; cases ho
    | callA ha hg ho hgo h => rw [hop] at ho; cases ho
    | @op g r hg hcl h hs hob he hf hb =>
      have hb' := hb.1 hn
      rw [hop] at h hb'
      simp only [boxLoad] at hb'
      simp only [aval] at h
      split at h
      · rename_i ti hti
        have e := load_eff h
        refine .op (σ := { σ with tab := addL σ.tab L }) hg hcl ?_ hs hob he (by rw [e]; trivial) hb
        rw [hop]; simp only [aval, hti]
        exact (key ti (strip (opd σ.ts ad)) hb').trans h
      · simp at h
theorem near_ne {base a b i j : Nat} (h1 : ¬ a = b) (h2 : a < b + 1000) (h3 : b < a + 1000) : base + a + 1000 * i ≠ base + b + 1000 * j := by
  intro e
  rcases Nat.lt_trichotomy i j with h | h | h <;> omega
theorem YA.adderAdder {oi oj : Oper} {σ : S} {d1 d2 : D} {t1 t2 : TE} (hn : c.isNews = true) (h1 : adderB Γ c oi = true) (h2 : adderB Γ c oj = true) (hnr : near oi oj = true) (Y1 : YA P Γ m base c ops oi σ d1 t1) (Y2 : YA P Γ m base c ops oj (σ.eff (nmOf base oi) t1) d2 t2) :
    YA P Γ m base c ops oj σ d2 t2 ∧ YA P Γ m base c ops oi (σ.eff (nmOf base oj) t2) d1 t1 ∧ (σ.eff (nmOf base oi) t1).eff (nmOf base oj) t2 = (σ.eff (nmOf base oj) t2).eff (nmOf base oi) t1 := by
  obtain ⟨L1, hL1, hf1, he1, hy1⟩ := Y1.addsB hn h1
  rw [he1 σ rfl] at Y2
  obtain ⟨L2, hL2, hf2, he2, hy2⟩ := Y2.addsB hn h2
  have hdis : ∀ p ∈ L1, ∀ q ∈ L2, p.1 ≠ q.1 := by
    intro p hp q hq e
    obtain ⟨i, e1⟩ := hL1 p hp
    obtain ⟨j, e2⟩ := hL2 q hq
    rw [e1, e2] at e
    simp only [near] at hnr
    cases hi : oi.dst with
    | none => simp [hi] at hnr
    | some a =>
      cases hj : oj.dst with
      | none => simp [hi, hj] at hnr
      | some b =>
        simp [hi, hj] at hnr
        simp only [nmOf, hi, hj, Option.getD_some, Prod.mk.injEq] at e
        obtain ⟨⟨k1, k2⟩, k3⟩ := hnr
        have e3 := e.1
        exact near_ne (base := base) (a := a) (b := b) k1 k2 k3 e3
  have hf2' : ∀ p ∈ L2, σ.tab.get p.1 = none := fun p hp => by
    have := hf2 p hp
    simp only [addL_get] at this
    split at this
    · cases this
    · exact this
  have old : ∀ (L : List (Nm × OO)) (b : Nat), (∀ p ∈ L, ∃ i, p.1 = (b + 1000 * i, σ.gen)) → ∀ nm : Nm, nm.2 ≠ σ.gen → (addL σ.tab L).get nm = σ.tab.get nm := by
    intro L b hL nm hnm
    rw [addL_get]
    cases h : findL L nm with
    | none => rfl
    | some o =>
      obtain ⟨p, hp, e⟩ := findL_mem h
      obtain ⟨i, e'⟩ := hL p hp
      exact absurd (by rw [← e, e']) hnm
  refine ⟨hy2 σ.tab (fun nm h => (old L1 _ hL1 nm h).symm) hf2', ?_, ?_⟩
  · rw [he2 σ rfl]
    refine hy1 _ (fun nm h => old L2 _ hL2 nm h) fun p hp => ?_
    rw [addL_get]
    cases h : findL L2 p.1 with
    | none => exact hf1 p hp
    | some o =>
      obtain ⟨q, hq, e⟩ := findL_mem h
      exact absurd e.symm (hdis p hp q hq)
  · rw [he1 σ rfl, he2 { σ with tab := addL σ.tab L1 } rfl, he2 σ rfl, he1 { σ with tab := addL σ.tab L2 } rfl]
    simp only [addL_swap hdis]
/-! ### what changes older memory that no load of the region reads -/
theorem YA.upds {o : Oper} {σ : S} {d : D} {t : TE} (ha : apOp c o.op = true) (Y : YA P Γ m base c ops o σ d t) :
    ∃ ns L, (∀ n ∈ ns, n.2 ≠ σ.gen ∧ c.hot n.1 = true) ∧ (∀ p ∈ L, p.1 ∈ ns ∨ ((∃ i, p.1 = (nmOf base o + 1000 * i, σ.gen)) ∧ σ.tab.get p.1 = none)) ∧ (∀ σ' : S, σ'.gen = σ.gen → σ'.eff (nmOf base o) t = { σ' with tab := addL (deadT σ'.tab ns) L }) ∧
      ∀ tab' : Tab, (∀ n ∈ ns, tab'.get n = σ.tab.get n) → (∀ p ∈ L, p.1 ∈ ns ∨ tab'.get p.1 = none) → YA P Γ m base c ops o { σ with tab := tab' } d t := by
  obtain ⟨q0, hop, hgo0, ha0⟩ : ∃ q, o.op = .call q ∧ isGoCall o.op = true ∧ c.apCall q = true := by
    cases hop : o.op <;> simp only [apOp, hop, Bool.false_eq_true, Bool.and_eq_true] at ha
    exact ⟨_, rfl, ha.1, ha.2⟩
  have hn := Md.ap_news ha0
  cases Y with
  | skip hg h0 hs => rw [hop] at hs; simp [skipOp] at hs
  | idle hn2 hg h0 hi hq => rw [hn] at hn2; cases hn2
  | pick hg ho hc hd h => rw [hop] at ho; cases ho
  | callP hg ho hgo h => exact ⟨[], [], by simp, by simp, fun σ' _ => rfl, fun tab' _ _ => .callP hg ho hgo h⟩
  | @callE q r T hc hn' hg ho hgo h hl hb ha => rw [hop] at ho; cases ho; rw [ha0] at ha; cases ha
  | @callL g q r hc hn' hg ho hgo h hb ha => rw [hop] at ho; cases ho; rw [ha0] at ha; cases ha
  | @callN q r L hb hg ho hgo h ha => rw [hop] at ho; cases ho; rw [ha0] at ha; cases ha
  | @callD q r L hn' hg ho hgo h =>
    obtain ⟨fid, ds, r0, news, h1, h2, N, ho1, hpc, rfl, rfl⟩ := h
    have e : ∀ p ∈ news, backN [] (nmOf base o) σ.gen p.1 = (nmOf base o + 1000 * p.1.1, σ.gen) := fun p hp => by
      unfold backN; rw [if_neg (by rw [ho1 p hp]; omega)]
    have names : ∀ p ∈ (news.map fun p => (backN [] (nmOf base o) σ.gen p.1, renO (backN [] (nmOf base o) σ.gen) p.2)), ∃ q ∈ news, p.1 = (nmOf base o + 1000 * q.1.1, σ.gen) := by
      intro p hp
      obtain ⟨q, hq, rfl⟩ := List.mem_map.1 hp
      exact ⟨q, hq, e q hq⟩
    refine ⟨[], _, by simp, fun p hp => ?_, fun σ' _ => rfl, fun tab' _ hf => ?_⟩
    · obtain ⟨q, hq, e'⟩ := names p hp
      refine .inr ⟨⟨q.1.1, e'⟩, ?_⟩
      rw [e']
      rcases N.outs q hq with ⟨h0, _⟩ | ⟨_, h0⟩
      · rw [ho1 q hq] at h0; omega
      · exact h0
    · refine .callD hn' hg ho hgo ⟨fid, ds, r0, news, h1, h2, ?_, ho1, hpc, rfl, rfl⟩
      refine ⟨N.nodup, N.args, fun n hn => (by cases hn), fun q hq => .inr ⟨ho1 q hq, ?_⟩, N.res, N.cont⟩
      have := (hf (backN [] (nmOf base o) σ.gen q.1, renO (backN [] (nmOf base o) σ.gen) q.2) (List.mem_map.2 ⟨q, hq, rfl⟩)).resolve_left (by simp)
      rw [e q hq] at this
      exact this
  | @callA q r ns L ha hg ho hgo h =>
    obtain ⟨fid, ds, tin, tout, r0, h1, h2, hns, hcan, N, hpc, rfl, rfl⟩ := h
    have e1 : ∀ p ∈ tout, p.1.2 = 1 → backN ns (nmOf base o) σ.gen p.1 = (nmOf base o + 1000 * p.1.1, σ.gen) := fun p hp h => by
      unfold backN; rw [if_neg (by rw [h]; omega)]
    have e0 : ∀ p ∈ tout, p.1.2 = 0 → p.1.1 < ns.length → backN ns (nmOf base o) σ.gen p.1 ∈ ns := fun p hp h hl => by
      unfold backN; rw [if_pos h, List.getD_eq_getElem?_getD, List.getElem?_eq_getElem hl]; exact List.getElem_mem hl
    refine ⟨ns, _, hns, fun p hp => ?_, fun σ' _ => rfl, fun tab' hT hf => ?_⟩
    · obtain ⟨q, hq, rfl⟩ := List.mem_map.1 hp
      rcases N.outs q hq with ⟨h0, hl⟩ | ⟨h0, hno⟩
      · exact .inl (e0 q hq h0 hl)
      · refine .inr ⟨⟨q.1.1, e1 q hq h0⟩, ?_⟩
        show σ.tab.get (backN ns (nmOf base o) σ.gen q.1) = none
        rw [e1 q hq h0]; exact hno
    · refine .callA ha hg ho hgo ⟨fid, ds, tin, tout, r0, h1, h2, hns, by rw [canonT_congr ns 0 hT]; exact hcan, ?_, hpc, rfl, rfl⟩
      refine ⟨N.nodup, N.args, fun n hn o' ho' => N.objs n hn o' (by rw [← hT n hn]; exact ho'), fun q hq => ?_, N.res, N.cont⟩
      rcases N.outs q hq with h0 | ⟨h0, hno⟩
      · exact .inl h0
      · refine .inr ⟨h0, ?_⟩
        rcases hf (backN ns (nmOf base o) σ.gen q.1, renO (backN ns (nmOf base o) σ.gen) q.2) (List.mem_map.2 ⟨q, hq, rfl⟩) with hin | hin
        · simp only [e1 q hq h0] at hin
          exact absurd rfl (hns _ hin).1
        · simp only [e1 q hq h0] at hin
          exact hin
  | @op g r hg hcl h hs hob he hf hb => rw [hgo0] at hcl; cases hcl
theorem YA.updLoad {oi oj : Oper} {σ : S} {d1 d2 : D} {t1 t2 : TE} (hc : cApp c ops = true) (h1 : apOp c oi.op = true) (h2 : isLoad oj.op = true) (Y1 : YA P Γ m base c ops oi σ d1 t1) :
    (YA P Γ m base c ops oj (σ.eff (nmOf base oi) t1) d2 t2 → teStill t2 = true ∧ YA P Γ m base c ops oj σ d2 t2) ∧
    (YA P Γ m base c ops oj σ d2 t2 → YA P Γ m base c ops oj (σ.eff (nmOf base oi) t1) d2 t2) := by
  obtain ⟨ns, L, hns, hL, heff, _⟩ := Y1.upds h1
  rw [heff σ rfl]
  obtain ⟨ty, ad, hop⟩ : ∃ t a, oj.op = .load t a := by
    cases h : oj.op <;> simp [isLoad, h] at h2
    exact ⟨_, _, rfl⟩
  have key : ∀ ti x, noElp σ.gen x = true → (∀ nm off, x = .ptr nm off → c.hot nm.1 = false) → loadD ti (addL (deadT σ.tab ns) L) x = loadD ti σ.tab x := by
    intro ti x hx hcool
    cases x <;> simp only [noElp, Bool.false_eq_true, decide_eq_true_eq] at hx <;> try rfl
    rename_i q off
    have hnot : ¬ q ∈ ns := fun h => by
      have h3 := (hns q h).2
      rw [hcool q off rfl] at h3; cases h3
    have hq : findL L q = none := by
      cases h : findL L q with
      | none => rfl
      | some o =>
        obtain ⟨p, hp, e⟩ := findL_mem h
        rcases hL p hp with hin | ⟨⟨i, e'⟩, _⟩
        · rw [e] at hin; exact absurd hin hnot
        · rw [e'] at e
          exact absurd (by rw [← e]) hx
    simp only [loadD, addL_get, hq, deadT_at, if_neg hnot]
  have cool : ∀ {ts : Ts}, coolLoad c.hot ts oj.op = true → ∀ nm off, strip (opd ts ad) = .ptr nm off → c.hot nm.1 = false := by
    intro ts h nm off e
    rw [hop] at h
    simp only [coolLoad, e] at h
    simpa using h
  constructor
  · intro Y2
    cases Y2 with
    | skip hg h0 hs => exact ⟨rfl, .skip hg h0 hs⟩
    | idle hn hg h0 hi hq => rw [hop] at hi; simp [idleOp] at hi
    | pick hg ho hc hd h => rw [hop] at ho; cases ho
    | callP hg ho hgo h => rw [hop] at ho; cases ho
    | callE hc hn hg ho hgo h => rw [hop] at ho; cases ho
    | callL hc hn hg ho hgo h => rw [hop] at ho; cases ho
    | callD hn hg ho hgo h => rw [hop] at ho; cases ho
    | callN hb hg ho hgo h => rw [hop] at ho; cases ho
    | callA ha hg ho hgo h => rw [hop] at ho; cases ho
    | @op g r hg hcl h hs hob he hf hb =>
      have hb' := hb.1 hc
      have hco := cool hb.2.2
      rw [hop] at h hb'
      simp only [boxLoad] at hb'
      simp only [aval] at h
      split at h
      · rename_i ti hti
        have e := load_eff h
        refine ⟨by rw [e]; rfl, .op (σ := σ) hg hcl ?_ hs hob he (by rw [e]; trivial) hb⟩
        rw [hop]; simp only [aval, hti]
        exact (key ti (strip (opd σ.ts ad)) hb' hco).symm.trans h
      · simp at h
  · intro Y2
    cases Y2 with
    | skip hg h0 hs => exact .skip hg h0 hs
    | idle hn hg h0 hi hq => rw [hop] at hi; simp [idleOp] at hi
    | pick hg ho hc hd h => rw [hop] at ho; cases ho
    | callP hg ho hgo h => rw [hop] at ho; cases ho
    | callE hc hn hg ho hgo h => rw [hop] at ho; cases ho
    | callL hc hn hg ho hgo h => rw [hop] at ho; cases ho
    | callD hn hg ho hgo h => rw [hop] at ho; cases ho
    | callN hb hg ho hgo h => rw [hop] at ho; cases ho
    | callA ha hg ho hgo h => rw [hop] at ho; cases ho
    | @op g r hg hcl h hs hob he hf hb =>
      have hb' := hb.1 hc
      have hco := cool hb.2.2
      rw [hop] at h hb'
      simp only [boxLoad] at hb'
      simp only [aval] at h
      split at h
      · rename_i ti hti
        have e := load_eff h
        refine .op (σ := { σ with tab := addL (deadT σ.tab ns) L }) hg hcl ?_ hs hob he (by rw [e]; trivial) hb
        rw [hop]; simp only [aval, hti]
        exact (key ti (strip (opd σ.ts ad)) hb' hco).trans h
      · simp at h
theorem near_names {base : Nat} {oi oj : Oper} (hnr : near oi oj = true) (i j g : Nat) : ((nmOf base oi + 1000 * i, g) : Nm) ≠ (nmOf base oj + 1000 * j, g) := by
  intro e
  simp only [near] at hnr
  cases hi : oi.dst with
  | none => simp [hi] at hnr
  | some a =>
    cases hj : oj.dst with
    | none => simp [hi, hj] at hnr
    | some b =>
      simp [hi, hj] at hnr
      simp only [nmOf, hi, hj, Option.getD_some, Prod.mk.injEq] at e
      obtain ⟨⟨k1, k2⟩, k3⟩ := hnr
      exact near_ne (base := base) (a := a) (b := b) k1 k2 k3 e.1
theorem near_symm {oi oj : Oper} (h : near oi oj = true) : near oj oi = true := by
  simp only [near] at h ⊢
  cases hi : oi.dst with
  | none => simp [hi] at h
  | some a =>
    cases hj : oj.dst with
    | none => simp [hi, hj] at h
    | some b =>
      simp [hi, hj] at h ⊢
      exact ⟨⟨fun e => h.1.1 e.symm, h.2⟩, h.1.2⟩
theorem addL_upd {T : Tab} {ns : List Nm} {L1 L2 : List (Nm × OO)} (h1 : ∀ p ∈ L1, ¬ p.1 ∈ ns) (hd : ∀ p ∈ L1, ∀ q ∈ L2, p.1 ≠ q.1) : addL (deadT (addL T L1) ns) L2 = addL (addL (deadT T ns) L2) L1 := by
  refine tab_ext fun n => ?_
  simp only [addL_get, deadT_at]
  cases e1 : findL L1 n with
  | none => cases findL L2 n <;> rfl
  | some o1 =>
    obtain ⟨p, hp, e⟩ := findL_mem e1
    have hn : ¬ n ∈ ns := by rw [← e]; exact h1 p hp
    cases e2 : findL L2 n with
    | none => simp [hn]
    | some o2 =>
      obtain ⟨q, hq, e'⟩ := findL_mem e2
      exact absurd (e.trans e'.symm) (hd p hp q hq)
theorem YA.adderUpd {oi oj : Oper} {σ : S} {d1 d2 : D} {t1 t2 : TE} (hn : c.isNews = true) (h1 : adder Γ c oi = true) (h2 : apOp c oj.op = true) (hnr : near oi oj = true) :
    (YA P Γ m base c ops oi σ d1 t1 → YA P Γ m base c ops oj (σ.eff (nmOf base oi) t1) d2 t2 →
      YA P Γ m base c ops oj σ d2 t2 ∧ YA P Γ m base c ops oi (σ.eff (nmOf base oj) t2) d1 t1 ∧ (σ.eff (nmOf base oi) t1).eff (nmOf base oj) t2 = (σ.eff (nmOf base oj) t2).eff (nmOf base oi) t1) ∧
    (YA P Γ m base c ops oj σ d2 t2 → YA P Γ m base c ops oi (σ.eff (nmOf base oj) t2) d1 t1 →
      YA P Γ m base c ops oi σ d1 t1 ∧ YA P Γ m base c ops oj (σ.eff (nmOf base oi) t1) d2 t2 ∧ (σ.eff (nmOf base oj) t2).eff (nmOf base oi) t1 = (σ.eff (nmOf base oi) t1).eff (nmOf base oj) t2) := by
  constructor
  · intro Y1 Y2
    obtain ⟨L1, hL1, hf1, he1, hy1⟩ := Y1.adds hn h1
    rw [he1 σ rfl] at Y2
    obtain ⟨ns, L2, hns, hL2, he2, hy2⟩ := Y2.upds h2
    have hns' : ∀ n ∈ ns, n.2 ≠ σ.gen ∧ c.hot n.1 = true := hns
    have hout : ∀ p ∈ L1, ¬ p.1 ∈ ns := fun p hp hin => by
      obtain ⟨i, e⟩ := hL1 p hp
      have := (hns' _ hin).1
      rw [e] at this; exact this rfl
    have hdis : ∀ p ∈ L1, ∀ q ∈ L2, p.1 ≠ q.1 := fun p hp q hq e => by
      obtain ⟨i, e1⟩ := hL1 p hp
      rcases hL2 q hq with hin | ⟨⟨j, e2⟩, _⟩
      · rw [← e] at hin; exact hout p hp hin
      · rw [e1, e2] at e; exact near_names hnr i j σ.gen e
    have same : ∀ n ∈ ns, σ.tab.get n = (addL σ.tab L1).get n := fun n hin => by
      rw [addL_get]
      cases h : findL L1 n with
      | none => rfl
      | some o =>
        obtain ⟨p, hp, e⟩ := findL_mem h
        exact absurd (by rw [e]; exact hin) (hout p hp)
    refine ⟨hy2 σ.tab same (fun p hp => ?_), ?_, ?_⟩
    · rcases hL2 p hp with hin | ⟨_, hno⟩
      · exact .inl hin
      · right
        simp only [addL_get] at hno
        split at hno
        · cases hno
        · exact hno
    · rw [he2 σ rfl]
      refine hy1 _ fun p hp => ?_
      rw [addL_get]
      cases h : findL L2 p.1 with
      | none => rw [deadT_at, if_neg (hout p hp)]; exact hf1 p hp
      | some o =>
        obtain ⟨q, hq, e⟩ := findL_mem h
        exact absurd e.symm (hdis p hp q hq)
    · rw [he1 σ rfl, he2 { σ with tab := addL σ.tab L1 } rfl, he2 σ rfl, he1 { σ with tab := addL (deadT σ.tab ns) L2 } rfl]
      simp only [addL_upd hout hdis]
  · intro Y2 Y1
    obtain ⟨ns, L2, hns, hL2, he2, hy2⟩ := Y2.upds h2
    rw [he2 σ rfl] at Y1
    obtain ⟨L1, hL1, hf1, he1, hy1⟩ := Y1.adds hn h1
    have hL1' : ∀ p ∈ L1, ∃ i, p.1 = (nmOf base oi + 1000 * i, σ.gen) := hL1
    have hout : ∀ p ∈ L1, ¬ p.1 ∈ ns := fun p hp hin => by
      obtain ⟨i, e⟩ := hL1' p hp
      have := (hns _ hin).1
      rw [e] at this; exact this rfl
    have hdis : ∀ p ∈ L1, ∀ q ∈ L2, p.1 ≠ q.1 := fun p hp q hq e => by
      obtain ⟨i, e1⟩ := hL1' p hp
      rcases hL2 q hq with hin | ⟨⟨j, e2⟩, _⟩
      · rw [← e] at hin; exact hout p hp hin
      · rw [e1, e2] at e; exact near_names hnr i j σ.gen e
    have hfr : ∀ p ∈ L1, σ.tab.get p.1 = none := fun p hp => by
      have := hf1 p hp
      simp only [addL_get] at this
      split at this
      · cases this
      · rw [deadT_at, if_neg (hout p hp)] at this; exact this
    have Y1σ : YA P Γ m base c ops oi σ d1 t1 := hy1 σ.tab hfr
    refine ⟨Y1σ, ?_, ?_⟩
    · rw [he1 σ rfl]
      refine hy2 _ (fun n hin => ?_) (fun p hp => ?_)
      · rw [addL_get]
        cases h : findL L1 n with
        | none => rfl
        | some o =>
          obtain ⟨p, hp, e⟩ := findL_mem h
          exact absurd (by rw [e]; exact hin) (hout p hp)
      · rcases hL2 p hp with hin | ⟨_, hno⟩
        · exact .inl hin
        · right
          rw [addL_get]
          cases h : findL L1 p.1 with
          | none => exact hno
          | some o =>
            obtain ⟨q, hq, e⟩ := findL_mem h
            exact absurd e (hdis q hq p hp)
    · rw [he2 σ rfl, he1 { σ with tab := addL (deadT σ.tab ns) L2 } rfl, he1 σ rfl, he2 { σ with tab := addL σ.tab L1 } rfl]
      simp only [addL_upd hout hdis]
/-! ### a row that is taken out of a map, beside loads and new objects -/
theorem lookrD_congr {tab tab' : Tab} {nm : Nm} {ti : TI} {x i : D} (h : ∀ n, x = .mp n → tab'.get n = tab.get n) : lookrD Γ tab' nm ti x i = lookrD Γ tab nm ti x i := by
  cases x with
  | mp n => simp only [lookrD, h n rfl]
  | _ => rfl
theorem lookrD_eff' {tab : Tab} {ti : TI} {x i : D} {r : AR} {nm : Nm} (h : lookrD Γ tab nm ti x i = some r) : r.eff = .none ∨ ∃ n kk ks s z rows o' kk' ks' s' z' rows' j', x = .mp n ∧ tab.get n = some (.rmap kk ks s z rows none) ∧ r.eff = .split n (.rmap kk' ks' s' z' rows' j') o' := by
  unfold lookrD at h
  split at h
  · split at h
    · split at h
      · split at h
        · split at h
          · split at h
            · split at h
              · exact .inl (okR_some h).1
              · simp at h
            · split at h
              · rename_i hT
                split at h
                · split at h
                  · exact .inl (okR_some h).1
                  · simp only [Option.some.injEq] at h; subst h
                    exact .inr ⟨_, _, _, _, _, _, _, _, _, _, _, _, _, rfl, hT, rfl⟩
                · simp at h
              · simp at h
            · simp at h
          · simp at h
        · simp at h
      · simp at h
    · simp at h
  · simp at h
theorem YA.take {o : Oper} {σ : S} {d : D} {t : TE} (hc : cApp c ops = true) (h : isTake Γ o.op = true) (Y : YA P Γ m base c ops o σ d t) :
    (teStill t = true ∨ ∃ n kk ks s z rows o' kk' ks' s' z' rows' j', t = .op (.split n (.rmap kk' ks' s' z' rows' j') o') ∧ n.2 ≠ σ.gen ∧ σ.tab.get n = some (.rmap kk ks s z rows none) ∧ σ.tab.get (nmOf base o, σ.gen) = none) ∧
    ∀ tab' : Tab, (∀ n, n.2 ≠ σ.gen → tab'.get n = σ.tab.get n) → (tab'.get (nmOf base o, σ.gen) = none ∨ teStill t = true) → YA P Γ m base c ops o { σ with tab := tab' } d t := by
  obtain ⟨ty, x, ix, ok, hop, ti, hti, hrm⟩ : ∃ ty x ix ok, o.op = .lookup ty x ix ok ∧ ∃ ti, Γ.get ty = some ti ∧ rowsMap Γ ti = true := by
    cases hop : o.op <;> simp only [isTake, hop, Bool.false_eq_true] at h
    rename_i ty x ix ok
    refine ⟨ty, x, ix, ok, rfl, ?_⟩
    split at h
    · rename_i ti hti; exact ⟨ti, hti, h⟩
    · simp at h
  cases Y with
  | skip hg h0 hs => rw [hop] at hs; simp [skipOp] at hs
  | idle hn hg h0 hi hq => rw [hop] at hi; simp [idleOp] at hi
  | pick hg ho hc hd h => rw [hop] at ho; cases ho
  | callP hg ho hgo h => rw [hop] at ho; cases ho
  | callE hc hn hg ho hgo h => rw [hop] at ho; cases ho
  | callL hc hn hg ho hgo h => rw [hop] at ho; cases ho
  | callD hn hg ho hgo h => rw [hop] at ho; cases ho
  | callN hb hg ho hgo h => rw [hop] at ho; cases ho
  | callA ha hg ho hgo h => rw [hop] at ho; cases ho
  | @op g r hg hcl h hs hob he hf hb =>
    have hb' := hb.1 hc
    rw [hop] at hb'
    simp only [boxLoad] at hb'
    have hold : ∀ n, strip (opd σ.ts x) = .mp n → n.2 ≠ σ.gen := fun n e => by rw [e] at hb'; simpa [oldMap] using hb'
    have h0 := h
    rw [hop] at h
    simp only [aval, hti, if_pos hrm] at h
    split at h
    · rename_i hok
      refine ⟨?_, fun tab' ht hn => .op (σ := { σ with tab := tab' }) hg hcl ?_ hs hob he ?_ hb⟩
      · rcases lookrD_eff' h with e | ⟨n, kk, ks, s, z, rows, o', kk', ks', s', z', rows', j', e1, e2, e3⟩
        · exact .inl (by rw [e]; rfl)
        · refine .inr ⟨n, kk, ks, s, z, rows, o', kk', ks', s', z', rows', j', by rw [e3], hold n e1, e2, ?_⟩
          rw [e3] at hf; exact hf
      · rw [hop]
        simp only [aval, hti, if_pos hrm, if_pos hok]
        rw [← h]
        exact lookrD_congr fun n e => ht n (hold n e)
      · rcases lookrD_eff' h with e | ⟨n, kk, ks, s, z, rows, o', kk', ks', s', z', rows', j', e1, e2, e3⟩
        · rw [e]; trivial
        · rw [e3] at hn ⊢
          exact hn.resolve_right (by simp [teStill])
    · simp at h
theorem loadD_split {ti : TI} {tab : Tab} {own n : Nm} {kk ks s z rows kk' ks' s' z' rows' j'} {o' : OO} {x : D} {gen : Nat} (hx : noElp gen x = true) (ho : own.2 = gen) (hT : tab.get n = some (.rmap kk ks s z rows none)) :
    loadD ti (applyE tab own (.split n (.rmap kk' ks' s' z' rows' j') o')) x = loadD ti tab x := by
  cases x with
  | ptr nm off =>
    simp only [noElp, decide_eq_true_eq] at hx
    have h1 : own ≠ nm := fun e => hx (by rw [← e]; exact ho)
    simp only [loadD, applyE, Tab.get_set, if_neg h1]
    by_cases h2 : n = nm
    · subst h2; simp [hT]
    · simp [h2]
  | elp nm i off => simp [noElp] at hx
  | _ => rfl
theorem load_read {op : Op} (hc : cApp c ops = true) (h : isLoad op = true) : kindOf Γ c op = .read := by
  have hf : c.isFrz = false := by cases c <;> simp [cApp, Md.isNews] at hc; rfl
  cases op <;> simp [isLoad] at h; simp [kindOf, hf]
theorem YA.loadTake {oi oj : Oper} {σ : S} {d1 d2 : D} {t1 t2 : TE} (hc : cApp c ops = true) (h1 : isLoad oi.op = true) (h2 : isTake Γ oj.op = true) (Y2 : YA P Γ m base c ops oj σ d2 t2) :
    (YA P Γ m base c ops oi σ d1 t1 → teStill t1 = true ∧ YA P Γ m base c ops oi (σ.eff (nmOf base oj) t2) d1 t1) ∧
    (YA P Γ m base c ops oi (σ.eff (nmOf base oj) t2) d1 t1 → teStill t1 = true ∧ YA P Γ m base c ops oi σ d1 t1) := by
  have hrk : ∀ {σ : S}, YA P Γ m base c ops oi σ d1 t1 → teStill t1 = true := fun Y1 => (Y1.readKind (by
    have hf : c.isFrz = false := by cases c <;> simp [cApp, Md.isNews] at hc; rfl
    cases h : oi.op <;> simp [isLoad, h] at h1; simp [kindOf, hf])).1
  rcases (YA.take hc h2 Y2).1 with hs | ⟨n, kk, ks, s, z, rows, o', kk', ks', s', z', rows', j', rfl, hn, hT, hno⟩
  · rw [still_eff hs]; exact ⟨fun Y => ⟨hrk Y, Y⟩, fun Y => ⟨hrk Y, Y⟩⟩
  obtain ⟨ty, ad, hop⟩ : ∃ t a, oi.op = .load t a := by
    cases h : oi.op <;> simp [isLoad, h] at h1
    exact ⟨_, _, rfl⟩
  constructor
  · intro Y1
    refine ⟨hrk Y1, ?_⟩
    cases Y1 with
    | skip hg h0 hs => exact .skip hg h0 hs
    | idle hn hg h0 hi hq => rw [hop] at hi; simp [idleOp] at hi
    | pick hg ho hc hd h => rw [hop] at ho; cases ho
    | callP hg ho hgo h => rw [hop] at ho; cases ho
    | callE hc hn hg ho hgo h => rw [hop] at ho; cases ho
    | callL hc hn hg ho hgo h => rw [hop] at ho; cases ho
    | callD hn hg ho hgo h => rw [hop] at ho; cases ho
    | callN hb hg ho hgo h => rw [hop] at ho; cases ho
    | callA ha hg ho hgo h => rw [hop] at ho; cases ho
    | @op g r hg hcl h hs hob he hf hb =>
      have hb' := hb.1 hc
      rw [hop] at h hb'
      simp only [boxLoad] at hb'
      simp only [aval] at h
      split at h
      · rename_i ti hti
        have e := load_eff h
        refine .op (σ := σ.eff (nmOf base oj) (.op (.split n (.rmap kk' ks' s' z' rows' j') o'))) hg hcl ?_ hs hob he (by rw [e]; trivial) hb
        rw [hop]; simp only [aval, hti]
        simp only [S.eff]
        rw [loadD_split hb' rfl hT]
        exact h
      · simp at h
  · intro Y1
    refine ⟨hrk Y1, ?_⟩
    cases Y1 with
    | skip hg h0 hs => exact .skip hg h0 hs
    | idle hn hg h0 hi hq => rw [hop] at hi; simp [idleOp] at hi
    | pick hg ho hc hd h => rw [hop] at ho; cases ho
    | callP hg ho hgo h => rw [hop] at ho; cases ho
    | callE hc hn hg ho hgo h => rw [hop] at ho; cases ho
    | callL hc hn hg ho hgo h => rw [hop] at ho; cases ho
    | callD hn hg ho hgo h => rw [hop] at ho; cases ho
    | callN hb hg ho hgo h => rw [hop] at ho; cases ho
    | callA ha hg ho hgo h => rw [hop] at ho; cases ho
    | @op g r hg hcl h hs hob he hf hb =>
      have hb' := hb.1 hc
      rw [hop] at h hb'
      simp only [boxLoad] at hb'
      simp only [aval] at h
      split at h
      · rename_i ti hti
        have e := load_eff h
        simp only [S.eff] at h hb'
        rw [loadD_split hb' rfl hT] at h
        refine .op (σ := σ) hg hcl ?_ hs hob he (by rw [e]; trivial) hb
        rw [hop]; simp only [aval, hti]
        exact h
      · simp at h
theorem YA.newTake {oi oj : Oper} {σ : S} {d1 d2 : D} {t1 t2 : TE} (hc : cApp c ops = true) (h1 : kindOf Γ c oi.op = .new) (h2 : isTake Γ oj.op = true) (hne : nmOf base oi ≠ nmOf base oj) :
    (YA P Γ m base c ops oi σ d1 t1 → YA P Γ m base c ops oj (σ.eff (nmOf base oi) t1) d2 t2 →
      YA P Γ m base c ops oj σ d2 t2 ∧ YA P Γ m base c ops oi (σ.eff (nmOf base oj) t2) d1 t1 ∧ (σ.eff (nmOf base oi) t1).eff (nmOf base oj) t2 = (σ.eff (nmOf base oj) t2).eff (nmOf base oi) t1) ∧
    (YA P Γ m base c ops oj σ d2 t2 → YA P Γ m base c ops oi (σ.eff (nmOf base oj) t2) d1 t1 →
      YA P Γ m base c ops oi σ d1 t1 ∧ YA P Γ m base c ops oj (σ.eff (nmOf base oi) t1) d2 t2 ∧ (σ.eff (nmOf base oj) t2).eff (nmOf base oi) t1 = (σ.eff (nmOf base oi) t1).eff (nmOf base oj) t2) := by
  have hne2 : (nmOf base oi, σ.gen) ≠ (nmOf base oj, σ.gen) := fun e => hne (by simpa using e)
  have eswap : ∀ (oo : OO) n o0 o1, n.2 ≠ σ.gen → (σ.eff (nmOf base oi) (.op (.new oo))).eff (nmOf base oj) (.op (.split n o0 o1)) = (σ.eff (nmOf base oj) (.op (.split n o0 o1))).eff (nmOf base oi) (.op (.new oo)) := by
    intro oo n o0 o1 hn
    simp only [S.eff, S.mk.injEq, true_and, and_true, applyE]
    funext q
    simp only [Tab.set]
    by_cases e1 : (nmOf base oi, σ.gen) = q
    · subst e1
      have : n ≠ (nmOf base oi, σ.gen) := fun e => hn (by rw [e])
      simp [Ne.symm hne2, this]
    · simp [e1]
  constructor
  · intro Y1 Y2
    obtain ⟨hn1, hi1⟩ := Y1.newKind h1
    obtain ⟨ht2, hi2⟩ := YA.take hc h2 Y2
    rcases hn1 with rfl | ⟨oo, rfl, hno⟩
    · refine ⟨Y2, ?_, by cases t2 <;> rfl⟩
      have := hi1 (σ.eff (nmOf base oj) t2).tab (.inr rfl)
      have e : σ.eff (nmOf base oj) t2 = { σ with tab := (σ.eff (nmOf base oj) t2).tab } := by cases t2 <;> rfl
      rw [e]; exact this
    · have Y2σ : YA P Γ m base c ops oj σ d2 t2 := by
        have := hi2 σ.tab (fun n hn => by
          simp only [S.eff, applyE]
          rw [Tab.get_set, if_neg]
          rintro rfl; exact hn rfl) (by
          rcases ht2 with hs | ⟨n, kk, ks, s, z, rows, o', kk', ks', s', z', rows', j', rfl, hn, hT, hno2⟩
          · exact .inr hs
          · left
            simp only [S.eff, applyE] at hno2
            rwa [Tab.get_set, if_neg hne2] at hno2)
        exact this
      refine ⟨Y2σ, ?_, ?_⟩
      · rcases (YA.take hc h2 Y2σ).1 with hs | ⟨n, kk, ks, s, z, rows, o', kk', ks', s', z', rows', j', rfl, hn, hT, hno2⟩
        · rw [still_eff hs]; exact Y1
        · refine hi1 _ (.inl ?_)
          simp only [S.eff, applyE]
          rw [Tab.get_set, if_neg (Ne.symm hne2), Tab.get_set, if_neg (fun e => hn (by rw [e]))]
          exact hno
      · rcases (YA.take hc h2 Y2σ).1 with hs | ⟨n, kk, ks, s, z, rows, o', kk', ks', s', z', rows', j', rfl, hn, hT, hno2⟩
        · rw [still_eff hs, still_eff hs]
        · exact eswap oo n _ _ hn
  · intro Y2 Y1
    obtain ⟨hn1, hi1⟩ := Y1.newKind h1
    obtain ⟨ht2, hi2⟩ := YA.take hc h2 Y2
    have Y1σ : YA P Γ m base c ops oi σ d1 t1 := by
      have e : σ = { (σ.eff (nmOf base oj) t2) with tab := σ.tab } := by cases t2 <;> rfl
      rw [e]
      refine hi1 σ.tab ?_
      rcases hn1 with rfl | ⟨oo, rfl, hno⟩
      · exact .inr rfl
      · left
        have hg : (σ.eff (nmOf base oj) t2).gen = σ.gen := by cases t2 <;> rfl
        rw [hg] at hno ⊢
        rcases ht2 with hs | ⟨n, kk, ks, s, z, rows, o', kk', ks', s', z', rows', j', rfl, hn, hT, hno2⟩
        · rw [still_eff hs] at hno; exact hno
        · simp only [S.eff, applyE] at hno
          rw [Tab.get_set, if_neg (Ne.symm hne2), Tab.get_set, if_neg (fun e => hn (by rw [e]))] at hno
          exact hno
    refine ⟨Y1σ, ?_, ?_⟩
    · obtain ⟨hn1', _⟩ := Y1σ.newKind h1
      rcases hn1' with rfl | ⟨oo, rfl, hno⟩
      · exact Y2
      · have e : σ.eff (nmOf base oi) (.op (.new oo)) = { σ with tab := σ.tab.set (nmOf base oi, σ.gen) oo } := rfl
        rw [e]
        refine hi2 _ (fun n hn => ?_) ?_
        · rw [Tab.get_set, if_neg]
          rintro rfl; exact hn rfl
        · rcases ht2 with hs | ⟨n, kk, ks, s, z, rows, o', kk', ks', s', z', rows', j', rfl, hn, hT, hno2⟩
          · exact .inr hs
          · left; rw [Tab.get_set, if_neg hne2]; exact hno2
    · obtain ⟨hn1', _⟩ := Y1σ.newKind h1
      rcases hn1' with rfl | ⟨oo, rfl, hno⟩
      · cases t2 <;> rfl
      · rcases ht2 with hs | ⟨n, kk, ks, s, z, rows, o', kk', ks', s', z', rows', j', rfl, hn, hT, hno2⟩
        · rw [still_eff hs, still_eff hs]
        · exact (eswap oo n _ _ hn).symm
end
end Go.Eng
namespace Go.Eng
variable [HasG]
set_option linter.unusedSectionVars false
set_option linter.unusedVariables false
set_option linter.unusedSimpArgs false

theorem Ts.up_comm (ts : Ts) {t u : Nat} (h : t ≠ u) (d e : D) : (ts.up t d).up u e = (ts.up u e).up t d := by
  funext x
  simp only [Ts.up]
  by_cases h1 : u = x
  · subst h1; simp [h]
  · simp [h1]
theorem put_comm (σ : S) {x y : Option Tmp} (d e : D) (h : ∀ t, x = some t → y ≠ some t) : (σ.put x d).put y e = (σ.put y e).put x d := by
  cases x with
  | none => rfl
  | some t =>
    cases y with
    | none => rfl
    | some u =>
      have hne : t ≠ u := fun he => h t rfl (he ▸ rfl)
      simp [S.put, Ts.up_comm _ hne]

section
variable {P : Program} {Γ : Ctx} {m : Bool} {base : Nat} {c : Md} {ops : Array Oper}

theorem comm {oi oj : Oper} {σ : S} {d1 d2 : D} {t1 t2 : TE} (hap : oi.apart ops oj = true) (hk : kComm Γ c ops oi oj = true)
    (Y1 : YA P Γ m base c ops oi σ d1 t1) (Y2 : YA P Γ m base c ops oj ((σ.eff (nmOf base oi) t1).put oi.dst d1) d2 t2) :
    YA P Γ m base c ops oj σ d2 t2 ∧ YA P Γ m base c ops oi ((σ.eff (nmOf base oj) t2).put oj.dst d2) d1 t1 ∧
      (((σ.eff (nmOf base oi) t1).put oi.dst d1).eff (nmOf base oj) t2).put oj.dst d2 = (((σ.eff (nmOf base oj) t2).put oj.dst d2).eff (nmOf base oi) t1).put oi.dst d1 := by
  obtain ⟨h1, h2, h3⟩ := Oper.apart_spec hap
  have A1 : ∀ σ : S, Agree ops oj (σ.put oi.dst d1).ts σ.ts := fun σ => agree_put h1
  have A2 : ∀ σ : S, Agree ops oi σ.ts (σ.put oj.dst d2).ts := fun σ => by
    have := agree_put (ops := ops) (σ := σ) (o := oi) (dst := oj.dst) (d := d2) h3
    exact ⟨fun x hx => (this.opr x hx).symm, this.gd.symm⟩
  have ptab : ∀ (σ : S) (x : Option Tmp) (d : D), (σ.put x d).tab = σ.tab := fun σ x d => by cases x <;> rfl
  have pgen : ∀ (σ : S) (x : Option Tmp) (d : D), (σ.put x d).gen = σ.gen := fun σ x d => by cases x <;> rfl
  have Y2' : YA P Γ m base c ops oj (σ.eff (nmOf base oi) t1) d2 t2 := Y2.ts (by simpa using A1 _) (by rw [ptab]) (by rw [pgen])
  have fin : ∀ {X : S}, YA P Γ m base c ops oi X d1 t1 → YA P Γ m base c ops oi (X.put oj.dst d2) d1 t1 := fun {X} Y => Y.ts (A2 X) (by rw [ptab]) (by rw [pgen])
  have effts : ∀ k t, (σ.eff k t).ts = σ.ts := fun k t => by cases t <;> rfl
  have effgen : ∀ k t, (σ.eff k t).gen = σ.gen := fun k t => by cases t <;> rfl
  have swap : (σ.eff (nmOf base oi) t1).eff (nmOf base oj) t2 = (σ.eff (nmOf base oj) t2).eff (nmOf base oi) t1 → (((σ.eff (nmOf base oi) t1).put oi.dst d1).eff (nmOf base oj) t2).put oj.dst d2 = (((σ.eff (nmOf base oj) t2).put oj.dst d2).eff (nmOf base oi) t1).put oi.dst d1 := by
    intro he
    rw [eff_put, eff_put, he, put_comm _ _ _ h2]
  simp only [kComm, Bool.or_eq_true, Bool.and_eq_true] at hk
  have hnn : oi.dst.isSome = true → oj.dst.isSome = true → nmOf base oi ≠ nmOf base oj := fun hdi hdj => by
    obtain ⟨x, hx⟩ := Option.isSome_iff_exists.1 hdi
    obtain ⟨y, hy⟩ := Option.isSome_iff_exists.1 hdj
    intro e
    have : x = y := by simp [nmOf, hx, hy] at e; exact e
    exact h2 x hx (by rw [hy, this])
  rcases hk with hk | ⟨hca, hap⟩
  rotate_left
  · have hn : c.isNews = true := hca
    rcases hap with ((⟨h1l, h2a⟩ | ⟨h1a, h2l⟩) | ⟨⟨h1n, h2a⟩, hnr⟩) | ⟨⟨h1a, h2n⟩, hnr⟩
    · have hs : teStill t1 = true := (Y1.readKind (load_read hca h1l)).1
      rw [still_eff hs] at Y2'
      exact ⟨Y2', fin ((YA.updLoad hca h2a h1l Y2').2 Y1), swap (by rw [still_eff hs, still_eff hs])⟩
    · obtain ⟨k1, k2⟩ := (YA.updLoad hca h1a h2l Y1).1 Y2'
      exact ⟨k2, fin (by rw [still_eff k1]; exact Y1), swap (by rw [still_eff k1, still_eff k1])⟩
    · obtain ⟨k1, k2, k3⟩ := (YA.adderUpd hn h1n h2a hnr).1 Y1 Y2'
      exact ⟨k1, fin k2, swap k3⟩
    · obtain ⟨k1, k2, k3⟩ := (YA.adderUpd hn h2n h1a (near_symm hnr)).2 Y1 Y2'
      exact ⟨k1, fin k2, swap k3⟩
  rcases hk with hk | hlc
  rotate_left
  · simp only [lentComm, Bool.or_eq_true, Bool.and_eq_true] at hlc
    have e1 : σ.eff (nmOf base oi) t1 = σ := by
      rcases hlc with (⟨h1l, h2l⟩ | ⟨h1l, h2l⟩) | ⟨h1l, h2l⟩
      · exact Y1.loadKind (lentOp_md h2l).2.1 h1l _
      · exact Y1.lentKind h1l _
      · exact Y1.lentKind h1l _
    rw [e1] at Y2'
    have e2 : σ.eff (nmOf base oj) t2 = σ := by
      rcases hlc with (⟨h1l, h2l⟩ | ⟨h1l, h2l⟩) | ⟨h1l, h2l⟩
      · exact Y2'.lentKind h2l _
      · exact Y2'.loadKind (lentOp_md h1l).2.1 h2l _
      · exact Y2'.lentKind h2l _
    exact ⟨Y2', fin (by rw [e2]; exact Y1), swap (by simp only [e1, e2])⟩
  rcases hk with ((hk | ⟨⟨⟨h1a, h2n⟩, hdi⟩, hdj⟩) | ⟨hca, (((⟨h1l, h2a⟩ | ⟨h1a, h2l⟩) | ⟨h1n, h2l⟩) | ⟨h1l, h2n⟩) | ⟨⟨h1n, h2n⟩, hnr⟩⟩) | ⟨hca, hk⟩
  rotate_right
  · simp only [takeComm, Bool.or_eq_true, Bool.and_eq_true] at hk
    rcases hk with (⟨h1l, h2t⟩ | ⟨h1t, h2l⟩) | ⟨⟨h1n, h2t⟩ | ⟨h1t, h2n⟩, hdi, hdj⟩
    · have hs : teStill t1 = true := (Y1.readKind (load_read hca h1l)).1
      rw [still_eff hs] at Y2'
      have Yi := (YA.loadTake (d1 := d1) (t1 := t1) hca h1l h2t Y2').1 Y1
      exact ⟨Y2', fin Yi.2, swap (by rw [still_eff hs, still_eff hs])⟩
    · have Yj := (YA.loadTake (d1 := d2) (t1 := t2) hca h2l h1t Y1).2 Y2'
      exact ⟨Yj.2, fin (by rw [still_eff Yj.1]; exact Y1), swap (by rw [still_eff Yj.1, still_eff Yj.1])⟩
    · have hkn : kindOf Γ c oi.op = .new := by cases h : kindOf Γ c oi.op <;> simp [h, isNew] at h1n; rfl
      obtain ⟨k1, k2, k3⟩ := (YA.newTake hca hkn h2t (hnn hdi hdj)).1 Y1 Y2'
      exact ⟨k1, fin k2, swap k3⟩
    · have hkn : kindOf Γ c oj.op = .new := by cases h : kindOf Γ c oj.op <;> simp [h, isNew] at h2n; rfl
      obtain ⟨k1, k2, k3⟩ := (YA.newTake hca hkn h1t (Ne.symm (hnn hdi hdj))).2 Y1 Y2'
      exact ⟨k1, fin k2, swap k3⟩
  rotate_left
  · have hkn : kindOf Γ c oj.op = .new := by cases h : kindOf Γ c oj.op <;> simp [h, isNew] at h2n; rfl
    have hne : nmOf base oi ≠ nmOf base oj := by
      obtain ⟨x, hx⟩ := Option.isSome_iff_exists.1 hdi
      obtain ⟨y, hy⟩ := Option.isSome_iff_exists.1 hdj
      intro e
      have : x = y := by simp [nmOf, hx, hy] at e; exact e
      exact h2 x hx (by rw [hy, this])
    obtain ⟨k1, k2, k3⟩ := YA.appNew h1a hkn hne Y1 Y2'
    exact ⟨k1, fin k2, swap k3⟩
  · have Yi := (YA.loadApp (d1 := d1) (t1 := t1) hca h1l h2a (σ := σ) (oi := oi) (oj := oj) (d2 := d2) (t2 := t2) ?_).1 Y1
    · refine ⟨?_, fin Yi.2, swap (by rw [still_eff Yi.1, still_eff Yi.1])⟩
      rw [still_eff Yi.1] at Y2'; exact Y2'
    · have hs : teStill t1 = true := (Y1.readKind (load_read hca h1l)).1
      rw [still_eff hs] at Y2'; exact Y2'
  · have Yj := (YA.loadApp (d1 := d2) (t1 := t2) hca h2l h1a (σ := σ) (oi := oj) (oj := oi) Y1).2 Y2'
    refine ⟨Yj.2, fin (by rw [still_eff Yj.1]; exact Y1), swap (by rw [still_eff Yj.1, still_eff Yj.1])⟩
  · obtain ⟨k1, k2⟩ := (YA.adderLoad hca h1n h2l Y1 (d2 := d2) (t2 := t2)).1 Y2'
    exact ⟨k2, fin (by rw [still_eff k1]; exact Y1), swap (by rw [still_eff k1, still_eff k1])⟩
  · have hs : teStill t1 = true := (Y1.readKind (load_read hca h1l)).1
    rw [still_eff hs] at Y2'
    exact ⟨Y2', fin ((YA.adderLoad hca h2n h1l Y2' (d2 := d1) (t2 := t1)).2 Y1), swap (by rw [still_eff hs, still_eff hs])⟩
  · obtain ⟨k1, k2, k3⟩ := YA.adderAdder hca h1n h2n hnr Y1 Y2'
    exact ⟨k1, fin k2, swap k3⟩
  unfold kComm0 at hk
  split at hk
  · -- i pure
    rename_i hki
    obtain ⟨hs, hp⟩ := Y1.pureKind hki
    rw [still_eff hs] at Y2'
    refine ⟨Y2', fin ?_, swap (by rw [still_eff hs, still_eff hs])⟩
    have := hp (σ.eff (nmOf base oj) t2).tab
    exact YA.ts (σ := { σ with tab := (σ.eff (nmOf base oj) t2).tab }) (σ' := σ.eff (nmOf base oj) t2) ⟨fun _ _ => by rw [effts], by rw [effts]⟩ rfl (effgen _ _) this
  · -- j pure
    rename_i hkj _
    obtain ⟨hs, hp⟩ := Y2'.pureKind hkj
    refine ⟨?_, fin (by rw [still_eff hs]; exact Y1), swap (by rw [still_eff hs, still_eff hs])⟩
    have := hp σ.tab
    exact YA.ts (σ := { σ.eff (nmOf base oi) t1 with tab := σ.tab }) (σ' := σ) ⟨fun _ _ => by simp only [effts], by simp only [effts]⟩ rfl (effgen _ _).symm this
  · rename_i hki hkj
    obtain ⟨hs1, _⟩ := Y1.readKind hki
    rw [still_eff hs1] at Y2'
    obtain ⟨hs2, _⟩ := Y2'.readKind hkj
    exact ⟨Y2', fin (by rw [still_eff hs2]; exact Y1), swap (by simp only [still_eff hs1, still_eff hs2])⟩
  · rename_i hki hkj
    obtain ⟨hs1, hr⟩ := Y1.readKind hki
    rw [still_eff hs1] at Y2'
    obtain ⟨hn, _⟩ := Y2'.newKind hkj
    refine ⟨Y2', fin ?_, swap (by rw [still_eff hs1, still_eff hs1])⟩
    rcases hn with rfl | ⟨oo, rfl, hn⟩
    · exact Y1
    · exact hr _ oo hn
  · rename_i hki hkj
    obtain ⟨hn1, hi1⟩ := Y1.newKind hki
    obtain ⟨hn2, hi2⟩ := Y2'.newKind hkj
    simp only [Bool.and_eq_true, Option.isSome_iff_exists] at hk
    obtain ⟨⟨x, hx⟩, ⟨y, hy⟩⟩ := hk
    have hne : nmOf base oi ≠ nmOf base oj := by
      intro e
      have : x = y := by simp [nmOf, hx, hy] at e; exact e
      exact h2 x hx (by rw [hy, this])
    have hne2 : (nmOf base oi, σ.gen) ≠ (nmOf base oj, σ.gen) := fun e => hne (by simpa using e)
    rcases hn1 with rfl | ⟨o1, rfl, hn1⟩
    · refine ⟨?_, fin ?_, swap ?_⟩
      · exact Y2'
      · rcases hn2 with rfl | ⟨o2, rfl, hn2⟩
        · exact Y1
        · exact (hi1 (σ.tab.set (nmOf base oj, σ.gen) o2) (.inr rfl)).ts ⟨fun _ _ => rfl, rfl⟩ rfl rfl
      · rcases hn2 with rfl | ⟨o2, rfl, hn2⟩ <;> rfl
    · rcases hn2 with rfl | ⟨o2, rfl, hn2⟩
      · refine ⟨?_, fin ?_, swap rfl⟩
        · exact (hi2 σ.tab (.inr rfl)).ts ⟨fun _ _ => rfl, rfl⟩ rfl rfl
        · exact Y1
      · have hn2' : σ.tab.get (nmOf base oj, σ.gen) = none := by
          simp only [S.eff, applyE, Tab.get_set] at hn2
          rw [if_neg hne2] at hn2
          exact hn2
        refine ⟨?_, fin ?_, swap ?_⟩
        · exact (hi2 σ.tab (.inl hn2')).ts ⟨fun _ _ => rfl, rfl⟩ rfl rfl
        · exact (hi1 (σ.tab.set (nmOf base oj, σ.gen) o2) (.inl (by rw [Tab.get_set, if_neg (Ne.symm hne2)]; exact hn1))).ts ⟨fun _ _ => rfl, rfl⟩ rfl rfl
        · simp only [S.eff, applyE, S.mk.injEq, true_and, and_true]
          funext n
          simp only [Tab.set]
          by_cases e1 : (nmOf base oj, σ.gen) = n
          · subst e1; simp [hne2]
          · simp [e1]
  · simp at hk
end

def blk (ops : Array Oper) : Nat → Nat → Nat → Bool
  | 0, _, _ => false
  | f + 1, i, j => match ops[j]? with
    | none => false
    | some o => o.after.any fun e => Region.binds .any e && (e.on == i || (decide (i < e.on) && blk ops f i e.on))
/-- every order that Go leaves open comes to the same -/
def lexOK (Γ : Ctx) (c : Md) (ops : Array Oper) : Bool :=
  (List.range ops.size).all fun i => match ops[i]? with
    | none => false
    | some oi => (oi.after.all fun e => !Region.binds .any e || decide (e.on < i)) &&
      (List.range ops.size).all fun j => decide (j ≤ i) || blk ops ops.size i j || (match ops[j]? with
        | some oj => oi.apart ops oj && kComm Γ c ops oi oj
        | none => true)

/-- the steps of a row of operations, one after another -/
inductive YAs (P : Program) (Γ : Ctx) (m : Bool) (base : Nat) (c : Md) (ops : Array Oper) : List Oper → S → S → Prop
  | nil {σ} : YAs P Γ m base c ops [] σ σ
  | cons {o l σ d t σ'} : YA P Γ m base c ops o σ d t → YAs P Γ m base c ops l ((σ.eff (nmOf base o) t).put o.dst d) σ' → YAs P Γ m base c ops (o :: l) σ σ'

section
variable {P : Program} {Γ : Ctx} {m : Bool} {base : Nat} {c : Md} {ops : Array Oper}

def St (P : Program) (Γ : Ctx) (m : Bool) (base : Nat) (c : Md) (ops : Array Oper) (i : Nat) (σ σ' : S) : Prop :=
  ∃ o, ops[i]? = some o ∧ ∃ d t, YA P Γ m base c ops o σ d t ∧ σ' = (σ.eff (nmOf base o) t).put o.dst d

def anyA (P : Program) (Γ : Ctx) (m : Bool) (base : Nat) (c : Md) (ops : Array Oper) (Q : S → Prop) : Nat → Array Bool → S → Prop
  | 0, listed, σ => Region.ready .any ops listed = [] ∧ Q σ
  | fuel + 1, listed, σ => (Region.ready .any ops listed = [] → Q σ) ∧
    ∀ i ∈ Region.ready .any ops listed, ∃ σ', St P Γ m base c ops i σ σ' ∧ anyA P Γ m base c ops Q fuel (listed.setIfInBounds i true) σ'

theorem anyA_first {Q : S → Prop} {i : Nat} {oi : Oper} (hi : ops[i]? = some oi) (B : Nat → Prop) : ∀ (fuel : Nat) (listed : Array Bool) (σ : S) (d : D) (t : TE),
    (∀ j, B j → listed.getD j true = false ∧ ∃ oj, ops[j]? = some oj ∧ ∃ e ∈ oj.after, Region.binds .any e = true ∧ (e.on = i ∨ B e.on)) →
    (∀ j oj, ops[j]? = some oj → j ≠ i → listed.getD j true = false → ¬ B j → oi.apart ops oj = true ∧ kComm Γ c ops oi oj = true) →
    i ∈ Region.ready .any ops listed → YA P Γ m base c ops oi σ d t →
    anyA P Γ m base c ops Q fuel (listed.setIfInBounds i true) ((σ.eff (nmOf base oi) t).put oi.dst d) → anyA P Γ m base c ops Q (fuel + 1) listed σ := by
  intro fuel
  induction fuel with
  | zero =>
    intro listed σ d t hB hfree hr hy H
    refine ⟨fun h => (by rw [h] at hr; cases hr), fun j hj => ?_⟩
    by_cases hji : j = i
    · subst hji; exact ⟨_, ⟨oi, hi, d, t, hy, rfl⟩, H⟩
    · have := ready_mono hj hji
      rw [H.1] at this
      cases this
  | succ fuel ih =>
    intro listed σ d t hB hfree hr hy H
    refine ⟨fun h => (by rw [h] at hr; cases hr), fun j hj => ?_⟩
    by_cases hji : j = i
    · subst hji; exact ⟨_, ⟨oi, hi, d, t, hy, rfl⟩, H⟩
    · obtain ⟨σ2, ⟨oj, hoj, d2, t2, hy2, rfl⟩, H2⟩ := H.2 j (ready_mono hj hji)
      obtain ⟨hjun, oj', hoj', hall⟩ := mem_ready.1 hj
      rw [hoj] at hoj'; cases hoj'
      have hiun := (mem_ready.1 hr).1
      have conv : ∀ {x : Nat}, listed.getD x true = false → listed.getD x false = true → False := by
        intro x h1 h2
        cases hx : listed[x]? with
        | none => simp [hx] at h1
        | some b => simp [hx] at h1 h2; rw [h1] at h2; cases h2
      have hnB : ¬ B j := by
        intro hb
        obtain ⟨_, oj', hoj', e, he, hbi, hon⟩ := hB j hb
        rw [hoj] at hoj'; cases hoj'
        have h1 := hall e he hbi
        rcases hon with hon | hon
        · rw [hon] at h1; exact conv hiun h1
        · exact conv (hB _ hon).1 h1
      obtain ⟨hap, hkc⟩ := hfree j oj hoj hji hjun hnB
      obtain ⟨c1, c2, c3⟩ := comm hap hkc hy hy2
      refine ⟨_, ⟨oj, hoj, d2, t2, c1, rfl⟩, ?_⟩
      refine ih (listed.setIfInBounds j true) _ d t (fun j' hj' => ⟨?_, (hB j' hj').2⟩) (fun j' oj' hoj' hne hun hb => hfree j' oj' hoj' hne ?_ hb) (ready_mono hr (Ne.symm hji)) c2 ?_
      · have : j ≠ j' := fun e => hnB (e ▸ hj')
        rw [getD_set_ne true this]; exact (hB j' hj').1
      · by_cases hjk : j = j'
        · subst hjk; exact hjun
        · rw [getD_set_ne true hjk] at hun; exact hun
      · rw [Array.setIfInBounds_comm _ _ hji, ← c3]
        exact H2

theorem blk_spec {f i j : Nat} (h : blk ops f i j = true) : ∃ oj, ops[j]? = some oj ∧ ∃ e ∈ oj.after, Region.binds .any e = true ∧ (e.on = i ∨ (i < e.on ∧ ∃ f', blk ops f' i e.on = true)) := by
  cases f with
  | zero => simp [blk] at h
  | succ f =>
    simp only [blk] at h
    split at h
    · simp at h
    · rename_i oj hoj
      obtain ⟨e, he, hb⟩ := Array.any_eq_true'.1 h
      simp only [Bool.and_eq_true, Bool.or_eq_true, beq_iff_eq, decide_eq_true_eq] at hb
      exact ⟨oj, hoj, e, he, hb.1, hb.2.imp id fun h => ⟨h.1, f, h.2⟩⟩

theorem anyA_lex {Q : S → Prop} (hL : lexOK Γ c ops = true) : ∀ (l : List Oper) (k : Nat) (listed : Array Bool) (σ σ' : S), (∀ j, l[j]? = ops[k + j]?) → k + l.length = ops.size →
    listed.size = ops.size → (∀ j, j < ops.size → listed.getD j true = decide (j < k)) → YAs P Γ m base c ops l σ σ' → Q σ' → anyA P Γ m base c ops Q l.length listed σ
  | [], k, listed, σ, σ', hl, hk, hs, hp, h, hq => by
    cases h
    refine ⟨?_, hq⟩
    cases hr : Region.ready .any ops listed with
    | nil => rfl
    | cons j js =>
      have hj : j ∈ Region.ready .any ops listed := by rw [hr]; simp
      obtain ⟨h0, oj, hoj, _⟩ := mem_ready.1 hj
      have hlt : j < ops.size := (Array.getElem?_eq_some_iff.1 hoj).1
      rw [hp j hlt] at h0
      simp at hk h0; omega
  | o :: l, k, listed, σ, σ', hl, hk, hs, hp, h, hq => by
    have h0 : ops[k]? = some o := by simpa using (hl 0).symm
    have hlt : k < ops.size := (Array.getElem?_eq_some_iff.1 h0).1
    cases h with
    | @cons _ _ _ d t _ hy hK =>
    have hLk := List.all_eq_true.1 hL k (by simpa using hlt)
    simp only [h0, Bool.and_eq_true] at hLk
    obtain ⟨hLa, hLb⟩ := hLk
    have hready : k ∈ Region.ready .any ops listed := by
      rw [mem_ready]
      refine ⟨by rw [hp k hlt]; simp, o, h0, fun e he hb => ?_⟩
      have := Array.all_eq_true_iff_forall_mem.1 hLa e he
      simp only [hb, Bool.not_true, Bool.false_or, decide_eq_true_eq] at this
      have h1 := hp e.on (by omega)
      rw [decide_eq_true this] at h1
      cases hx : listed[e.on]? with
      | none => have := (Array.getElem?_eq_none_iff.1 hx); omega
      | some b => simp [hx] at h1 ⊢; exact h1
    refine anyA_first h0 (fun j => k < j ∧ ∃ f, blk ops f k j = true) l.length listed σ d t (fun j hj => ?_) (fun j oj hoj hne hun hb => ?_) hready hy ?_
    · obtain ⟨hkj, f, hf⟩ := hj
      obtain ⟨oj, hoj, e, he, hb, hon⟩ := blk_spec hf
      have hjlt : j < ops.size := (Array.getElem?_eq_some_iff.1 hoj).1
      exact ⟨by rw [hp j hjlt]; simp; omega, oj, hoj, e, he, hb, hon.imp id fun h => ⟨h.1, h.2⟩⟩
    · have hjlt : j < ops.size := (Array.getElem?_eq_some_iff.1 hoj).1
      have hLj := List.all_eq_true.1 hLb j (by simpa using hjlt)
      rw [hp j hjlt] at hun
      simp at hun
      simp only [hoj, Bool.or_eq_true, decide_eq_true_eq, Bool.and_eq_true] at hLj
      rcases hLj with (hLj | hLj) | hLj
      · omega
      · exact absurd ⟨by omega, _, hLj⟩ hb
      · exact hLj
    · refine anyA_lex hL l (k + 1) _ _ σ' (fun j => by have := hl (j + 1); simpa [Nat.add_assoc, Nat.add_comm 1 j] using this) (by simp at hk; omega) (by simpa using hs) (fun j hj => ?_) hK hq
      by_cases hkj : k = j
      · subst hkj; simp [hs, hj]
      · rw [getD_set_ne true hkj, hp j hj]
        by_cases h1 : j < k
        · simp [h1, Nat.lt_succ_of_lt h1]
        · have : ¬ j < k + 1 := by omega
          simp [h1, this]

theorem Cpl.drew {W0 : World} {M0 F0 F : Nat → Prop} {β : Beta} {γ : Nm → Nat → Prop} {σ : S} {a : Act} {w : World} (C : Cpl W0 M0 F0 F β γ σ a w) : Cpl W0 M0 F0 F β γ σ a { w with drawn := w.drawn + 1 } :=
  ⟨{ C.mem with Flt := C.mem.Flt, keep := C.mem.keep, size := C.mem.size, os := C.mem.os, tp := C.mem.tp, out := C.mem.out, own := C.mem.own, fps := C.mem.fps }, C.reps, C.defers, C.glob⟩

def dstOk (N : Nat) (ops : Array Oper) : Bool := ops.toList.all fun o => match o.dst with
  | some t => decide (t < N)
  | none => true
theorem dstOk_get {N : Nat} (h : dstOk N ops = true) {i : Nat} {o : Oper} (hi : ops[i]? = some o) : ∀ t, o.dst = some t → t < N := by
  intro t ht
  have := List.all_eq_true.1 h o (by have := Array.mem_of_getElem? hi; simpa using this)
  rw [ht] at this
  exact of_decide_eq_true this

theorem any_sound {N : Nat} {W0 : World} {M0 F0 : Nat → Prop} {β0 : Beta} {Q : S → Prop} {Q' : Exit → Act → World → Prop} (hN : dstOk N ops = true) (hΓ : Γ.ok P)
    (hQ : ∀ F β γ σ a w, a.tmps.size = N → (∀ n x, β0 n = some x → β n = some x) → Cpl W0 M0 F0 F β γ σ a w → Q σ → Q' .normal a w) : ∀ (fuel : Nat) (listed : Array Bool) (σ : S) (F : Nat → Prop) (β : Beta) (γ : Nm → Nat → Prop) (a : Act) (w : World), a.tmps.size = N → (∀ n x, β0 n = some x → β n = some x) → Cpl W0 M0 F0 F β γ σ a w →
    anyA P Γ m base c ops Q fuel listed σ → wpAny P .any ops Q' fuel listed a w
  | 0, _, _, _, _, _, _, _, hs, hb, C, h => ⟨h.1, hQ _ _ _ _ _ _ hs hb C h.2⟩
  | fuel + 1, _, _, _, _, _, _, _, hs, hb, C, h => ⟨fun h0 => hQ _ _ _ _ _ _ hs hb C (h.1 h0), fun i hi => by
      obtain ⟨σ', ⟨o, ho, d, t, hy, rfl⟩, H⟩ := h.2 i hi
      exact ya_sound hΓ C ho (by rw [hs]; exact dstOk_get hN ho) hy fun F' β' γ' a' w' hs' hb' C' => any_sound hN hΓ hQ fuel _ _ _ _ _ _ _ (hs'.trans hs) (fun n x h => hb' n x (hb n x h)) C' H⟩

theorem ops_sound {N : Nat} {W0 : World} {M0 F0 : Nat → Prop} {β0 : Beta} {Q : S → Prop} {Q' : Exit → Act → World → Prop} (hN : dstOk N ops = true) (hΓ : Γ.ok P)
    (hQ : ∀ F β γ σ a w, a.tmps.size = N → (∀ n x, β0 n = some x → β n = some x) → Cpl W0 M0 F0 F β γ σ a w → Q σ → Q' .normal a w) : ∀ (l : List Oper) (k : Nat) (σ σ' : S) (F : Nat → Prop) (β : Beta) (γ : Nm → Nat → Prop) (a : Act) (w : World), (∀ j, l[j]? = ops[k + j]?) → a.tmps.size = N → (∀ n x, β0 n = some x → β n = some x) → Cpl W0 M0 F0 F β γ σ a w →
    YAs P Γ m base c ops l σ σ' → Q σ' → wpOps P ops Q' (List.range' k l.length) a w
  | [], k, σ, σ', F, β, γ, a, w, hl, hs, hb, C, h, hq => by cases h; simpa [wpOps] using hQ _ _ _ _ _ _ hs hb C hq
  | o :: l, k, σ, σ', F, β, γ, a, w, hl, hs, hb, C, h, hq => by
    have h0 : ops[k]? = some o := by simpa using (hl 0).symm
    cases h with
    | @cons _ _ _ d t _ hy hK =>
    simp only [List.length_cons, List.range'_succ]
    rw [wpOps_cons]
    exact ya_sound hΓ C h0 (by rw [hs]; exact dstOk_get hN h0) hy fun F' β' γ' a' w' hs' hb' C' => ops_sound hN hΓ hQ l (k + 1) _ σ' _ _ _ _ _ (fun j => by have := hl (j + 1); simpa [Nat.add_assoc, Nat.add_comm 1 j] using this) (hs'.trans hs) (fun n x h => hb' n x (hb n x h)) C' hK hq

theorem region_sound {N : Nat} {W0 : World} {M0 F0 F : Nat → Prop} {β0 β : Beta} {γ : Nm → Nat → Prop} {σ σ' : S} {a : Act} {w : World} {Q' : Exit → Act → World → Prop} (hN : dstOk N ops = true) (hΓ : Γ.ok P) (hm : P.follows .mixedOrders = true)
    (hQ : ∀ F β γ a w, a.tmps.size = N → (∀ n x, β0 n = some x → β n = some x) → Cpl W0 M0 F0 F β γ σ' a w → Q' .normal a w) (hs : a.tmps.size = N) (hb : ∀ n x, β0 n = some x → β n = some x) (C : Cpl W0 M0 F0 F β γ σ a w) {id : Nat} {draw : Bool} (hd : draw = true → lexOK Γ c ops = true)
    (h : YAs P Γ m base c ops ops.toList σ σ') : (Code.region id ops draw).wp P Q' a w := by
  have hQ2 : ∀ F β γ σ2 a w, a.tmps.size = N → (∀ n x, β0 n = some x → β n = some x) → Cpl W0 M0 F0 F β γ σ2 a w → σ2 = σ' → Q' .normal a w := fun F β γ σ2 a w h1 hb h2 h3 => by subst h3; exact hQ F β γ a w h1 hb h2
  cases draw with
  | false =>
    refine wp_region ?_
    have := ops_sound (ops := ops) (Q := fun s => s = σ') hN hΓ hQ2 ops.toList 0 σ σ' F β γ a w (fun j => by simp) hs hb C h rfl
    simpa [List.range_eq_range'] using this
  | true =>
    refine wp_region_any hm ?_
    have h1 := anyA_lex (Q := fun s => s = σ') (hd rfl) ops.toList 0 (Array.replicate ops.size false) σ σ' (fun j => by simp) (by simp) (by simp) (fun j hj => by simp [hj]) h rfl
    have := any_sound hN hΓ hQ2 _ _ _ _ _ _ _ _ hs hb C.drew h1
    simpa using this
end
end Go.Eng
namespace Go.Eng
variable [HasG]
set_option linter.unusedSectionVars false
set_option linter.unusedVariables false
set_option linter.unusedSimpArgs false

/-! ### weakening of states: names are changed, what has no name any more is frozen -/
def lkN : List (Nm × Nm) → Nm → Option Nm
  | [], _ => none
  | (a, b) :: r, n => if a = n then some b else lkN r n
mutual
/-- which name of the one is which of the other -/
def pairD : D → D → List (Nm × Nm)
  | .own a _ _ _, .own b _ _ _ => [(b, a)]
  | .ptr a _, .ptr b _ => [(b, a)]
  | .elp a _ _, .elp b _ _ => [(b, a)]
  | .mp a, .mp b => [(b, a)]
  | .it a, .it b => [(b, a)]
  | .agg cs, .agg ds => pairDs cs ds
  | .tup cs, .tup ds => pairDs cs ds
  | .sx _ cs, .sx _ ds => pairDs cs ds
  | .fn _ a b, .fn _ c d => pairDs a c ++ pairDs b d
  | .iface _ d, .iface _ e => pairD d e
  | .whn _ d, .whn _ e => pairD d e
  | .el d, .el e => pairD d e
  | _, _ => []
def pairDs : List D → List D → List (Nm × Nm)
  | d :: ds, e :: es => pairD d e ++ pairDs ds es
  | _, _ => []
end
def loneC : D → Bool
  | .lit v => v.oneCell'
  | .sl true _ _ xs => xs.isEmpty
  | _ => false
def loneD (x : D) : Bool := (cellsD x).all loneC
theorem lone_deep {F : Nat → Prop} {h : Array Obj} {G : Nat → Prop} {s : Nat} {c : Array Value} {xs : List D} (hl : xs.all loneD = true) (r : Repx F h Beta.none s c xs 0) : DeepOK h G s c xs := by
  refine ⟨fun _ => none, fun i x hx => ?_, fun q q' y h => (by cases h), fun q y h => (by cases h)⟩
  obtain ⟨hi, rfl⟩ := List.getElem?_eq_some_iff.1 hx
  obtain ⟨u, h1, h2, h3⟩ := r.get i hi
  have hlx := List.all_eq_true.1 hl _ (List.getElem_mem hi)
  generalize xs[i] = x at *
  have hr := h1.cells h2.1
  have hlen := hr.length
  simp only [Array.length_toList] at hlen
  refine ⟨by rw [← hlen]; exact h2.2, fun j d hd => ?_⟩
  obtain ⟨hj, rfl⟩ := List.getElem?_eq_some_iff.1 hd
  obtain ⟨v, hv, hrv⟩ := hr.get j hj
  have hju : j < u.cells.size := by omega
  have hv' : u.cells[j]? = some v := by simpa using hv
  refine ⟨v, by have := h3 j hju; rw [Nat.zero_add] at this; rw [this]; exact hv', ?_⟩
  have hld := List.all_eq_true.1 hlx _ (List.getElem_mem hj)
  generalize (cellsD x)[j] = d at *
  unfold loneC at hld
  split at hld
  · exact ⟨rfl, hld, by simpa only [Rep] using hrv⟩
  · rename_i s' z' ys
    have : ys = [] := by simpa using hld
    subst this
    refine .inl ⟨rfl, rfl, ?_⟩
    simp only [Rep] at hrv
    rcases hrv with ⟨_, a, cap, e, hc⟩ | ⟨b, off, cap, c', e, fr, e1, _, _, _, hc, _⟩
    · rw [hc trivial] at e; exact ⟨a, e⟩
    · have := hc trivial
      simp only [List.length_nil] at this e1
      rw [this] at e1; exact ⟨_, e1⟩
  · cases hld

mutual
def leD (T : Tab) (Δ : List (Nm × Nm)) (d : D) : D → Prop
  | .any => True
  | .lit v => d = .lit v
  | .agg ds => match d with
    | .agg cs => leDs T Δ cs ds
    | _ => False
  | .tup ds => match d with
    | .tup cs => leDs T Δ cs ds
    | _ => False
  | .fn g c' d' => match d with
    | .fn f a b => f = g ∧ leDs T Δ a c' ∧ leDs T Δ b d'
    | _ => False
  | .iface u e => match d with
    | .iface t d => t = u ∧ leD T Δ d e
    | _ => False
  | .whn h e => match d with
    | .whn g d => g = h ∧ leD T Δ d e
    | _ => False
  | .own b s' o' n' => match d with
    | .own a s o n => lkN Δ b = some a ∧ s = s' ∧ o = o' ∧ n = n'
    | _ => False
  | .ptr b o' => match d with
    | .ptr a o => lkN Δ b = some a ∧ o = o'
    | _ => False
  | .elp b i' o' => match d with
    | .elp a i o => lkN Δ b = some a ∧ i = i' ∧ o = o'
    | _ => False
  | .mp b => match d with
    | .mp a => lkN Δ b = some a
    | _ => False
  | .it b => match d with
    | .it a => lkN Δ b = some a
    | _ => False
  | .sl t' s' _ ys => match d with
    | .own a s o n => t' = false ∧ a ∉ Δ.map (·.2) ∧ match T.get a with
      | some (.arr p s2 _ xs) => p = false ∧ s2 = s ∧ o + n ≤ xs.length ∧ viewL xs o n = ys ∧ (s = s' ∨ ys = [])
      | _ => False
    | .sl t s _ xs => (t' = true → t = true) ∧ xs = ys ∧ (s = s' ∨ ys = [])
    | _ => False
  | .sx s ys => d = .sx s ys ∧ puresD ys = true
  | .el e => match d with
    | .ptr a o => a ∉ Δ.map (·.2) ∧ match T.get a with
      | some (.box d) => o = 0 ∧ leD T Δ d e
      | _ => False
    | .el d => leD T Δ d e
    | _ => False
  | .fm kk ks _ vs => match d with
    | .mp a => a ∉ Δ.map (·.2) ∧ match T.get a with
      | some (.map kk' ks' _ vs') => kk' = kk ∧ ks' = ks ∧ vs' = vs
      | some (.rmap kk' ks' s z' rows none) => kk' = kk ∧ ks' = ks ∧ rowsD s z' rows = vs
      | _ => False
    | .fm kk' ks' _ vs' => kk' = kk ∧ ks' = ks ∧ vs' = vs
    | _ => False
def leDs (T : Tab) (Δ : List (Nm × Nm)) (ds : List D) : List D → Prop
  | [] => ds = []
  | e :: es => match ds with
    | d :: ds => leD T Δ d e ∧ leDs T Δ ds es
    | [] => False
end
def leO (T : Tab) (Δ : List (Nm × Nm)) : OO → OO → Prop
  | .box d, .box e => leD T Δ d e ∧ okD e = true
  | .arr p s _ xs, .arr p' s' _ ys => (p = p' ∨ (p = false ∧ xs.all loneD = true)) ∧ s = s' ∧ xs = ys
  | .map kk ks _ vs, .map kk' ks' _ vs' => kk = kk' ∧ ks = ks' ∧ vs = vs'
  | .rmap kk ks s _ rows hole, .rmap kk' ks' s' _ rows' hole' => kk = kk' ∧ ks = ks' ∧ s = s' ∧ rows = rows' ∧ hole = hole'
  | .sit s i, .sit s' i' => s = s' ∧ i = i'
  | .mit kk ks _ vs sn, .mit kk' ks' _ vs' sn' => kk = kk' ∧ ks = ks' ∧ vs = vs' ∧ sn = sn'
  | _, _ => False
def leTs (T : Tab) (Δ : List (Nm × Nm)) (ts : Ts) : List (Nat × D) → Prop
  | [] => True
  | (t, e) :: r => leD T Δ (tget ts t) e ∧ leTs T Δ ts r
def leTab (T : Tab) (Δ : List (Nm × Nm)) : List (Nm × OO) → Prop
  | [] => True
  | (n, o') :: r => (match lkN Δ n with
    | some a => (match T.get a with
      | some o => leO T Δ o o'
      | none => False)
    | none => False) ∧ leTab T Δ r
def pairTs (ts : Ts) : List (Nat × D) → List (Nm × Nm)
  | [] => []
  | (t, e) :: r => pairD (tget ts t) e ++ pairTs ts r
def pairO : OO → OO → List (Nm × Nm)
  | .box d, .box e => pairD d e
  | _, _ => []
def pairTab (T : Tab) (Δ : List (Nm × Nm)) : List (Nm × OO) → List (Nm × Nm)
  | [] => []
  | (n, o') :: r => (match lkN Δ n with
    | some a => match T.get a with
      | some o => pairO o o'
      | none => []
    | none => []) ++ pairTab T Δ r
def addN (p : Nm × Nm) (l : List (Nm × Nm)) : List (Nm × Nm) := match lkN l p.1 with
  | some _ => l
  | none => p :: l
def uniqN : List (Nm × Nm) → List (Nm × Nm)
  | [] => []
  | p :: r => addN p (uniqN r)
/-- what came in keeps its name -/
def idL : List (Nm × OO) → List (Nm × Nm)
  | [] => []
  | (n, _) :: r => if n.2 = 0 then (n, n) :: idL r else idL r
def deltas (σ : S) (l : List (Nat × D)) (L : List (Nm × OO)) : List (Nm × Nm) :=
  let a := uniqN (pairTs σ.ts l ++ idL L)
  let b := uniqN (pairTab σ.tab a L ++ a)
  uniqN (pairTab σ.tab b L ++ b)
def nodupN : List (Nm × Nm) → Bool
  | [] => true
  | p :: r => (r.all fun q => decide (q.2 ≠ p.2)) && nodupN r
def leSt (σ : S) (l : List (Nat × D)) (L : List (Nm × OO)) (g : Nat) (Δ : List (Nm × Nm)) : Prop :=
  (nodupN Δ = true ∧ (Δ.all fun p => decide (p.1.2 < g) && (decide (p.1.2 ≠ 0) || decide (p.2 = p.1))) = true) ∧ leTs σ.tab Δ σ.ts l ∧ leTab σ.tab Δ L

def mkS (l : List (Nat × D)) (L : List (Nm × OO)) (g : Nat) : S := ⟨Ts.of l, Tab.of L, g⟩

theorem lkN_mem {Δ : List (Nm × Nm)} {n a : Nm} (h : lkN Δ n = some a) : (n, a) ∈ Δ := by
  induction Δ with
  | nil => cases h
  | cons p r ih =>
    obtain ⟨b, c⟩ := p
    simp only [lkN] at h
    split at h
    · rename_i e; cases h; subst e; simp
    · exact List.mem_cons_of_mem _ (ih h)
theorem nodupN_inj {Δ : List (Nm × Nm)} (hn : nodupN Δ = true) {n n' a : Nm} (h : (n, a) ∈ Δ) (h' : (n', a) ∈ Δ) : n = n' := by
  induction Δ with
  | nil => simp at h
  | cons p r ih =>
    simp only [nodupN, Bool.and_eq_true] at hn
    rcases List.mem_cons.1 h with e | h1 <;> rcases List.mem_cons.1 h' with e' | h1'
    · rw [← e] at e'; simp at e'; exact e'.symm
    · have := of_decide_eq_true (List.all_eq_true.1 hn.1 _ h1')
      rw [← e] at this; exact absurd rfl this
    · have := of_decide_eq_true (List.all_eq_true.1 hn.1 _ h1)
      rw [← e'] at this; exact absurd rfl this
    · exact ih hn.2 h1 h1'

section
variable {W0 : World} {M0 F0 F : Nat → Prop} {β : Beta} {γ : Nm → Nat → Prop} {σ : S} {a : Act} {w : World}

/-- what has no name any more -/
def loose (β : Beta) (γ : Nm → Nat → Prop) (T : Tab) (Δ : List (Nm × Nm)) (x : Nat) : Prop := ∃ n o, T.get n = some o ∧ o ≠ .dead ∧ n ∉ Δ.map (·.2) ∧ fp β γ n x

mutual
theorem leD_rep {T : Tab} {Δ : List (Nm × Nm)} {β' : Beta} {h : Array Obj} (own : ∀ nm o, T.get nm = some o → OwnOK F h β (γ nm) nm o) (hβ : ∀ n a x, lkN Δ n = some a → β a = some x → β' n = some x) : ∀ (e : D) {d : D} {v : Value},
    leD T Δ d e → Rep F h β d v → Rep (fun b => F b ∨ loose β γ T Δ b) h β' e v
  | .any, _, _, _, _ => by simp only [Rep]
  | .lit u, _, _, l, r => by
    simp only [leD] at l; subst l
    simpa only [Rep] using r
  | .agg ds, d, _, l, r => by
    simp only [leD] at l
    split at l
    · simp only [Rep] at r ⊢
      obtain ⟨vs, e, r⟩ := r
      exact ⟨vs, e, leDs_rep own hβ ds l r⟩
    · exact l.elim
  | .tup ds, d, _, l, r => by
    simp only [leD] at l
    split at l
    · simp only [Rep] at r ⊢
      obtain ⟨vs, e, r⟩ := r
      exact ⟨vs, e, leDs_rep own hβ ds l r⟩
    · exact l.elim
  | .fn g c' d', d, _, l, r => by
    simp only [leD] at l
    split at l
    · simp only [Rep] at r ⊢
      obtain ⟨rfl, l1, l2⟩ := l
      obtain ⟨vf, vc, e, r1, r2⟩ := r
      exact ⟨vf, vc, e, leDs_rep own hβ c' l1 r1, leDs_rep own hβ d' l2 r2⟩
    · exact l.elim
  | .iface u e, d, _, l, r => by
    simp only [leD] at l
    split at l
    · simp only [Rep] at r ⊢
      obtain ⟨rfl, l⟩ := l
      obtain ⟨x, e1, r⟩ := r
      exact ⟨x, e1, leD_rep own hβ e l r⟩
    · exact l.elim
  | .whn g' e, d, _, l, r => by
    simp only [leD] at l
    split at l
    · simp only [Rep] at r ⊢
      obtain ⟨rfl, l⟩ := l
      exact ⟨fun hg => leD_rep own hβ e l (r.1 hg), r.2⟩
    · exact l.elim
  | .own b s' o' n', d, _, l, r => by
    simp only [leD] at l
    split at l
    · simp only [Rep] at r ⊢
      obtain ⟨l1, rfl, rfl, rfl⟩ := l
      rcases r with r | ⟨q, cap, h1, h2⟩
      · exact .inl r
      · exact .inr ⟨q, cap, hβ _ _ _ l1 h1, h2⟩
    · exact l.elim
  | .ptr b o', d, _, l, r => by
    simp only [leD] at l
    split at l
    · simp only [Rep] at r ⊢
      obtain ⟨l1, rfl⟩ := l
      obtain ⟨q, s, cap, h1, h2⟩ := r
      exact ⟨q, s, cap, hβ _ _ _ l1 h1, h2⟩
    · exact l.elim
  | .elp b i' o', d, _, l, r => by
    simp only [leD] at l
    split at l
    · simp only [Rep] at r ⊢
      obtain ⟨l1, rfl, rfl⟩ := l
      obtain ⟨q, s, cap, h1, h2⟩ := r
      exact ⟨q, s, cap, hβ _ _ _ l1 h1, h2⟩
    · exact l.elim
  | .mp b, d, _, l, r => by
    simp only [leD] at l
    split at l
    · simp only [Rep] at r ⊢
      obtain ⟨q, s, cap, h1, h2⟩ := r
      exact ⟨q, s, cap, hβ _ _ _ l h1, h2⟩
    · exact l.elim
  | .it b, d, _, l, r => by
    simp only [leD] at l
    split at l
    · simp only [Rep] at r ⊢
      obtain ⟨q, s, cap, h1, h2⟩ := r
      exact ⟨q, s, cap, hβ _ _ _ l h1, h2⟩
    · exact l.elim
  | .sl t s' z ys, d, v, l, r => by
    simp only [leD] at l
    split at l
    · rename_i a s o n
      obtain ⟨rfl, hl, l⟩ := l
      split at l
      · rename_i p s2 z2 xs hT
        obtain ⟨rfl, rfl, hle, rfl, hs⟩ := l
        rw [viewL_eq hle] at hs ⊢
        have hlen : ((xs.drop o).take n).length = n := by simp; omega
        obtain ⟨bo, cap', g1, g2, g3⟩ := own a _ hT
        simp only [Rep] at r ⊢
        rcases r with ⟨q, rfl, rfl⟩ | ⟨b, cap, hb, rfl, hle'⟩
        · exact .inl ⟨by simp, q, 0, rfl, (fun h => by cases h)⟩
        · rw [hb] at g1
          simp only [Option.some.injEq, Prod.mk.injEq] at g1
          obtain ⟨rfl, _, rfl⟩ := g1
          obtain ⟨hnG, c, e, hbk, hcs, hcl, hrow⟩ := g3 b rfl
          have hrow' := hrow.take_drop o n
          rw [Nat.zero_add] at hrow'
          by_cases h0 : (xs.drop o).take n = []
          · rw [h0] at hlen ⊢
            simp only [List.length_nil] at hlen; subst hlen
            exact .inl ⟨rfl, _, _, rfl, (fun h => by cases h)⟩
          · have hs' : s2 = s' := hs.resolve_right h0
            subst hs'
            refine .inr ⟨b, o * s2, cap - o, c, e, (0, 0), by rw [hlen], .inr ⟨a, _, hT, by simp, hl, .inl ⟨_, _, hb⟩⟩, hbk, by rw [hlen]; omega, (fun h => by cases h), ?_⟩
            exact Repx.mono (fun x hx => ⟨.inl hx, rfl⟩) _ (fun _ _ h => h) hrow'
      · exact l.elim
    · rename_i t0 s z0 xs
      obtain ⟨ht, rfl, hs⟩ := l
      simp only [Rep] at r ⊢
      rcases r with ⟨h0, q, cap, e, hc⟩ | ⟨b, off, cap, c, e, fr, h1, h2, h3, h4, h5, h6⟩
      · exact .inl ⟨h0, q, cap, e, fun h => hc (ht h)⟩
      · by_cases h0 : xs = []
        · subst h0
          exact .inl ⟨rfl, _, _, h1, fun h => h5 (ht h)⟩
        · have := hs.resolve_right h0
          subst this
          exact .inr ⟨b, off, cap, c, e, fr, h1, .inl h2, h3, h4, fun h => h5 (ht h), Repx.mono (fun x hx => ⟨.inl hx, rfl⟩) _ (fun _ _ h => h) h6⟩
    · exact l.elim
  | .sx s ys, d, v, l, r => by
    simp only [leD] at l
    obtain ⟨rfl, hp⟩ := l
    have := Rep.rebeta (β' := β') _ (show pureD (.sx s ys) = true by simpa only [pureD] using hp) r
    exact Rep.mono (fun x hx => ⟨.inl hx, rfl⟩) _ (fun _ _ h => h) this
  | .el e, d, v, l, r => by
    simp only [leD] at l
    split at l
    · rename_i a o
      obtain ⟨hl, l⟩ := l
      split at l
      · rename_i d hT
        obtain ⟨rfl, l⟩ := l
        simp only [Rep] at r ⊢
        obtain ⟨b, s, cap, hb, rfl⟩ := r
        obtain ⟨b', s', cap', e', u, g1, g2, g3, g4⟩ := own a _ hT
        rw [hb] at g1
        simp only [Option.some.injEq, Prod.mk.injEq] at g1
        obtain ⟨rfl, rfl, rfl⟩ := g1
        exact ⟨b, 0, u.cells, e', (0, 0), u, rfl, .inr ⟨a, _, hT, by simp, hl, .inl ⟨_, _, hb⟩⟩, g2, leD_rep own hβ e l g4, fun j _ => by simp⟩
      · exact l.elim
    · simp only [Rep] at r ⊢
      obtain ⟨b, off, c, e', fr, u, h1, h2, h3, h4, h5⟩ := r
      exact ⟨b, off, c, e', fr, u, h1, .inl h2, h3, leD_rep own hβ e l h4, h5⟩
    · exact l.elim
  | .fm kk ks z vs, d, v, l, r => by
    simp only [leD] at l
    split at l
    · rename_i a
      obtain ⟨hl, l⟩ := l
      split at l
      · rename_i kk' ks' z' vs' hT
        obtain ⟨rfl, rfl, rfl⟩ := l
        obtain ⟨b', s', cap', es, cl, g1, g2, g3, g4⟩ := own a _ hT
        simp only [Rep] at r ⊢
        obtain ⟨b, s, cap, hb, rfl⟩ := r
        rw [hb] at g1
        simp only [Option.some.injEq, Prod.mk.injEq] at g1
        obtain ⟨rfl, rfl, rfl⟩ := g1
        exact .inr ⟨b, es, cl, rfl, .inr ⟨a, _, hT, by simp, hl, .inl ⟨_, _, hb⟩⟩, g2, g3, Reps.mono (fun x hx => ⟨.inl hx, rfl⟩) _ (fun _ _ h => h) g4⟩
      · rename_i kk' ks' s0 z' rows hT
        obtain ⟨rfl, rfl, rfl⟩ := l
        obtain ⟨b', s', cap', es, cl, bl, g1, g2, g3, _, g4⟩ := own a _ hT
        simp only [Rep] at r ⊢
        obtain ⟨b, s, cap, hb, rfl⟩ := r
        rw [hb] at g1
        simp only [Option.some.injEq, Prod.mk.injEq] at g1
        obtain ⟨rfl, rfl, rfl⟩ := g1
        exact .inr ⟨b, es, cl, rfl, .inr ⟨a, _, hT, by simp, hl, .inl ⟨_, _, hb⟩⟩, g2, g3, g4.reps (fun x hx => .inl hx) (fun x hx => .inr ⟨a, _, hT, by simp, hl, .inr hx⟩)⟩
      · exact l.elim
    · obtain ⟨rfl, rfl, rfl⟩ := l
      have := Rep.rebeta (β' := β') _ rfl r
      exact Rep.mono (fun x hx => ⟨.inl hx, rfl⟩) _ (fun _ _ h => h) this
    · exact l.elim
theorem leDs_rep {T : Tab} {Δ : List (Nm × Nm)} {β' : Beta} {h : Array Obj} (own : ∀ nm o, T.get nm = some o → OwnOK F h β (γ nm) nm o) (hβ : ∀ n a x, lkN Δ n = some a → β a = some x → β' n = some x) : ∀ (es : List D) {ds : List D} {vs : List Value},
    leDs T Δ ds es → Reps F h β ds vs → Reps (fun b => F b ∨ loose β γ T Δ b) h β' es vs
  | [], _, _, l, r => by
    simp only [leDs] at l; subst l
    simpa only [Reps] using r
  | e :: es, ds, _, l, r => by
    simp only [leDs] at l
    split at l
    · simp only [Reps] at r ⊢
      obtain ⟨v, vs', e1, r1, r2⟩ := r
      exact ⟨v, vs', e1, leD_rep own hβ e l.1 r1, leDs_rep own hβ es l.2 r2⟩
    · exact l.elim
end

theorem leTs_get {T : Tab} {Δ : List (Nm × Nm)} {ts : Ts} {t : Nat} : ∀ {l : List (Nat × D)}, leTs T Δ ts l → leD T Δ (tget ts t) (tget (Ts.of l) t)
  | [], _ => by simp only [Ts.of, tget, Ts.nil, leD]
  | (u, e) :: r, h => by
    simp only [leTs] at h
    simp only [Ts.of, tget, Ts.up]
    split
    · rename_i e; subst e; exact h.1
    · exact leTs_get h.2
theorem leTab_get {T : Tab} {Δ : List (Nm × Nm)} {n : Nm} {o' : OO} : ∀ {L : List (Nm × OO)}, leTab T Δ L → (n, o') ∈ L → ∃ a o, lkN Δ n = some a ∧ T.get a = some o ∧ leO T Δ o o'
  | [], _, h => by simp at h
  | (m, q) :: r, h, hm => by
    simp only [leTab] at h
    rcases List.mem_cons.1 hm with e | hm
    · simp only [Prod.mk.injEq] at e
      obtain ⟨rfl, rfl⟩ := e
      have h1 := h.1
      split at h1
      · rename_i a ha
        split at h1
        · rename_i o ho; exact ⟨a, o, ha, ho, h1⟩
        · exact h1.elim
      · exact h1.elim
    · exact leTab_get h.2 hm
theorem leO_ok {T : Tab} {Δ : List (Nm × Nm)} {β' : Beta} {h : Array Obj} (own : ∀ nm o, T.get nm = some o → OwnOK F h β (γ nm) nm o) (hβ : ∀ n a x, lkN Δ n = some a → β a = some x → β' n = some x) {n a : Nm} {G : Nat → Prop} {o o' : OO}
    (hn : lkN Δ n = some a) (l : leO T Δ o o') (H : OwnOK F h β G a o) : OwnOK (fun b => F b ∨ loose β γ T Δ b) h β' G n o' := by
  have hb := hβ n a
  cases o <;> cases o' <;> simp only [leO] at l
  case box d e =>
    obtain ⟨b, s, cap, q, v, h1, h2, h3, h4⟩ := H
    have hr := leD_rep own hβ e l.1 h4
    exact ⟨b, s, cap, q, v, hb _ hn h1, h2, l.2, hr⟩
  case arr p s z xs p' s' z' ys =>
    obtain ⟨hp, rfl, rfl⟩ := l
    obtain ⟨bo, cap, h1, h2, h3⟩ := H
    refine ⟨bo, cap, hb _ hn h1, h2, fun b hb => ?_⟩
    obtain ⟨h0, c, e, h4, h5, h6, h7⟩ := h3 b hb
    refine ⟨h0, c, e, h4, h5, h6, ?_⟩
    cases p with
    | true =>
      rcases hp with rfl | ⟨h, _⟩
      · exact h7
      · cases h
    | false =>
      cases p' with
      | false => exact Repx.mono (fun x hx => ⟨.inl hx, rfl⟩) _ (fun _ _ h => h) h7
      | true =>
        rcases hp with h | ⟨_, h⟩
        · cases h
        · exact lone_deep h (RowP_false ▸ h7)
  case map kk ks z vs kk' ks' z' vs' =>
    obtain ⟨rfl, rfl, rfl⟩ := l
    obtain ⟨b, s, cap, es, cl, h1, h2, h3, h4⟩ := H
    exact ⟨b, s, cap, es, cl, hb _ hn h1, h2, h3, Reps.mono (fun x hx => ⟨.inl hx, rfl⟩) _ (fun _ _ h => h) h4⟩
  case rmap kk ks s z rows hole kk' ks' s' z' rows' hole' =>
    obtain ⟨rfl, rfl, rfl, rfl, rfl⟩ := l
    obtain ⟨b, s', cap, es, cl, bl, h1, h2, h3, h4, h5⟩ := H
    exact ⟨b, s', cap, es, cl, bl, hb _ hn h1, h2, h3, h4, h5.mono (fun x hx => ⟨.inl hx, rfl⟩) fun x hg => ⟨hg, rfl⟩⟩
  case sit s i s' i' =>
    obtain ⟨rfl, rfl⟩ := l
    obtain ⟨b, s', cap, h1, h2⟩ := H
    exact ⟨b, s', cap, hb _ hn h1, h2⟩
  case mit kk ks z vs sn kk' ks' z' vs' sn' =>
    obtain ⟨rfl, rfl, rfl, rfl⟩ := l
    obtain ⟨b, s, cap, h1, h2⟩ := H
    refine ⟨b, s, cap, hb _ hn h1, h2.imp id fun ⟨mb, es, cl, st, hfg, h3, h4, h5, h6⟩ => ⟨mb, es, cl, st, hfg.imp (fun h => .inl h) id, h3, h4, Reps.mono (fun x hx => ⟨.inl hx, rfl⟩) _ (fun _ _ h => h) h5, h6⟩⟩
theorem OwnOK.place {F : Nat → Prop} {h : Array Obj} {β : Beta} {G : Nat → Prop} {nm : Nm} {o : OO} (H : OwnOK F h β G nm o) (hd : o ≠ .dead) : ∃ y, β nm = some y := by
  cases o with
  | dead => exact absurd rfl hd
  | box d => obtain ⟨_, _, _, _, _, h1, _⟩ := H; exact ⟨_, h1⟩
  | arr p s z xs => obtain ⟨_, _, h1, _⟩ := H; exact ⟨_, h1⟩
  | map kk ks z vs => obtain ⟨_, _, _, _, _, h1, _⟩ := H; exact ⟨_, h1⟩
  | rmap kk ks s z rows hole => obtain ⟨_, _, _, _, _, _, h1, _⟩ := H; exact ⟨_, h1⟩
  | sit s pos => obtain ⟨_, _, _, h1, _⟩ := H; exact ⟨_, h1⟩
  | mit kk ks z vs seen => obtain ⟨_, _, _, h1, _⟩ := H; exact ⟨_, h1⟩

/-- A STATE MAY BE SEEN AS A WEAKER ONE -/
theorem le_core {β0 : Beta} {L : List (Nm × OO)} {g g0 : Nat} {T : Tab} {Δ : List (Nm × Nm)} (O : Own W0 M0 F0 F β γ T g0 w) (hnd : nodupN Δ = true) (hgen : (Δ.all fun p => decide (p.1.2 < g) && (decide (p.1.2 ≠ 0) || decide (p.2 = p.1))) = true)
    (htab : leTab T Δ L) (hg : 1 ≤ g) (h0 : ∀ n x, β0 n = some x → n.2 = 0) (hβ0 : ∀ n x, β0 n = some x → β n = some x) :
    ∃ F' β' γ', Own W0 M0 F0 F' β' γ' (Tab.of L) g w ∧ (∀ n x, β0 n = some x → β' n = some x) ∧ ∀ d e v, leD T Δ d e → Rep F w.heap β d v → Rep F' w.heap β' e v := by
  let β' : Beta := fun n => match β0 n with | some x => some x | none => (lkN Δ n).bind β
  let γ' : Nm → Nat → Prop := fun n => match lkN Δ n with | some a => γ a | none => fun _ => False
  have mem : ∀ n o', (Tab.of L).get n = some o' → ∃ a o, lkN Δ n = some a ∧ T.get a = some o ∧ leO T Δ o o' := fun n o' h => leTab_get htab (Tab.of_mem h)
  have b0 : ∀ n x, β0 n = some x → β' n = some x := fun n x hx => by simp only [β', hx]
  have hΔ : ∀ n a, lkN Δ n = some a → n.2 < g ∧ (n.2 = 0 → a = n) := fun n a hn => by
    have := List.all_eq_true.1 hgen _ (lkN_mem hn)
    simp only [Bool.and_eq_true, Bool.or_eq_true, decide_eq_true_eq] at this
    exact ⟨this.1, fun h => this.2.resolve_left (fun h' => h' h)⟩
  -- where a name of the other is
  have bΔ : ∀ n a, lkN Δ n = some a → β' n = β a ∨ β a = none := fun n a hn => by
    simp only [β']
    split
    · rename_i x hx
      have := (hΔ n a hn).2 (h0 n x hx)
      subst this
      exact .inl (hβ0 a x hx).symm
    · rw [hn]; exact .inl rfl
  have hβ : ∀ n a x, lkN Δ n = some a → β a = some x → β' n = some x := fun n a x hn hx => by
    rcases bΔ n a hn with h | h
    · rw [h]; exact hx
    · rw [h] at hx; cases hx
  have ndead : ∀ o o', leO T Δ o o' → o ≠ .dead := fun o o' h e => by subst e; cases o' <;> simp [leO] at h
  have fpΔ : ∀ n a o, lkN Δ n = some a → T.get a = some o → o ≠ .dead → ∀ x, fp β' γ' n x → fp β γ a x := fun n a o hn ho hd x hx => by
    obtain ⟨y, hy⟩ := (O.own a o ho).place hd
    have e1 : β' n = β a := (bΔ n a hn).resolve_right (by rw [hy]; simp)
    have e2 : γ' n = γ a := by simp only [γ', hn]
    unfold fp at hx ⊢
    rwa [e1, e2] at hx
  refine ⟨fun b => F b ∨ loose β γ T Δ b, β', γ', ?_, b0, fun d e v l r => leD_rep O.own hβ e l r⟩
  refine { F0F := fun b hb => .inl (O.F0F b hb), Fsrc := fun b hb => ?_, Flt := fun b hb => ?_, keep := O.keep, size := O.size, os := O.os, tp := O.tp, out := O.out,
           gen := fun n x hx => ?_, own := fun n o' ho => ?_, fps := fun n o' ho hd x hx => ?_, dis := fun n n' o o' ho ho' hd hd' hne x hx hx' => ?_ }
  · rcases hb with hb | ⟨n, o, h1, h2, _, h4⟩
    · exact O.Fsrc b hb
    · exact .inr (O.fps n o h1 h2 b h4).2.2
  · rcases hb with hb | ⟨n, o, h1, h2, _, h4⟩
    · exact O.Flt b hb
    · exact (O.fps n o h1 h2 b h4).2.1
  · left
    simp only [β'] at hx
    split at hx
    · rename_i y hy
      have := h0 n y hy
      show n.2 < g
      omega
    · cases hn : lkN Δ n with
      | none => rw [hn] at hx; cases hx
      | some a => exact (hΔ n a hn).1
  · obtain ⟨a, o, h1, h2, h3⟩ := mem n o' ho
    have e2 : γ' n = γ a := by simp only [γ', h1]
    rw [e2]
    exact leO_ok O.own hβ h1 h3 (O.own a o h2)
  · obtain ⟨a, o, h1, h2, h3⟩ := mem n o' ho
    have hx' := fpΔ n a o h1 h2 (ndead _ _ h3) x hx
    have := O.fps a o h2 (ndead _ _ h3) x hx'
    refine ⟨fun hf => ?_, this.2⟩
    rcases hf with hf | ⟨n1, o1, k1, k2, k3, k4⟩
    · exact this.1 hf
    · refine O.dis a n1 o o1 h2 k1 (ndead _ _ h3) k2 (fun e => k3 ?_) x hx' k4
      subst e
      exact List.mem_map.2 ⟨_, lkN_mem h1, rfl⟩
  · obtain ⟨a, q, h1, h2, h3⟩ := mem n o ho
    obtain ⟨a', q', h1', h2', h3'⟩ := mem n' o' ho'
    refine O.dis a a' q q' h2 h2' (ndead _ _ h3) (ndead _ _ h3') (fun e => hne ?_) x (fpΔ n a q h1 h2 (ndead _ _ h3) x hx) (fpΔ n' a' q' h1' h2' (ndead _ _ h3') x hx')
    subst e
    exact nodupN_inj hnd (lkN_mem h1) (lkN_mem h1')
theorem le_sound {β0 : Beta} {l : List (Nat × D)} {L : List (Nm × OO)} {g : Nat} {Δ : List (Nm × Nm)} (C : Cpl W0 M0 F0 F β γ σ a w) (h : leSt σ l L g Δ) (hg : 1 ≤ g) (h0 : ∀ n x, β0 n = some x → n.2 = 0) (hβ0 : ∀ n x, β0 n = some x → β n = some x) :
    ∃ F' β' γ', Cpl W0 M0 F0 F' β' γ' (mkS l L g) a w ∧ (∀ n x, β0 n = some x → β' n = some x) := by
  obtain ⟨F', β', γ', O, b0, hr⟩ := le_core C.mem h.1.1 h.1.2 h.2.2 hg h0 hβ0
  exact ⟨F', β', γ', ⟨O, fun t => hr _ _ _ (leTs_get h.2.1) (C.reps t), C.defers, C.glob⟩, b0⟩
end
end Go.Eng
namespace Go.Eng
variable [HasG]
set_option linter.unusedSectionVars false
set_option linter.unusedVariables false
set_option linter.unusedSimpArgs false

/-! ### rows whose elements hold rows of their own: a row is taken out, or put in -/
/-- one cell that is put in: what it becomes, the name that it uses up, what is asked -/
def absC (tab : Tab) (n0 : Nm) : D → Option (D × List Nm × Prop)
  | .lit v => if v.oneCell' = true then some (.lit v, [], True) else none
  | .own k s 0 n => match tab.get k with
    | some (.arr false s2 z ys) => if s2 = s ∧ k ≠ n0 ∧ flatDs ys = true then some (.sl false s z (preL n ys), [k], n ≤ ys.length) else none
    | _ => none
  | .sl true s z [] => some (.sl true s z [], [], True)
  | _ => none
def absCs (tab : Tab) (n0 : Nm) : List D → Option (List D × List Nm × Prop)
  | [] => some ([], [], True)
  | d :: r => match absC tab n0 d, absCs tab n0 r with
    | some (d', ks, p), some (r', ks', p') => some (d' :: r', ks ++ ks', p ∧ p')
    | _, _ => none
def killT (tab : Tab) : List Nm → Tab
  | [] => tab
  | k :: r => (killT tab r).set k .dead
def setX (x : D) (off : Nat) (cs : List D) : D := match x with
  | .agg ds => .agg (ds.take off ++ cs ++ ds.drop (off + cs.length))
  | _ => match cs with
    | [c] => c
    | _ => x
def noDup : List Nm → Bool
  | [] => true
  | n :: r => !r.contains n && noDup r
theorem noDup_ok : ∀ {l : List Nm}, noDup l = true → l.Nodup
  | [], _ => by simp
  | n :: r, h => by
    simp only [noDup, Bool.and_eq_true, Bool.not_eq_true'] at h
    simp only [List.nodup_cons]
    exact ⟨by simpa using h.1, noDup_ok h.2⟩
def intC : D → Bool
  | .lit (.int _ _) => true
  | _ => false
/-- what is asked, what is yielded, the table behind it -/
def deepD (Γ : Ctx) (tab : Tab) (nm : Nm) (ρ : Operand → D) (op : Op) : Option (Prop × D × Tab) :=
  match op with
  | .load t a => match ρ a, Γ.get t with
    | .elp n0 i off, some ti => match ti.kind, tab.get n0 with
      | .slice _, some (.arr true s z xs) => match (cellsD (xs.getD i z))[off]? with
        | some (.sl _ s' z' ys) => some (i < xs.length ∧ tab.get nm = none, .own nm s' 0 ys.length, (tab.set n0 (.arr true s z (xs.set i (setX (xs.getD i z) off [.any])))).set nm (.arr false s' z' ys))
        | _ => none
      | _, _ => none
    | _, _ => none
  | .store t a y => match ρ a, Γ.get t with
    | .elp n0 i off, some ti => match tab.get n0 with
      | some (.arr p s z xs) => match absCs tab n0 (cellsD (ρ y)) with
        | some (cs, ks, q) => if cs.length = ti.size ∧ 0 < ti.size ∧ off + ti.size ≤ s ∧ okD (ρ y) = true ∧ noDup ks = true then
            some (i < xs.length ∧ (p = true ∨ xs.all loneD = true) ∧ q, .any, (killT tab ks).set n0 (.arr true s z (xs.set i (setX (xs.getD i z) off cs)))) else none
        | none => none
      | _ => none
    | _, _ => none
  | .slice t x none none none => match ρ x, Γ.get t with
    | .ptr n0 off, some ti => match ti.kind, tab.get n0 with
      | .arr n e, some (.box (.agg cs)) => match Γ.get e with
        | some ei => if off = 0 ∧ ei.size = 1 ∧ cs.length = n ∧ 0 < n ∧ cs.all intC = true ∧ n0 ≠ nm then some (tab.get nm = none, .own nm 1 0 n, (tab.set n0 .dead).set nm (.arr false 1 ei.z cs)) else none
        | none => none
      | _, _ => none
    | _, _ => none
  | _ => none

theorem setX_cells {x : D} {off : Nat} {cs : List D} (h1 : off + cs.length ≤ (cellsD x).length) (hc : ∀ c ∈ cs, c.isAgg = false) (hn : 0 < cs.length) : cellsD (setX x off cs) = (cellsD x).take off ++ cs ++ (cellsD x).drop (off + cs.length) := by
  by_cases ha : ∃ ds, x = .agg ds
  · obtain ⟨ds, rfl⟩ := ha; rfl
  · have hcx : cellsD x = [x] := by cases x <;> first | rfl | exact absurd ⟨_, rfl⟩ ha
    rw [hcx] at h1 ⊢
    simp only [List.length_singleton] at h1
    match cs, h1, hn, hc with
    | [c], h1, _, hc =>
      have h0 : off = 0 := by simp at h1; omega
      subst h0
      have hca := hc c (by simp)
      have e : setX x 0 [c] = c := by cases x <;> first | rfl | exact absurd ⟨_, rfl⟩ ha
      rw [e]
      cases c <;> first | rfl | (simp [D.isAgg] at hca)
    | c :: c' :: r, h1, _, _ => simp at h1; omega

section
variable {P : Program} {Γ : Ctx} {W0 : World} {M0 F0 F : Nat → Prop} {β : Beta} {γ : Nm → Nat → Prop} {tab : Tab} {gen : Nat} {w : World}

/-- the cells that are put in lie in blocks of the names that they use up -/
theorem absC_ok (O : Own W0 M0 F0 F β γ tab gen w) {n0 : Nm} {d d' : D} {ks : List Nm} {q : Prop} {v : Value} (h : absC tab n0 d = some (d', ks, q)) (hq : q) (r : Rep F w.heap β d v) :
    ∃ bo, CellK w.heap (fun x => ∃ k ∈ ks, fp β γ k x) d' bo v ∧ (∀ x, bo = some x → ∃ k ∈ ks, fp β γ k x) ∧ (∀ k ∈ ks, k ≠ n0 ∧ ∃ s z ys, tab.get k = some (.arr false s z ys)) ∧ d'.isAgg = false := by
  unfold absC at h
  split at h
  · rename_i u
    split at h
    · rename_i ho
      simp only [Option.some.injEq, Prod.mk.injEq] at h
      obtain ⟨rfl, rfl, rfl⟩ := h
      exact ⟨none, ⟨rfl, ho, by simpa only [Rep] using r⟩, fun x hx => (by cases hx), by simp, rfl⟩
    · cases h
  · rename_i k s n
    split at h
    · rename_i s2 z ys hk
      split at h
      · rename_i hc
        obtain ⟨rfl, hne, hfl⟩ := hc
        simp only [Option.some.injEq, Prod.mk.injEq] at h
        obtain ⟨rfl, rfl, rfl⟩ := h
        have hkk : ∀ k' ∈ [k], k' ≠ n0 ∧ ∃ s z ys, tab.get k' = some (.arr false s z ys) := fun k' hk' => by
          rw [List.mem_singleton.1 hk']; exact ⟨hne, _, _, _, hk⟩
        have hlen : (preL n ys).length = n := by simp only [preL, List.length_take]; omega
        simp only [Rep] at r
        rcases r with ⟨a, h0, rfl⟩ | ⟨b, cap, hβ, rfl, hle⟩
        · refine ⟨none, .inl ⟨rfl, by rw [h0]; simp [preL], a, rfl⟩, fun x hx => (by cases hx), hkk, rfl⟩
        · obtain ⟨bo, cap', hβ', _, hcells⟩ := O.own k _ hk
          rw [hβ] at hβ'
          simp only [Option.some.injEq, Prod.mk.injEq] at hβ'
          obtain ⟨rfl, _, rfl⟩ := hβ'
          obtain ⟨_, c, e, hb, hcs, hcl, hrow⟩ := hcells b rfl
          simp only [RowP_false] at hrow
          have hfp : ∃ k' ∈ [k], fp β γ k' b := ⟨k, by simp, .inl ⟨_, _, hβ⟩⟩
          refine ⟨some b, .inr ⟨b, cap, c, e, rfl, by rw [hlen]; simp, hfp, hb, hcs, by omega, ?_⟩, fun x hx => by cases hx; exact hfp, hkk, rfl⟩
          have h1 := Repx.take_drop (Repx.flat (F' := fun _ => False) hfl hrow) 0 n
          rw [Nat.zero_mul, Nat.add_zero] at h1
          simpa [preL] using h1
      · cases h
    · cases h
  · rename_i s z
    simp only [Option.some.injEq, Prod.mk.injEq] at h
    obtain ⟨rfl, rfl, rfl⟩ := h
    refine ⟨none, .inl ⟨rfl, rfl, ?_⟩, fun x hx => (by cases hx), by simp, rfl⟩
    simp only [Rep] at r
    rcases r with ⟨_, a, cap, e, hc⟩ | ⟨b, off, cap, c', e, fr, e1, _, _, _, hc, _⟩
    · rw [hc trivial] at e; exact ⟨a, e⟩
    · have := hc trivial
      simp only [List.length_nil] at this e1
      rw [this] at e1; exact ⟨_, e1⟩
  · cases h
theorem absCs_ok (O : Own W0 M0 F0 F β γ tab gen w) {n0 : Nm} : ∀ {ds : List D} {ds' : List D} {ks : List Nm} {q : Prop} {vs : List Value}, absCs tab n0 ds = some (ds', ks, q) → q → ks.Nodup → Reps F w.heap β ds vs →
    ∃ nb : Nat → Option Nat, (∀ j d, ds'[j]? = some d → ∃ v, vs[j]? = some v ∧ CellK w.heap (fun x => ∃ k ∈ ks, fp β γ k x) d (nb j) v) ∧ (∀ j x, nb j = some x → j < ds'.length ∧ ∃ k ∈ ks, fp β γ k x) ∧ (∀ j j' x, nb j = some x → nb j' = some x → j = j') ∧
      (∀ k ∈ ks, k ≠ n0 ∧ ∃ s z ys, tab.get k = some (.arr false s z ys)) ∧ (∀ d ∈ ds', d.isAgg = false) ∧ ds'.length = ds.length
  | [], ds', ks, q, vs, h, hq, hnd, r => by
    simp only [absCs, Option.some.injEq, Prod.mk.injEq] at h
    obtain ⟨rfl, rfl, rfl⟩ := h
    exact ⟨fun _ => none, by simp, by simp, by simp, by simp, by simp, rfl⟩
  | d :: ds, ds', ks, q, vs, h, hq, hnd, r => by
    simp only [absCs] at h
    split at h
    · rename_i d1 k1 q1 r1 k2 q2 h1 h2
      simp only [Option.some.injEq, Prod.mk.injEq] at h
      obtain ⟨rfl, rfl, rfl⟩ := h
      simp only [Reps] at r
      obtain ⟨v, vs', rfl, hv, hvs⟩ := r
      have hnd' := List.nodup_append.1 hnd
      obtain ⟨bo, c1, c2, c3, c4⟩ := absC_ok O h1 hq.1 hv
      obtain ⟨nb, e1, e2, e3, e4, e5, e6⟩ := absCs_ok O h2 hq.2 hnd'.2.1 hvs
      have hcross : ∀ x k k', k ∈ k1 → k' ∈ k2 → fp β γ k x → fp β γ k' x → False := fun x k k' hk hk' hx hx' => by
        have hne : k ≠ k' := hnd'.2.2 k hk k' hk'
        obtain ⟨_, _, _, _, g1⟩ := c3 k hk
        obtain ⟨_, _, _, _, g2⟩ := e4 k' hk'
        exact O.dis k k' _ _ g1 g2 (by simp) (by simp) hne x hx hx'
      refine ⟨fun j => match j with | 0 => bo | j + 1 => nb j, fun j d hd => ?_, fun j x hx => ?_, fun j j' x hx hx' => ?_, fun k hk => ?_, fun d hd => ?_, by simp [e6]⟩
      · cases j with
        | zero =>
          simp only [List.getElem?_cons_zero, Option.some.injEq] at hd
          subst hd
          exact ⟨v, rfl, c1.mono fun x _ ⟨k, hk, hx⟩ => ⟨⟨k, by simp [hk], hx⟩, rfl⟩⟩
        | succ j =>
          obtain ⟨u, hu, hk⟩ := e1 j d (by simpa using hd)
          exact ⟨u, by simpa using hu, hk.mono fun x _ ⟨k, hk, hx⟩ => ⟨⟨k, by simp [hk], hx⟩, rfl⟩⟩
      · cases j with
        | zero =>
          obtain ⟨k, hk, hx'⟩ := c2 x hx
          exact ⟨by simp, k, by simp [hk], hx'⟩
        | succ j =>
          obtain ⟨hj, k, hk, hx'⟩ := e2 j x hx
          exact ⟨by simp; omega, k, by simp [hk], hx'⟩
      · cases j with
        | zero => cases j' with
          | zero => rfl
          | succ j' =>
            obtain ⟨k, hk, g1⟩ := c2 x hx
            obtain ⟨_, k', hk', g2⟩ := e2 j' x hx'
            exact (hcross x k k' hk hk' g1 g2).elim
        | succ j => cases j' with
          | zero =>
            obtain ⟨k, hk, g1⟩ := c2 x hx'
            obtain ⟨_, k', hk', g2⟩ := e2 j x hx
            exact (hcross x k k' hk hk' g1 g2).elim
          | succ j' => rw [e3 j j' x hx hx']
      · rcases List.mem_append.1 hk with hk | hk
        · exact c3 k hk
        · exact e4 k hk
      · rcases List.mem_cons.1 hd with rfl | hd
        · exact c4
        · exact e5 d hd
    · cases h
theorem killT_get (tab : Tab) (n : Nm) : ∀ (ks : List Nm), (killT tab ks).get n = if n ∈ ks then some .dead else tab.get n
  | [] => by simp [killT]
  | k :: r => by
    simp only [killT, Tab.get_set, killT_get tab n r, List.mem_cons]
    by_cases e : k = n
    · subst e; simp
    · simp [e, Ne.symm e]

/-- a row is taken out -/
theorem take_sound {nm n0 : Nm} {t : TypeId} {ti : TI} {i off s s' : Nat} {z z' : D} {xs ys : List D} {tt : Bool} {vx : Value} (ht : ti.ok P t) (hk : ti.kind.isAgg = false) (O : Own W0 M0 F0 F β γ tab gen w) (hg : nm.2 = gen) (hn : tab.get nm = none)
    (hx : tab.get n0 = some (.arr true s z xs)) (hi : i < xs.length) (hc : (cellsD (xs.getD i z))[off]? = some (.sl tt s' z' ys)) (rx : Rep F w.heap β (.elp n0 i off) vx) :
    ∃ (β' : Beta) (γ' : Nm → Nat → Prop) (v : Value), (Instr.loadAt t vx).run P w = .ok v w ∧ Own W0 M0 F0 F β' γ' ((tab.set n0 (.arr true s z (xs.set i (setX (xs.getD i z) off [.any])))).set nm (.arr false s' z' ys)) gen w ∧
      (∀ n x, β n = some x → β' n = some x) ∧ Rep F w.heap β' (.own nm s' 0 ys.length) v := by
  simp only [Rep] at rx
  obtain ⟨b, s2, cap, hβ, rfl⟩ := rx
  obtain ⟨bo, cap', hβ', hbo, hcells⟩ := O.own n0 _ hx
  rw [hβ] at hβ'
  simp only [Option.some.injEq, Prod.mk.injEq] at hβ'
  obtain ⟨rfl, rfl, rfl⟩ := hβ'
  obtain ⟨hnG, c, e, hb, hcs, hcap, hrow⟩ := hcells b rfl
  simp only [RowP_true] at hrow
  obtain ⟨bl, hd1, hd2, hd3⟩ := hrow
  have hxi : xs[i]? = some (xs.getD i z) := by simp [List.getD, hi]
  generalize xs.getD i z = X at *
  obtain ⟨hxl, hxc⟩ := hd1 i _ hxi
  obtain ⟨v, hv, hcell⟩ := hxc off _ hc
  have hoff : off < s2 := by rw [← hxl]; exact (List.getElem?_eq_some_iff.1 hc).1
  have hrun : (Instr.loadAt t (.pointer (some ⟨b, i * s2 + off, none⟩))).run P w = .ok v w := by
    refine (run_load_row ht hb (vs := [v]) (fun j u hj => ?_)).2 hk v rfl
    cases j with
    | zero => simp at hj; subst hj; simpa using hv
    | succ j => simp at hj
  have hrowok : RowOK (fun _ => False) w.heap (γ n0) s' ys (bl (i * s2 + off)) v := hcell
  have hβn : β nm = none := by
    cases hb : β nm with
    | none => rfl
    | some x => rcases O.gen _ _ hb with h | ⟨_, h⟩
                · omega
                · simp [hn] at h
  have hne : nm ≠ n0 := fun e => by rw [e, hx] at hn; cases hn
  generalize hq : i * s2 + off = q at *
  obtain ⟨c0, hc0⟩ : ∃ c0, (bl q = none → ys = [] ∧ c0 = 0 ∧ ∃ a, v = .slice a 0 0) ∧ ∀ x, bl q = some x → γ n0 x ∧ v = .slice (some ⟨x, 0, none⟩) ys.length c0 ∧ ∃ c e, w.heap[x]? = some (.cells c e (0, 0)) ∧ c.size = c0 * s' ∧ ys.length ≤ c0 ∧ Repx (fun _ => False) w.heap Beta.none s' c ys 0 := by
    rcases hrowok with ⟨h1, h2, h3⟩ | ⟨x, cp, c, e, h1, h2, h3, h4, h5, h6, h7⟩
    · exact ⟨0, fun _ => ⟨h2, rfl, h3⟩, fun x hx => (by rw [h1] at hx; cases hx)⟩
    · exact ⟨cp, fun hx => (by rw [h1] at hx; cases hx), fun y hy => (by rw [h1] at hy; cases hy; exact ⟨h3, h2, c, e, h4, h5, h6, h7⟩)⟩
  let β' : Beta := fun n => if n = nm then some (bl q, s', c0) else β n
  have hβ2 : ∀ n x, β n = some x → β' n = some x := fun n x h => by
    simp only [β']; rw [if_neg]
    · exact h
    · rintro rfl; rw [hβn] at h; cases h
  have hβ0 : β' nm = some (bl q, s', c0) := by simp [β']
  let γ' : Nm → Nat → Prop := fun n => if n = nm then (fun _ => False) else if n = n0 then (fun x => γ n0 x ∧ bl q ≠ some x) else γ n
  have hγ0 : γ' n0 = fun x => γ n0 x ∧ bl q ≠ some x := by simp [γ', Ne.symm hne]
  have hγ1 : γ' nm = fun _ => False := by simp [γ']
  have fp0 : ∀ x, fp β' γ' n0 x → fp β γ n0 x ∧ bl q ≠ some x := fun x hx => by
    rcases hx with ⟨s3, c2, hx⟩ | hx
    · simp only [β', Ne.symm hne, if_false] at hx
      refine ⟨.inl ⟨s3, c2, hx⟩, fun e => ?_⟩
      rw [hβ] at hx
      simp only [Option.some.injEq, Prod.mk.injEq] at hx
      exact hnG (hx.1 ▸ (hc0.2 x e).1)
    · rw [hγ0] at hx; exact ⟨.inr hx.1, hx.2⟩
  have fp1 : ∀ x, fp β' γ' nm x → bl q = some x := fun x hx => by
    rcases hx with ⟨s3, c2, hx⟩ | hx
    · rw [hβ0] at hx; simp only [Option.some.injEq, Prod.mk.injEq] at hx; exact hx.1
    · rw [hγ1] at hx; exact hx.elim
  refine ⟨β', γ', v, hrun, ?_, hβ2, ?_⟩
  · refine Own.split O n0 nm _ (.arr true s2 z (xs.set i (setX X off [.any]))) (.arr false s' z' ys) hx (by simp) hn hg (fun n h1 h2 => ?_) ?_ ?_ hβ2 (fun n h => by simp [β', h]) (fun n h1 h2 => by simp [γ', h1, h2]) ?_ ?_ (fun x hx => (fp0 x hx).1) (fun x hx => .inr (hc0.2 x (fp1 x hx)).1) (fun x hx hx' => (fp0 x hx).2 (fp1 x hx'))
    · rw [Tab.get_set, if_neg (Ne.symm h2), Tab.get_set, if_neg (Ne.symm h1)]
    · rw [Tab.get_set, if_neg hne, Tab.get_set, if_pos rfl]
    · rw [Tab.get_set, if_pos rfl]
    · refine ⟨some b, cap, hβ2 _ _ hβ, (fun h => by cases h), fun b' hb' => ?_⟩
      cases hb'
      refine ⟨by rw [hγ0]; exact fun h => hnG h.1, c, e, hb, hcs, by simpa using hcap, ?_⟩
      rw [RowP_true]
      have hsx : cellsD (setX X off [.any]) = (cellsD X).take off ++ [.any] ++ (cellsD X).drop (off + 1) := setX_cells (by simp; omega) (by simp [D.isAgg]) (by simp)
      refine ⟨fun k => if k = q then none else bl k, fun k x hk' => ?_, fun k k' y h1 h2 => ?_, fun k y h1 => ?_⟩
      · have hkl : k < xs.length := by have := (List.getElem?_eq_some_iff.1 hk').1; simpa using this
        have keep : ∀ j d, (∃ x, xs[k]? = some x ∧ (cellsD x)[j]? = some d) → k * s2 + j ≠ q → ∃ v, c[k * s2 + j]? = some v ∧ CellK w.heap (γ' n0) d (if k * s2 + j = q then none else bl (k * s2 + j)) v := fun j d ⟨x, hx1, hx2⟩ hneq => by
          obtain ⟨u, hu, hku⟩ := (hd1 k x hx1).2 j d hx2
          refine ⟨u, hu, ?_⟩
          rw [if_neg hneq]
          refine hku.mono fun y hy hgy => ⟨?_, rfl⟩
          rw [hγ0]
          exact ⟨hgy, fun e => hneq (hd2 _ _ y hy e)⟩
        by_cases hki : k = i
        · subst hki
          rw [List.getElem?_set_self (by omega)] at hk'
          simp only [Option.some.injEq] at hk'
          subst hk'
          refine ⟨by rw [hsx]; simp; omega, fun j d hd => ?_⟩
          rw [hsx] at hd
          by_cases hjo : j = off
          · subst hjo
            rw [List.append_assoc, List.getElem?_append_right (by simp; omega)] at hd
            have h0 : j - (List.take j (cellsD X)).length = 0 := by simp; omega
            rw [h0] at hd
            simp at hd; subst hd
            refine ⟨v, by rw [hq]; exact hv, ?_⟩
            show CellK _ _ _ (if _ = q then none else bl _) v
            rw [if_pos hq]
            exact ⟨rfl, hcell.one⟩
          · refine keep j d ⟨_, hxi, ?_⟩ (by omega)
            by_cases hjl : j < off
            · rw [List.append_assoc, List.getElem?_append_left (by simp; omega), List.getElem?_take, if_pos hjl] at hd
              exact hd
            · have h1 : (List.take off (cellsD X) ++ [D.any]).length = off + 1 := by simp; omega
              rw [List.getElem?_append_right (by omega), h1, List.getElem?_drop] at hd
              rw [show off + 1 + (j - (off + 1)) = j by omega] at hd
              exact hd
        · rw [List.getElem?_set_ne (Ne.symm hki)] at hk'
          refine ⟨(hd1 k x hk').1, fun j d hd => keep j d ⟨x, hk', hd⟩ ?_⟩
          have hjs : j < s2 := by rw [← (hd1 k x hk').1]; exact (List.getElem?_eq_some_iff.1 hd).1
          rw [← hq]
          intro e2
          rcases Nat.lt_or_gt_of_ne hki with hlt | hlt
          · have : (k + 1) * s2 ≤ i * s2 := Nat.mul_le_mul_right _ hlt
            rw [Nat.add_mul] at this; omega
          · have : (i + 1) * s2 ≤ k * s2 := Nat.mul_le_mul_right _ hlt
            rw [Nat.add_mul] at this; omega
      · simp only at h1 h2
        split at h1
        · cases h1
        · split at h2
          · cases h2
          · exact hd2 k k' y h1 h2
      · simp only at h1
        split at h1
        · cases h1
        · rename_i hkq
          rw [hγ0]
          exact ⟨hd3 k y h1, fun e => hkq (hd2 k q y h1 e)⟩
    · refine ⟨bl q, c0, hβ0, fun e => ⟨(hc0.1 e).1, (hc0.1 e).2.1⟩, fun x hx => ?_⟩
      obtain ⟨_, _, c, e, h1, h2, h3, h4⟩ := hc0.2 x hx
      exact ⟨by rw [hγ1]; exact id, c, e, h1, h2, h3, Repx.mono (fun b hb => hb.elim) _ (fun _ _ h => h) h4⟩
  · simp only [Rep]
    cases hbq : bl q with
    | none =>
      obtain ⟨h1, _, a, h2⟩ := hc0.1 hbq
      exact .inl ⟨a, by rw [h1]; rfl, h2⟩
    | some x =>
      obtain ⟨_, h2, _, _, _, _, h3, _⟩ := hc0.2 x hbq
      exact .inr ⟨x, c0, by rw [hβ0, hbq], by rw [h2]; simp, by omega⟩

/-- cells are put in -/
theorem put_sound {n0 : Nm} {t : TypeId} {ti : TI} {i off s : Nat} {p : Bool} {z y : D} {xs cs : List D} {ks : List Nm} {q : Prop} {vx vy : Value} (ht : ti.ok P t) (O : Own W0 M0 F0 F β γ tab gen w)
    (hx : tab.get n0 = some (.arr p s z xs)) (hi : i < xs.length) (hp : p = true ∨ xs.all loneD = true) (habs : absCs tab n0 (cellsD y) = some (cs, ks, q)) (hq : q) (hcl : cs.length = ti.size) (hz : 0 < ti.size) (hoff : off + ti.size ≤ s)
    (hok : okD y = true) (hnd : ks.Nodup) (rx : Rep F w.heap β (.elp n0 i off) vx) (ry : Rep F w.heap β y vy) :
    ∃ (γ' : Nm → Nat → Prop) (w' : World), (do Instr.storeAt t vx vy; pure .skip : Sem Next).run P w = .ok .skip w' ∧ Own W0 M0 F0 F β γ' ((killT tab ks).set n0 (.arr true s z (xs.set i (setX (xs.getD i z) off cs)))) gen w' ∧ (∀ b, F b → w'.heap[b]? = w.heap[b]?) := by
  simp only [Rep] at rx
  obtain ⟨b, s2, cap, hβ, rfl⟩ := rx
  obtain ⟨bo, cap', hβ', hbo, hcells⟩ := O.own n0 _ hx
  rw [hβ] at hβ'
  simp only [Option.some.injEq, Prod.mk.injEq] at hβ'
  obtain ⟨rfl, rfl, rfl⟩ := hβ'
  obtain ⟨hnG, c, e, hb, hcs, hcap, hrow⟩ := hcells b rfl
  have hdeep : DeepOK w.heap (γ n0) s2 c xs := by
    cases p with
    | true => exact hrow
    | false => exact lone_deep (hp.resolve_left (by simp)) (RowP_false ▸ hrow)
  obtain ⟨bl, hd1, hd2, hd3⟩ := hdeep
  have hcy := ry.cells hok
  obtain ⟨nb, e1, e2, e3, e4, e5, e6⟩ := absCs_ok O habs hq hnd hcy
  have hxi : xs[i]? = some (xs.getD i z) := by simp [List.getD, hi]
  generalize xs.getD i z = X at *
  obtain ⟨hxl, hxc⟩ := hd1 i _ hxi
  have hvl : vy.cells.toList.length = ti.size := by rw [hcy.length, ← e6, hcl]
  have hmul : (i + 1) * s2 ≤ cap * s2 := Nat.mul_le_mul_right _ (by omega)
  rw [Nat.add_mul] at hmul
  have hfit : (i * s2 + off) + vy.cells.toList.length ≤ c.toList.length := by rw [hvl, Array.length_toList]; omega
  have hrun : (do Instr.storeAt t (.pointer (some ⟨b, i * s2 + off, none⟩)) vy; pure .skip : Sem Next).run P w = .ok .skip (w.setRow b (c.toList.take (i * s2 + off) ++ vy.cells.toList ++ c.toList.drop (i * s2 + off + vy.cells.toList.length)).toArray) := by
    have hst := run_storeCells_at P b (i * s2 + off) e vy.cells.toList 0 c w hb (by simp only [Array.length_toList] at hfit ⊢; omega) (ry.ones hok)
    simp only [Nat.add_zero] at hst
    simp only [Instr.storeAt, Instr.sureAddr, storeVar, Sem.run_bind, Sem.run_pure, Result.andThen_ok, ht.run_size]
    rw [if_neg (by simp at hvl ⊢; omega)]
    simp only [Result.andThen_ok, Sem.run_pure, Sem.run_bind, hst]
  generalize hce : (c.toList.take (i * s2 + off) ++ vy.cells.toList ++ c.toList.drop (i * s2 + off + vy.cells.toList.length)).toArray = c' at hrun
  have hc'get : ∀ j, c'[j]? = if j < i * s2 + off then c[j]? else if j < i * s2 + off + ti.size then vy.cells.toList[j - (i * s2 + off)]? else c[j]? := fun j => by
    rw [← hce, List.getElem?_toArray, getElem?_splice _ _ _ hfit, hvl]; simp
  have hc's : c'.size = cap * s2 := by
    rw [← hce, ← hcs]
    simp only [List.size_toArray, List.length_append, List.length_take, List.length_drop, Array.length_toList] at hfit ⊢
    omega
  have hbn := O.fps n0 _ hx (by simp) b (.inl ⟨_, _, hβ⟩)
  have hKb : ∀ k ∈ ks, ∀ x, fp β γ k x → x ≠ b ∧ ¬ γ n0 x := fun k hk x hx' => by
    obtain ⟨hkn, _, _, _, hkt⟩ := e4 k hk
    have hd := O.dis k n0 _ _ hkt hx (by simp) (by simp) hkn x hx'
    exact ⟨fun e => hd (e ▸ .inl ⟨_, _, hβ⟩), fun hg => hd (.inr hg)⟩
  let γ' : Nm → Nat → Prop := fun n => if n = n0 then (fun x => γ n0 x ∨ ∃ k ∈ ks, fp β γ k x) else γ n
  have hγ0 : γ' n0 = fun x => γ n0 x ∨ ∃ k ∈ ks, fp β γ k x := by simp [γ']
  have hother : ∀ k, k ≠ b → (w.setRow b c').heap[k]? = w.heap[k]? := fun k hk => setRow_other w b k _ hk
  refine ⟨γ', w.setRow b c', hrun, ?_, fun k hk => hother k fun e => hbn.1 (e ▸ hk)⟩
  have hkill : ∀ n, n ≠ n0 → ((killT tab ks).set n0 (.arr true s2 z (xs.set i (setX X off cs)))).get n = if n ∈ ks then some .dead else tab.get n := fun n hn => by
    rw [Tab.get_set, if_neg (Ne.symm hn), killT_get]
  refine O.one n0 (.arr true s2 z (xs.set i (setX X off cs))) (fun n hne => ?_) ?_ ?_ (fun _ _ h => h) (fun _ _ => rfl) (fun n hn => by simp [γ', hn]) (fun k => k = b) (fun k _ hk => hother k hk) (fun k hk => hk ▸ hbn.1) (fun n o' hne h' hd k hk hfp => ?_) (fun k hk => hk ▸ hbn.2.2) (Nat.le_of_eq (setRow_size w b _).symm) rfl rfl rfl (fun _ => Iff.rfl) ?_ ?_
  · rw [hkill n hne]
    split
    · rename_i hk
      obtain ⟨_, _, _, _, hkt⟩ := e4 n hk
      exact .inr ⟨rfl, by rw [hkt]; rfl⟩
    · exact .inl rfl
  · rw [Tab.get_set, if_pos rfl]
  · rcases O.gen _ _ hβ with h | h <;> omega
  · subst hk
    rw [hkill n hne] at h'
    split at h'
    · cases h'; exact hd rfl
    · exact O.dis n n0 o' _ h' hx hd (by simp) hne k hfp (.inl ⟨_, _, hβ⟩)
  · refine ⟨some b, cap, hβ, (fun h => by cases h), fun b' hb' => ?_⟩
    cases hb'
    refine ⟨by rw [hγ0]; rintro (h | ⟨k, hk, h⟩); exact hnG h; exact (hKb k hk b h).1 rfl, c', e, setRow_heap w b c c' e (0, 0) hb, hc's, by simpa using hcap, ?_⟩
    rw [RowP_true]
    have hsx : cellsD (setX X off cs) = (cellsD X).take off ++ cs ++ (cellsD X).drop (off + cs.length) := setX_cells (by omega) e5 (by omega)
    have hlc : off + cs.length ≤ (cellsD X).length := by omega
    refine ⟨fun k => if k < i * s2 + off then bl k else if k < i * s2 + off + ti.size then nb (k - (i * s2 + off)) else bl k, fun k x hk' => ?_, fun k k' y h1 h2 => ?_, fun k y h1 => ?_⟩
    · have hkl : k < xs.length := by have := (List.getElem?_eq_some_iff.1 hk').1; simpa using this
      have keep : ∀ j d, (∃ x, xs[k]? = some x ∧ (cellsD x)[j]? = some d) → (k * s2 + j < i * s2 + off ∨ i * s2 + off + ti.size ≤ k * s2 + j) →
          ∃ v, c'[k * s2 + j]? = some v ∧ CellK (w.setRow b c').heap (γ' n0) d (if k * s2 + j < i * s2 + off then bl (k * s2 + j) else if k * s2 + j < i * s2 + off + ti.size then nb (k * s2 + j - (i * s2 + off)) else bl (k * s2 + j)) v := fun j d ⟨x, hx1, hx2⟩ hout => by
        obtain ⟨u, hu, hku⟩ := (hd1 k x hx1).2 j d hx2
        have e7 : (if k * s2 + j < i * s2 + off then bl (k * s2 + j) else if k * s2 + j < i * s2 + off + ti.size then nb (k * s2 + j - (i * s2 + off)) else bl (k * s2 + j)) = bl (k * s2 + j) := by
          rcases hout with h | h
          · rw [if_pos h]
          · rw [if_neg (by omega), if_neg (by omega)]
        refine ⟨u, ?_, ?_⟩
        · rw [hc'get]
          rcases hout with h | h
          · rw [if_pos h]; exact hu
          · rw [if_neg (by omega), if_neg (by omega)]; exact hu
        · rw [e7]
          refine hku.mono fun y hy hgy => ⟨?_, hother y fun e => hnG (e ▸ hgy)⟩
          rw [hγ0]; exact .inl hgy
      by_cases hki : k = i
      · subst hki
        rw [List.getElem?_set_self (by omega)] at hk'
        simp only [Option.some.injEq] at hk'
        subst hk'
        refine ⟨by rw [hsx]; simp; omega, fun j d hd => ?_⟩
        rw [hsx, getElem?_splice _ _ _ hlc] at hd
        split at hd
        · rename_i hj
          exact keep j d ⟨X, hxi, hd⟩ (by omega)
        · split at hd
          · rename_i hj1 hj2
            obtain ⟨v, hv, hk2⟩ := e1 (j - off) d hd
            refine ⟨v, ?_, ?_⟩
            · rw [hc'get, if_neg (by omega), if_pos (by omega), show k * s2 + j - (k * s2 + off) = j - off by omega]; exact hv
            · show CellK _ _ d (if _ < _ then _ else if _ < _ then _ else _) v
              rw [if_neg (by omega), if_pos (by omega), show k * s2 + j - (k * s2 + off) = j - off by omega]
              refine hk2.mono fun y hy ⟨k', hk', hf⟩ => ⟨?_, hother y (hKb k' hk' y hf).1⟩
              rw [hγ0]; exact .inr ⟨k', hk', hf⟩
          · rename_i hj1 hj2
            exact keep j d ⟨X, hxi, hd⟩ (by omega)
      · rw [List.getElem?_set_ne (Ne.symm hki)] at hk'
        refine ⟨(hd1 k x hk').1, fun j d hd => keep j d ⟨x, hk', hd⟩ ?_⟩
        have hjs : j < s2 := by rw [← (hd1 k x hk').1]; exact (List.getElem?_eq_some_iff.1 hd).1
        rcases Nat.lt_or_gt_of_ne hki with hlt | hlt
        · have : (k + 1) * s2 ≤ i * s2 := Nat.mul_le_mul_right _ hlt
          rw [Nat.add_mul] at this; omega
        · have : (i + 1) * s2 ≤ k * s2 := Nat.mul_le_mul_right _ hlt
          rw [Nat.add_mul] at this; omega
    · have cross : ∀ k j y, bl k = some y → nb j = some y → False := fun k j y h1 h2 => by
        obtain ⟨_, k', hk', hf⟩ := e2 j y h2
        exact (hKb k' hk' y hf).2 (hd3 k y h1)
      simp only at h1 h2
      split at h1
      · split at h2
        · exact hd2 k k' y h1 h2
        · split at h2
          · exact (cross _ _ y h1 h2).elim
          · exact hd2 k k' y h1 h2
      · split at h1
        · split at h2
          · exact (cross _ _ y h2 h1).elim
          · split at h2
            · have := e3 _ _ y h1 h2; omega
            · exact (cross _ _ y h2 h1).elim
        · split at h2
          · exact hd2 k k' y h1 h2
          · split at h2
            · exact (cross _ _ y h1 h2).elim
            · exact hd2 k k' y h1 h2
    · rw [hγ0]
      simp only at h1
      have hn : ∀ j, nb j = some y → γ n0 y ∨ ∃ k ∈ ks, fp β γ k y := fun j hj => .inr (e2 j y hj).2
      split at h1
      · exact .inl (hd3 k y h1)
      · split at h1
        · exact hn _ h1
        · exact .inl (hd3 k y h1)
  · intro _ x hx'
    rcases hx' with h | h
    · exact .inr ⟨n0, _, hx, by simp, .inl h, .inl rfl⟩
    · rw [hγ0] at h
      rcases h with h | ⟨k, hk, h⟩
      · exact .inr ⟨n0, _, hx, by simp, .inr h, .inl rfl⟩
      · obtain ⟨hkn, _, _, _, hkt⟩ := e4 k hk
        exact .inr ⟨k, _, hkt, by simp, h, .inr (by rw [hkill k hkn, if_pos hk])⟩

/-- an array that lies in a box, as a row -/
theorem arr_sound {nm n0 : Nm} {t e : TypeId} {ei : TI} {n : Nat} {cs : List D} {z : D} {vx : Value} (hu : P.underlying t = some (.array n e)) (he : ei.ok P e) (hes : ei.size = 1) (O : Own W0 M0 F0 F β γ tab gen w) (hg : nm.2 = gen) (hn : tab.get nm = none)
    (hx : tab.get n0 = some (.box (.agg cs))) (hl : cs.length = n) (hpos : 0 < n) (hi : cs.all intC = true) (hne : n0 ≠ nm) (rx : Rep F w.heap β (.ptr n0 0) vx) :
    ∃ (β' : Beta) (γ' : Nm → Nat → Prop) (v : Value), (Instr.sliceAt t vx none none none).run P w = .ok v w ∧ Own W0 M0 F0 F β' γ' ((tab.set n0 .dead).set nm (.arr false 1 z cs)) gen w ∧ (∀ n x, β n = some x → β' n = some x) ∧ Rep F w.heap β' (.own nm 1 0 n) v := by
  simp only [Rep] at rx
  obtain ⟨b, s2, cap, hβ, rfl⟩ := rx
  obtain ⟨b', s', cap', ty, v, hβ', hb, hok, hr⟩ := O.own n0 _ hx
  rw [hβ] at hβ'
  simp only [Option.some.injEq, Prod.mk.injEq] at hβ'
  obtain ⟨rfl, rfl, rfl⟩ := hβ'
  have hcy := hr.cells hok
  have hcl : v.cells.size = n := by
    have := hcy.length
    simp only [cellsD, Array.length_toList] at this
    omega
  have hβn : β nm = none := by
    cases hbm : β nm with
    | none => rfl
    | some x =>
      rcases O.gen _ _ hbm with h | ⟨_, h⟩
      · omega
      · rw [hn] at h; cases h
  have hrow : Repx F w.heap Beta.none 1 v.cells cs 0 := by
    refine Repx.of_get fun i hi' => ?_
    have h1 := List.all_eq_true.1 hi _ (List.getElem_mem hi')
    obtain ⟨u, hu1, hu2⟩ := hcy.get i (by simpa [cellsD] using hi')
    simp only [cellsD] at hu2
    generalize hc : cs[i] = c at *
    unfold intC at h1
    split at h1
    · rename_i k m
      simp only [Rep] at hu2
      subst hu2
      refine ⟨.int k m, by simp only [Rep], ⟨by simp [okD, oneD, Value.oneCell'], rfl⟩, fun j hj => ?_⟩
      have hj0 : j = 0 := by simpa [Value.cells] using hj
      subst hj0
      have h3 : v.cells[i]? = some (.int k m) := by simpa using hu1
      simpa [Value.cells] using h3
    · cases h1
  refine ⟨fun m => if m = nm then some (some b, 1, n) else β m, fun m => if m = nm then fun _ => False else γ m, .slice (some ⟨b, 0, none⟩) n n, ?_, ?_, fun m x hm => ?_, ?_⟩
  · have e2 : (Instr.sliceBounds false n n none none none).run P w = .ok (0, n, n) w := by simp [Instr.sliceBounds]
    simp only [Instr.sliceAt, Instr.sureAddr, Sem.run_bind, Sem.run_pure, run_und hu, Result.andThen_ok, e2, he.run_size]
    simp [Nat.ne_of_gt hpos, Addr.add_lit]
  · refine O.one nm (.arr false 1 z cs) (fun m hm => ?_) (by rw [Tab.get_set, if_pos rfl]) (by omega) (fun m x hm => ?_) (fun m hm => by simp [hm]) (fun m hm => by simp [hm]) (fun _ => False) (fun k _ _ => rfl) (fun k hk => hk.elim) (fun _ _ _ _ _ k hk => hk.elim) (fun k hk => hk.elim) (Nat.le_refl _) rfl rfl rfl (fun _ => Iff.rfl) ?_ ?_
    · rw [Tab.get_set, if_neg (Ne.symm hm), Tab.get_set]
      split
      · rename_i e; subst e; exact .inr ⟨rfl, by rw [hx]; rfl⟩
      · exact .inl rfl
    · by_cases e : m = nm
      · subst e; rw [hβn] at hm; cases hm
      · simpa [e] using hm
    · refine ⟨some b, n, by simp, (fun h => by cases h), fun b' hb' => ?_⟩
      cases hb'
      exact ⟨by simp, v.cells, ty, hb, by omega, by omega, hrow⟩
    · intro _ x hx'
      rcases hx' with ⟨s, c, h⟩ | h
      · simp only [if_true, Option.some.injEq, Prod.mk.injEq] at h
        exact .inr ⟨n0, _, hx, by simp, .inl ⟨_, _, by rw [hβ, ← h.1]⟩, .inr (by rw [Tab.get_set, if_neg (Ne.symm hne), Tab.get_set, if_pos rfl])⟩
      · simp at h
  · by_cases e : m = nm
    · subst e; rw [hβn] at hm; cases hm
    · simpa [e] using hm
  · simp only [Rep]
    exact .inr ⟨b, n, by simp, by simp, by omega⟩
theorem deepD_sound {nm : Nm} {o : Oper} {ρ : Operand → D} {ρv : Operand → Value} {p : Prop} {d : D} {T : Tab} (hΓ : Γ.ok P) (O : Own W0 M0 F0 F β γ tab gen w) (hg : nm.2 = gen)
    (hρ : ∀ x ∈ o.op.operands, Rep F w.heap β (ρ x) (ρv x)) (h : deepD Γ tab nm ρ o.op = some (p, d, T)) (hp : p) :
    ∃ (w' : World) (β' : Beta) (γ' : Nm → Nat → Prop) (nx : Next) (v : Value), (execOp ρv o).run P w = .ok nx w' ∧ (nx = .value v ∨ (nx = .skip ∧ v = undef)) ∧ Own W0 M0 F0 F β' γ' T gen w' ∧
      (∀ b, F b → F b ∧ w'.heap[b]? = w.heap[b]?) ∧ (∀ n x, β n = some x → β' n = some x) ∧ Rep F w'.heap β' d v := by
  unfold execOp
  unfold deepD at h
  split at h
  · rename_i t a hop
    rw [hop] at hρ
    simp only [Op.operands] at hρ
    simp only [hop]
    split at h
    · rename_i n0 i off ti hx hti
      have rx := hρ a (by simp)
      rw [hx] at rx
      split at h
      · rename_i e s z xs hk htab
        split at h
        · rename_i s' z' ys hc
          simp only [Option.some.injEq, Prod.mk.injEq] at h
          obtain ⟨rfl, rfl, rfl⟩ := h
          obtain ⟨β', γ', v, h1, h2, h3, h4⟩ := take_sound (nm := nm) (Ctx.get_ok hΓ hti) (by rw [hk]; rfl) O hg hp.2 htab hp.1 hc rx
          exact ⟨w, β', γ', _, v, val_run h1, .inl rfl, h2, fun b hb => ⟨hb, rfl⟩, h3, h4⟩
        · cases h
      · cases h
    · cases h
  · rename_i t a y hop
    rw [hop] at hρ
    simp only [Op.operands] at hρ
    simp only [hop]
    split at h
    · rename_i n0 i off ti hx hti
      have rx := hρ a (by simp)
      rw [hx] at rx
      split at h
      · rename_i p s z xs htab
        split at h
        · rename_i cs ks q habs
          split at h
          · rename_i hc
            obtain ⟨c1, c2, c3, c4, c5⟩ := hc
            simp only [Option.some.injEq, Prod.mk.injEq] at h
            obtain ⟨rfl, rfl, rfl⟩ := h
            obtain ⟨γ', w', h1, h2, h3⟩ := put_sound (Ctx.get_ok hΓ hti) O htab hp.1 hp.2.1 habs hp.2.2 c1 c2 c3 c4 (noDup_ok c5) rx (hρ y (by simp))
            exact ⟨w', β, γ', _, undef, h1, .inr ⟨rfl, rfl⟩, h2, fun b hb => ⟨hb, h3 b hb⟩, fun _ _ h => h, by simp only [Rep]⟩
          · cases h
        · cases h
      · cases h
    · cases h
  · rename_i t x hop
    rw [hop] at hρ
    simp only [Op.operands] at hρ
    simp only [hop]
    split at h
    · rename_i n0 off ti hx hti
      have rx := hρ x (by simp)
      rw [hx] at rx
      split at h
      · rename_i n e cs hk htab
        split at h
        · rename_i ei hei
          split at h
          · rename_i hc
            obtain ⟨rfl, c1, c2, c3, c4, c5⟩ := hc
            simp only [Option.some.injEq, Prod.mk.injEq] at h
            obtain ⟨rfl, rfl, rfl⟩ := h
            have hu : P.underlying t = some (.array n e) := by have := (Ctx.get_ok hΓ hti).kind; rw [hk] at this; exact this
            obtain ⟨β', γ', v, h1, h2, h3, h4⟩ := arr_sound hu (Ctx.get_ok hΓ hei) c1 O hg hp htab c2 c3 c4 c5 rx
            exact ⟨w, β', γ', _, v, val_run h1, .inl rfl, h2, fun b hb => ⟨hb, rfl⟩, h3, h4⟩
          · cases h
        · cases h
      · cases h
    · cases h
  · cases h
end
section
variable {P : Program} {Γ : Ctx} {m : Bool} {base : Nat} {ops : Array Oper}
/-- one operation where the order is fixed -/
inductive ZA (P : Program) (Γ : Ctx) (m : Bool) (base : Nat) (ops : Array Oper) (o : Oper) (σ : S) : D → TE → Prop
  | ya {c d t} (Y : YA P Γ m base c ops o σ d t) : ZA P Γ m base ops o σ d t
  | deep {p d T} (hg : o.guard = none) (hs : sconds true σ.ts o.op.operands.toList) (h : deepD Γ σ.tab (nmOf base o, σ.gen) (fun x => strip (opd σ.ts x)) o.op = some (p, d, T)) (hp : p) : ZA P Γ m base ops o σ d (.tab T)
inductive ZAs (P : Program) (Γ : Ctx) (m : Bool) (base : Nat) (ops : Array Oper) : List Oper → S → S → Prop
  | nil {σ} : ZAs P Γ m base ops [] σ σ
  | cons {o l σ d t σ'} : ZA P Γ m base ops o σ d t → ZAs P Γ m base ops l ((σ.eff (nmOf base o) t).put o.dst d) σ' → ZAs P Γ m base ops (o :: l) σ σ'
theorem za_sound {W0 : World} {M0 F0 F : Nat → Prop} {β : Beta} {γ : Nm → Nat → Prop} {σ : S} {a : Act} {w : World} {o : Oper} {i : Nat} {d : D} {t : TE} {Q : Exit → Act → World → Prop} {K : Act → World → Prop} (hΓ : Γ.ok P) (C : Cpl W0 M0 F0 F β γ σ a w) (hi : ops[i]? = some o) (hdst : ∀ t, o.dst = some t → t < a.tmps.size) (Y : ZA P Γ m base ops o σ d t)
    (hK : ∀ F' β' γ' a' w', a'.tmps.size = a.tmps.size → (∀ n x, β n = some x → β' n = some x) → Cpl W0 M0 F0 F' β' γ' ((σ.eff (nmOf base o) t).put o.dst d) a' w' → K a' w') : wpOp P ops Q i K a w := by
  cases Y with
  | ya Y => exact ya_sound hΓ C hi hdst Y hK
  | @deep p d T hg hs h hp =>
    have hput : ∀ v, (a.put o.dst v).tmps.size = a.tmps.size := fun v => by cases o.dst <;> simp [Act.put]
    have hw := gdD_sound (ops := ops) (o := o) (g := true) C.reps (by unfold gdD; rw [hg])
    obtain ⟨w', β', γ', nx, v, hrun, hnx, O', hF, hβ, hv⟩ := deepD_sound (ρv := a.eval) hΓ C.mem rfl (fun x hx => rep_strip rfl (sconds_mem hs x (by simpa using hx)) (rep_opd (C.mem.globF C.glob) C.reps x)) h hp
    unfold wpOp
    simp only [hi, hw, if_true]
    refine .inl ?_
    unfold Oper.wp
    rw [hrun]
    have := hK F β' γ' _ _ (hput v) hβ (C.step (σ' := σ.eff (nmOf base o) (.tab T)) rfl rfl O' hF hβ o.dst hdst hv)
    rcases hnx with rfl | ⟨rfl, rfl⟩
    · simp only [Oper.upon]; exact this
    · simp only [Oper.upon]; exact this
theorem zops_sound {N : Nat} {W0 : World} {M0 F0 : Nat → Prop} {β0 : Beta} {Q : S → Prop} {Q' : Exit → Act → World → Prop} (hN : dstOk N ops = true) (hΓ : Γ.ok P)
    (hQ : ∀ F β γ σ a w, a.tmps.size = N → (∀ n x, β0 n = some x → β n = some x) → Cpl W0 M0 F0 F β γ σ a w → Q σ → Q' .normal a w) : ∀ (l : List Oper) (k : Nat) (σ σ' : S) (F : Nat → Prop) (β : Beta) (γ : Nm → Nat → Prop) (a : Act) (w : World), (∀ j, l[j]? = ops[k + j]?) → a.tmps.size = N → (∀ n x, β0 n = some x → β n = some x) → Cpl W0 M0 F0 F β γ σ a w →
    ZAs P Γ m base ops l σ σ' → Q σ' → wpOps P ops Q' (List.range' k l.length) a w
  | [], k, σ, σ', F, β, γ, a, w, hl, hs, hb, C, h, hq => by cases h; simpa [wpOps] using hQ _ _ _ _ _ _ hs hb C hq
  | o :: l, k, σ, σ', F, β, γ, a, w, hl, hs, hb, C, h, hq => by
    have h0 : ops[k]? = some o := by simpa using (hl 0).symm
    cases h with
    | @cons _ _ _ d t _ hy hK =>
    simp only [List.length_cons, List.range'_succ]
    rw [wpOps_cons]
    exact za_sound hΓ C h0 (by rw [hs]; exact dstOk_get hN h0) hy fun F' β' γ' a' w' hs' hb' C' => zops_sound hN hΓ hQ l (k + 1) _ σ' _ _ _ _ _ (fun j => by have := hl (j + 1); simpa [Nat.add_assoc, Nat.add_comm 1 j] using this) (hs'.trans hs) (fun n x h => hb' n x (hb n x h)) C' hK hq
theorem zregion_sound {N : Nat} {W0 : World} {M0 F0 F : Nat → Prop} {β0 β : Beta} {γ : Nm → Nat → Prop} {σ σ' : S} {a : Act} {w : World} {Q' : Exit → Act → World → Prop} (hN : dstOk N ops = true) (hΓ : Γ.ok P)
    (hQ : ∀ F β γ a w, a.tmps.size = N → (∀ n x, β0 n = some x → β n = some x) → Cpl W0 M0 F0 F β γ σ' a w → Q' .normal a w) (hs : a.tmps.size = N) (hb : ∀ n x, β0 n = some x → β n = some x) (C : Cpl W0 M0 F0 F β γ σ a w) {id : Nat}
    (h : ZAs P Γ m base ops ops.toList σ σ') : (Code.region id ops false).wp P Q' a w := by
  have hQ2 : ∀ F β γ σ2 a w, a.tmps.size = N → (∀ n x, β0 n = some x → β n = some x) → Cpl W0 M0 F0 F β γ σ2 a w → σ2 = σ' → Q' .normal a w := fun F β γ σ2 a w h1 hb h2 h3 => by subst h3; exact hQ F β γ a w h1 hb h2
  refine wp_region ?_
  have := zops_sound (ops := ops) (Q := fun s => s = σ') hN hΓ hQ2 ops.toList 0 σ σ' F β γ a w (fun j => by simp) hs hb C h rfl
  simpa [List.range_eq_range'] using this
end
end Go.Eng
namespace Go.Eng
variable [HasG]
set_option linter.unusedSectionVars false
set_option linter.unusedVariables false
set_option linter.unusedSimpArgs false

def thenQ (K : S → Prop) (Q : Exit → S → Prop) : Exit → S → Prop
  | .normal, σ => K σ
  | e, σ => Q e σ
/-- no way out by a goto -/
def noG (Q : Exit → S → Prop) : Exit → S → Prop := fun e σ => match e with
  | .goto _ => False
  | e => Q e σ
def blockQ (id : Nat) (Q : Exit → S → Prop) : Exit → S → Prop
  | .exit id', σ => if id' = id then Q .normal σ else Q (.exit id') σ
  | e, σ => Q e σ
def S.bump (σ : S) : S := { σ with gen := σ.gen + 1 }
/-- the least that 'f' keeps -/
def lfpP (f : (S → Prop) → S → Prop) (σ : S) : Prop := ∀ X : S → Prop, (∀ σ, f X σ → X σ) → X σ
def leTo (σ : S) (l : List (Nat × D)) (L : List (Nm × OO)) (g : Nat) : Prop := leSt σ l L g (deltas σ l L)

/-- a loop over a map goes on -/
def nextIt (σ : S) (o : Oper) : Option (Nm × Nat × List (List Int) × D × List D × List Nat) :=
  match o.op with
  | .next x false => match o.guard with
    | none => match strip (opd σ.ts x) with
      | .it nm => match σ.tab.get nm with
        | some (.mit kk ks z vs seen) => some (nm, kk, ks, z, vs, seen)
        | _ => none
      | _ => none
    | _ => none
  | _ => none
def opndOk (σ : S) (o : Oper) : Prop := sconds true σ.ts o.op.operands.toList
def nextS (σ : S) (o : Oper) (nm : Nm) (kk : Nat) (ks : List (List Int)) (z : D) (vs : List D) (seen : List Nat) (i : Nat) : S :=
  ({ σ with tab := σ.tab.set nm (.mit kk ks z vs (seen ++ [i])) } : S).put o.dst (.tup [.lit (.bool true), keyV kk (ks.getD i []), vs.getD i z])
def overS (σ : S) (o : Oper) : S := σ.put o.dst (.tup [.lit (.bool false)])
def nextP (σ : S) (o : Oper) (K : S → Prop) : Prop :=
  match nextIt σ o with
  | some (nm, kk, ks, z, vs, seen) => opndOk σ o ∧ (∀ i, i < ks.length → i ∉ seen → K (nextS σ o nm kk ks z vs seen i)) ∧ ((∀ i, i < ks.length → i ∈ seen) → K (overS σ o))
  | none => False
theorem nextP_mono {σ : S} {o : Oper} {K K' : S → Prop} (h : ∀ σ, K σ → K' σ) (H : nextP σ o K) : nextP σ o K' := by
  unfold nextP at H ⊢
  split at H
  · exact ⟨H.1, fun i hi hs => h _ (H.2.1 i hi hs), fun hs => h _ (H.2.2 hs)⟩
  · exact H.elim
/-- THE CONDITION FOR A PIECE OF CODE: 'Q' is what is asked of each way out -/
def vc (P : Program) (Γ : Ctx) (m : Bool) (base : Nat) : Code → (Exit → S → Prop) → S → Prop
  | .skip, Q, σ => Q .normal σ
  | .label _, Q, σ => Q .normal σ
  | .seq x y, Q, σ => vc P Γ m base x (thenQ (vc P Γ m base y Q) Q) σ
  | .cond c x y, Q, σ => match strip (opd σ.ts c) with
    | .lit (.bool b) => scond true (opd σ.ts c) ∧ (b = true → vc P Γ m base x Q σ) ∧ (b = false → vc P Γ m base y Q σ)
    | _ => False
  | .region _ ops draw, Q, σ => (∃ c σ', (draw = true → lexOK Γ c ops = true) ∧ YAs P Γ m base c ops ops.toList σ σ' ∧ Q .normal σ'.bump) ∨
    (draw = false ∧ ∃ o rest, ops.toList = o :: rest ∧ nextP σ o fun σ1 => ∃ c σ', YAs P Γ m base c ops rest σ1 σ' ∧ Q .normal σ'.bump) ∨
    (draw = false ∧ ∃ σ', ZAs P Γ m base ops ops.toList σ σ' ∧ Q .normal σ'.bump)
  | .block id c, Q, σ => vc P Γ m base c (blockQ id Q) σ
  | .scope c, Q, σ => vc P Γ m base c (noG Q) σ
  | .loop c, Q, σ => (∃ (α : Type) (inv : α → Prop) (l : α → List (Nat × D)) (L : α → List (Nm × OO)) (g : Nat) (μ : α → Nat) (p0 : α), 1 ≤ g ∧ inv p0 ∧ leTo σ (l p0) (L p0) g ∧
      ∀ p, inv p → vc P Γ m base c (thenQ (fun σ' => ∃ p', inv p' ∧ leTo σ' (l p') (L p') g ∧ μ p' < μ p) Q) (mkS (l p) (L p) g)) ∨
    lfpP (fun K σ => vc P Γ m base c (thenQ K Q) σ) σ
  | .exit id, Q, σ => Q (.exit id) σ
  | .ret, Q, σ => Q .ret σ
  | _, _, _ => False

section
variable {P : Program} {W0 : World} {M0 F0 F : Nat → Prop} {β β0 : Beta} {γ : Nm → Nat → Prop} {σ : S} {a : Act} {w : World} {ops : Array Oper}
theorem next_sound {o : Oper} {i : Nat} {Q : Exit → Act → World → Prop} {K : Act → World → Prop} {K' : S → Prop} (C : Cpl W0 M0 F0 F β γ σ a w) (hi : ops[i]? = some o) (hdst : ∀ t, o.dst = some t → t < a.tmps.size) (H : nextP σ o K')
    (hK : ∀ F' β' γ' a' w' σ', a'.tmps.size = a.tmps.size → (∀ n x, β n = some x → β' n = some x) → Cpl W0 M0 F0 F' β' γ' σ' a' w' → K' σ' → K a' w') : wpOp P ops Q i K a w := by
  unfold nextP at H
  split at H
  · rename_i nm kk ks z vs seen hit
    obtain ⟨hop, H1, H2⟩ := H
    unfold nextIt at hit
    split at hit
    · rename_i x ho
      split at hit
      · rename_i hg
        split at hit
        · rename_i nm' hx
          split at hit
          · rename_i kk' ks' z' vs' seen' htab
            simp only [Option.some.injEq, Prod.mk.injEq] at hit
            obtain ⟨rfl, rfl, rfl, rfl, rfl, rfl⟩ := hit
            have hw := gdD_sound (ops := ops) (o := o) (g := true) C.reps (by unfold gdD; rw [hg])
            have rx : Rep F w.heap β (.it nm') (a.eval x) := by
              rw [← hx]
              exact rep_strip rfl (sconds_mem hop x (by rw [ho]; simp [Op.operands])) (rep_opd (C.mem.globF C.glob) C.reps x)
            simp only [Rep] at rx
            obtain ⟨b, s, cap, hβ, hv⟩ := rx
            obtain ⟨b', s', cap', hβ', hmit⟩ := C.mem.own nm' _ htab
            rw [hβ] at hβ'
            simp only [Option.some.injEq, Prod.mk.injEq] at hβ'
            obtain ⟨rfl, rfl, rfl⟩ := hβ'
            have hput : ∀ v, (a.put o.dst v).tmps.size = a.tmps.size := fun v => by cases o.dst <;> simp [Act.put]
            have hexec : ∀ v w', (Instr.next (.pointer (some ⟨b, 0, none⟩)) false o.type).run P w = .ok v w' → (execOp a.eval o).run P w = .ok (.value v) w' := fun v w' h => by
              unfold execOp
              simp only [ho, hv]
              exact val_run h
            unfold wpOp
            simp only [hi, hw, if_true]
            refine .inl ?_
            unfold Oper.wp
            have over : (∀ i, i < ks'.length → i ∈ seen') → (Instr.next (.pointer (some ⟨b, 0, none⟩)) false o.type).run P w = .ok (.tuple #[.bool false]) w → o.upon P a K Q ((execOp a.eval o).run P w) := fun hall hrun => by
              rw [hexec _ _ hrun]
              simp only [Oper.upon]
              refine hK F β γ _ _ _ (hput _) (fun _ _ h => h) (C.step (σ' := σ) rfl rfl C.mem (fun b h => ⟨h, rfl⟩) (fun _ _ h => h) o.dst hdst (d := .tup [.lit (.bool false)]) ?_) (H2 hall)
              simp only [Rep, Reps]; exact ⟨[_], rfl, _, _, rfl, rfl, rfl⟩
            rcases hmit with ⟨rfl, rfl, hb⟩ | ⟨mb, es, cl, st, hfg, h3, h4, h5, h6, h7, h8⟩
            · exact over (by simp) (by simp only [Instr.next, getObj, Sem.run_bind, Sem.run, hb, Result.andThen]; rfl)
            · rcases run_next (P := P) (ty := o.type) h3 h4 h6 h7 h8 with ⟨hall, hrun⟩ | ⟨i, hie, hik, his, w1, hh, hos, htp, hout, hrun⟩
              · exact over hall hrun
              · have hbm : mb ≠ b := fun e => by rw [e, h6] at h3; cases h3
                have hblt : b < w.heap.size := (Array.getElem?_eq_some_iff.1 h6).1
                have hoth : ∀ i, i ≠ b → w1.heap[i]? = w.heap[i]? := fun i hi => by rw [hh]; simp [Array.getElem?_setIfInBounds, Ne.symm hi]
                have hFb : ¬ F b := (C.mem.fps nm' _ htab (by simp) b (.inl ⟨_, _, hβ⟩)).1
                have hFs : ∀ x, F x → F x ∧ w1.heap[x]? = w.heap[x]? := fun x hx => ⟨hx, hoth x fun e => hFb (e ▸ hx)⟩
                have hv5 : i < vs'.length := by rw [← h5.length]; simpa using hie
                obtain ⟨u, hu, ru⟩ := h5.get i hv5
                have eu : u = es[i].val := by
                  simp only [List.getElem?_map] at hu
                  have h2 : es.toList[i]? = some es[i] := by simp [hie]
                  rw [h2] at hu; simpa using hu.symm
                have ed : vs'.getD i z' = vs'[i] := by simp [List.getD, hv5]
                have hki : es[i].key = kval kk' (ks'.getD i []) := by
                  have h1 := congrArg (fun l => l[i]?) h4.1
                  simp only [List.getElem?_map] at h1
                  have h2 : es.toList[i]? = some es[i] := by simp [hie]
                  rw [h2, List.getElem?_eq_getElem hik] at h1
                  simp only [Option.map_some, Option.some.injEq] at h1
                  rw [h1]; simp [List.getD, hik]
                have hD : Does W0 M0 F0 F β σ.tab σ.gen w (0, 0) ⟨True, .tup [.lit (.bool true), keyV kk' (ks'.getD i []), vs'.getD i z'], .set nm' (.mit kk' ks' z' vs' (seen' ++ [i]))⟩ ((execOp a.eval o).run P w) := by
                  refine does_set C.mem htab (by simp) (by simp) rfl hβ hoth (by rw [hh]; simp) hos htp hout (hexec _ _ hrun) (.inl rfl) ?_ ?_
                  · refine ⟨b, s, cap, hβ, .inr ⟨mb, es, cl, st.push es[i].born, hfg, (hoth mb hbm).trans h3, h4, Reps.mono hFs _ (fun _ _ h => h) h5, by rw [hh]; simp [hblt], ?_, fun j hj => ?_⟩⟩
                    · simp [h7, hie]
                    · rcases List.mem_append.1 hj with hj | hj
                      · exact h8 j hj
                      · simp at hj; subst hj; exact hik
                  · simp only [Rep, Reps]
                    refine ⟨[_, _, _], rfl, _, _, rfl, rfl, _, _, rfl, by rw [hki]; exact keyV_rep, _, _, rfl, ?_, rfl⟩
                    rw [ed, ← eu]
                    exact Rep.mono hFs _ (fun _ _ h => by cases h) ru
                obtain ⟨w', F', β', γ', nx, v, hrun', hnx, O', hF, hβ', hv'⟩ := hD
                rw [hrun']
                have := hK F' β' γ' _ _ _ (hput v) hβ' (C.step (σ' := { σ with tab := σ.tab.set nm' (.mit kk' ks' z' vs' (seen' ++ [i])) }) rfl rfl O' hF hβ' o.dst hdst hv') (H1 i hik his)
                rcases hnx with rfl | ⟨rfl, rfl⟩
                · simp only [Oper.upon]; exact this
                · simp only [Oper.upon]; exact this
          · simp at hit
        · simp at hit
      · simp at hit
    · simp at hit
  · exact H.elim
end
def codeOk (N : Nat) : Code → Bool
  | .seq x y => codeOk N x && codeOk N y
  | .cond _ x y => codeOk N x && codeOk N y
  | .region _ ops _ => dstOk N ops
  | .block _ c => codeOk N c
  | .scope c => codeOk N c
  | .loop c => codeOk N c
  | _ => true

section
variable {P : Program} {Γ : Ctx} {m : Bool} {base N : Nat} {β0 : Beta}

def lift (N : Nat) (β0 : Beta) (W0 : World) (M0 F0 : Nat → Prop) (Q : Exit → S → Prop) : Exit → Act → World → Prop := fun e a w => ∃ F β γ σ, a.tmps.size = N ∧ (∀ n x, β0 n = some x → β n = some x) ∧ Cpl W0 M0 F0 F β γ σ a w ∧ Q e σ

theorem vc_sound (hΓ : Γ.ok P) (hm : P.follows .mixedOrders = true) (h0 : ∀ n x, β0 n = some x → n.2 = 0) {W0 : World} {M0 F0 : Nat → Prop} : ∀ (c : Code) (Q : Exit → S → Prop) (σ : S), codeOk N c = true → vc P Γ m base c Q σ →
    ∀ F β γ a w, a.tmps.size = N → (∀ n x, β0 n = some x → β n = some x) → Cpl W0 M0 F0 F β γ σ a w → c.wp P (lift N β0 W0 M0 F0 Q) a w
  | .skip, Q, σ, _, h, F, β, γ, a, w, hs, hb, C => wp_skip ⟨F, β, γ, σ, hs, hb, C, h⟩
  | .label _, Q, σ, _, h, F, β, γ, a, w, hs, hb, C => wp_label ⟨F, β, γ, σ, hs, hb, C, h⟩
  | .seq x y, Q, σ, hk, h, F, β, γ, a, w, hs, hb, C => by
    simp only [codeOk, Bool.and_eq_true] at hk
    refine wp_seq (wp_mono (vc_sound hΓ hm h0 x _ σ hk.1 h F β γ a w hs hb C) fun e a' w' hq => ?_)
    obtain ⟨F', β', γ', σ', hs', hb', C', hq⟩ := hq
    cases e with
    | normal => exact vc_sound hΓ hm h0 y Q σ' hk.2 hq F' β' γ' a' w' hs' hb' C'
    | exit id => exact ⟨F', β', γ', σ', hs', hb', C', hq⟩
    | goto l => exact ⟨F', β', γ', σ', hs', hb', C', hq⟩
    | ret => exact ⟨F', β', γ', σ', hs', hb', C', hq⟩
    | panic ch => exact ⟨F', β', γ', σ', hs', hb', C', hq⟩
    | outgrown => exact ⟨F', β', γ', σ', hs', hb', C', hq⟩
  | .cond c x y, Q, σ, hk, h, F, β, γ, a, w, hs, hb, C => by
    simp only [codeOk, Bool.and_eq_true] at hk
    simp only [vc] at h
    split at h
    · rename_i b hbq
      obtain ⟨hsc, h1, h2⟩ := h
      have rc := rep_strip rfl hsc (rep_opd (C.mem.globF C.glob) C.reps c)
      rw [hbq] at rc; simp only [Rep] at rc
      exact wp_cond_split rc (fun e => vc_sound hΓ hm h0 x Q σ hk.1 (h1 e) F β γ a w hs hb C) (fun e => vc_sound hΓ hm h0 y Q σ hk.2 (h2 e) F β γ a w hs hb C)
    · exact h.elim
  | .region id ops draw, Q, σ, hk, h, F, β, γ, a, w, hs, hb, C => by
    simp only [vc] at h
    rcases h with ⟨c, σ', h1, h2, h3⟩ | ⟨rfl, o, rest, hor, hn⟩ | ⟨rfl, σ', h2, h3⟩
    rotate_right
    · exact zregion_sound (β0 := β0) (by simpa [codeOk] using hk) hΓ (fun F β γ a w hs hb C => ⟨F, β, γ, σ'.bump, hs, hb, C.bump, h3⟩) hs hb C h2
    · exact region_sound (β0 := β0) (by simpa [codeOk] using hk) hΓ hm (fun F β γ a w hs hb C => ⟨F, β, γ, σ'.bump, hs, hb, C.bump, h3⟩) hs hb C h1 h2
    · have hN : dstOk N ops = true := by simpa [codeOk] using hk
      refine wp_region ?_
      have hi : ops[0]? = some o := by
        have : ops.toList[0]? = some o := by rw [hor]; rfl
        simpa using this
      have hsz : ops.size = rest.length + 1 := by have := congrArg List.length hor; simpa using this
      rw [hsz, List.range_eq_range', List.range'_succ, wpOps_cons]
      refine next_sound C hi (by rw [hs]; exact dstOk_get hN hi) hn fun F' β' γ' a' w' σ1 hs' hb' C' hK => ?_
      obtain ⟨c, σ', h2, h3⟩ := hK
      exact ops_sound (ops := ops) (Q := fun s => s = σ') hN hΓ (fun F β γ σ2 a w h4 h5 h6 h7 => by subst h7; exact ⟨F, β, γ, σ2.bump, h4, h5, h6.bump, h3⟩) rest 1 σ1 σ' F' β' γ' a' w' (fun j => by
        have : rest[j]? = ops.toList[1 + j]? := by rw [hor, Nat.add_comm, List.getElem?_cons_succ]
        simpa using this) (hs'.trans hs) (fun n x h => hb' n x (hb n x h)) C' h2 rfl
  | .block id c, Q, σ, hk, h, F, β, γ, a, w, hs, hb, C => by
    refine wp_block (wp_mono (vc_sound hΓ hm h0 c _ σ (by simpa [codeOk] using hk) h F β γ a w hs hb C) fun e a' w' hq => ?_)
    obtain ⟨F', β', γ', σ', hs', hb', C', hq⟩ := hq
    cases e with
    | exit id' =>
      simp only [blockQ] at hq
      simp only [Exit.inBlock]
      split at hq
      · rename_i e; rw [if_pos e]; exact ⟨F', β', γ', σ', hs', hb', C', hq⟩
      · rename_i e; rw [if_neg e]; exact ⟨F', β', γ', σ', hs', hb', C', hq⟩
    | normal => exact ⟨F', β', γ', σ', hs', hb', C', hq⟩
    | goto l => exact ⟨F', β', γ', σ', hs', hb', C', hq⟩
    | ret => exact ⟨F', β', γ', σ', hs', hb', C', hq⟩
    | panic ch => exact ⟨F', β', γ', σ', hs', hb', C', hq⟩
    | outgrown => exact ⟨F', β', γ', σ', hs', hb', C', hq⟩
  | .loop c, Q, σ, hk, h, F, β, γ, a, w, hs, hb, C => by
    have hkc : codeOk N c = true := by simpa [codeOk] using hk
    simp only [vc] at h
    intro b k cs
    -- a round, and what is behind it
    have round : ∀ {K : S → Prop} {σ : S} {F β γ a w}, vc P Γ m base c (thenQ K Q) σ → a.tmps.size = N → (∀ n x, β0 n = some x → β n = some x) → Cpl W0 M0 F0 F β γ σ a w →
        (∀ F' β' γ' σ' a' w', a'.tmps.size = N → (∀ n x, β0 n = some x → β' n = some x) → Cpl W0 M0 F0 F' β' γ' σ' a' w' → K σ' → ∃ e a'' w'', lift N β0 W0 M0 F0 Q e a'' w'' ∧ Arrives P (lone (b.at a' (.code c :: .inLoop c :: k)) cs w') b k cs e a'' w'') →
        ∃ e a' w', lift N β0 W0 M0 F0 Q e a' w' ∧ Arrives P (lone (b.at a (.code c :: .inLoop c :: k)) cs w) b k cs e a' w' := by
      intro K σ F β γ a w hv hs hb C hK
      obtain ⟨e, a₁, w₁, hq, harr⟩ := vc_sound hΓ hm h0 c _ σ hkc hv F β γ a w hs hb C b (.inLoop c :: k) cs
      obtain ⟨F', β', γ', σ', hs', hb', C', hq⟩ := hq
      cases e with
      | normal =>
        obtain ⟨e₂, a₂, w₂, hq₂, harr₂⟩ := hK F' β' γ' σ' a₁ w₁ hs' hb' C' hq
        exact ⟨e₂, a₂, w₂, hq₂, .of_steps (Steps.trans harr (.one step_inLoop)) harr₂⟩
      | exit id => exact ⟨_, a₁, w₁, ⟨F', β', γ', σ', hs', hb', C', hq⟩, .pass (x := .inLoop c) rfl (fun _ _ => .inl (by simp)) harr⟩
      | goto l => exact ⟨_, a₁, w₁, ⟨F', β', γ', σ', hs', hb', C', hq⟩, .pass (x := .inLoop c) rfl (fun _ _ => .inl (by simp)) harr⟩
      | ret => exact ⟨_, a₁, w₁, ⟨F', β', γ', σ', hs', hb', C', hq⟩, .pass (x := .inLoop c) rfl (fun _ _ => .inl (by simp)) harr⟩
      | panic ch => exact ⟨_, a₁, w₁, ⟨F', β', γ', σ', hs', hb', C', hq⟩, .pass (x := .inLoop c) rfl (fun _ _ => .inl (by simp)) harr⟩
      | outgrown => exact ⟨_, a₁, w₁, ⟨F', β', γ', σ', hs', hb', C', hq⟩, .pass (x := .inLoop c) rfl (fun _ _ => .inl (by simp)) harr⟩
    suffices hgo : ∃ e a' w', lift N β0 W0 M0 F0 Q e a' w' ∧ Arrives P (lone (b.at a (.code c :: .inLoop c :: k)) cs w) b k cs e a' w' by
      obtain ⟨e, a', w', h1, h2⟩ := hgo
      exact ⟨e, a', w', h1, .of_steps (.one step_loop) h2⟩
    rcases h with ⟨α, inv, l, L, g, μ, p0, hg, hi, hle, hround⟩ | hn
    · have go : ∀ (n : Nat) (p : α), μ p < n → inv p → ∀ F β γ σ a w, a.tmps.size = N → (∀ n x, β0 n = some x → β n = some x) → Cpl W0 M0 F0 F β γ σ a w → leTo σ (l p) (L p) g →
          ∃ e a' w', lift N β0 W0 M0 F0 Q e a' w' ∧ Arrives P (lone (b.at a (.code c :: .inLoop c :: k)) cs w) b k cs e a' w' := by
        intro n
        induction n with
        | zero => intro p hp; omega
        | succ n ih =>
          intro p hp hip F β γ σ a w hs hb C hle
          obtain ⟨F', β', γ', C', hb'⟩ := le_sound C hle hg h0 hb
          exact round (hround p hip) hs hb' C' fun F2 β2 γ2 σ2 a2 w2 hs2 hb2 C2 ⟨p', hi', hle', hμ⟩ => ih p' (by omega) hi' F2 β2 γ2 σ2 a2 w2 hs2 hb2 C2 hle'
      exact go _ p0 (Nat.lt_succ_self _) hi F β γ σ a w hs hb C hle
    · exact hn (fun σ => ∀ F β γ a w, a.tmps.size = N → (∀ n x, β0 n = some x → β n = some x) → Cpl W0 M0 F0 F β γ σ a w →
        ∃ e a' w', lift N β0 W0 M0 F0 Q e a' w' ∧ Arrives P (lone (b.at a (.code c :: .inLoop c :: k)) cs w) b k cs e a' w')
        (fun σ hv F β γ a w hs hb C => round hv hs hb C fun F' β' γ' σ' a' w' hs' hb' C' hK => hK F' β' γ' a' w' hs' hb' C') F β γ a w hs hb C
  | .exit id, Q, σ, _, h, F, β, γ, a, w, hs, hb, C => wp_exit ⟨F, β, γ, σ, hs, hb, C, h⟩
  | .ret, Q, σ, _, h, F, β, γ, a, w, hs, hb, C => wp_ret ⟨F, β, γ, σ, hs, hb, C, h⟩
  | .goto _, Q, σ, _, h, _, _, _, _, _, _, _, _ => by simp only [vc] at h
  | .scope c, Q, σ, hk, h, F, β, γ, a, w, hs, hb, C => by
    simp only [vc] at h
    refine wp_scope_straight (wp_mono (vc_sound hΓ hm h0 c _ σ (by simpa [codeOk] using hk) h F β γ a w hs hb C) fun e a' w' hq => ?_)
    obtain ⟨F', β', γ', σ', hs', hb', C', hq⟩ := hq
    cases e with
    | goto l => exact hq.elim
    | normal => exact ⟨F', β', γ', σ', hs', hb', C', hq⟩
    | exit id => exact ⟨F', β', γ', σ', hs', hb', C', hq⟩
    | ret => exact ⟨F', β', γ', σ', hs', hb', C', hq⟩
    | panic ch => exact ⟨F', β', γ', σ', hs', hb', C', hq⟩
    | outgrown => exact ⟨F', β', γ', σ', hs', hb', C', hq⟩
  | .refuse _, Q, σ, _, h, _, _, _, _, _, _, _, _ => by simp only [vc] at h
  | .rangeFunc .., Q, σ, _, h, _, _, _, _, _, _, _, _ => by simp only [vc] at h
end
end Go.Eng
namespace Go.Eng
variable [HasG]
set_option linter.unusedSectionVars false
set_option linter.unusedVariables false
set_option linter.unusedSimpArgs false

/-! ### a function's end -/
def retD (Γ : Ctx) (σ : S) : List ResultVar → Option (List D)
  | [] => some []
  | .tmp t :: l => match retD Γ σ l with
    | some ds => some (opd σ.ts (.tmp t) :: ds)
    | none => none
  | .cell a t :: l => match Γ.get t, opd σ.ts (.tmp a), retD Γ σ l with
    | some ti, .ptr nm off, some ds => match loadD ti σ.tab (.ptr nm off) with
      | some r => some (r.d :: ds)
      | none => none
    | _, _, _ => none
def packD : List D → D
  | [d] => d
  | ds => .tup ds
/-- what is asked of a return -/
def retP (Γ : Ctx) (rs : List ResultVar) (r : D) (tout : List (Nm × OO)) (σ : S) : Prop :=
  match retD Γ σ rs with
  | some ds => leTo ⟨Ts.of [(0, packD ds)], σ.tab, σ.gen⟩ [(0, r)] tout 2
  | none => False
def retQ (Γ : Ctx) (rs : List ResultVar) (r : D) (tout : List (Nm × OO)) : Exit → S → Prop
  | .normal, σ => retP Γ rs r tout σ
  | .ret, σ => retP Γ rs r tout σ
  | _, _ => False
def enumD : List D → Nat → List (Nat × D)
  | [], _ => []
  | d :: ds, i => (i, d) :: enumD ds (i + 1)
theorem tget_enum : ∀ (ds : List D) (i t : Nat), tget (Ts.of (enumD ds i)) t = if i ≤ t then ds.getD (t - i) .any else .any
  | [], i, t => by simp [enumD, Ts.of, tget, Ts.nil]
  | d :: ds, i, t => by
    simp only [enumD, Ts.of]
    rw [tget, Ts.up]
    by_cases h : i = t
    · subst h; simp
    · rw [if_neg h]
      have := tget_enum ds (i + 1) t
      rw [tget] at this
      rw [this]
      by_cases h1 : i ≤ t
      · rw [if_pos h1, if_pos (by omega), show t - i = (t - (i + 1)) + 1 by omega]; rfl
      · rw [if_neg h1, if_neg (by omega)]

section
variable {P : Program} {Γ : Ctx} {m : Bool} {base : Nat} {W0 : World} {M0 F0 F : Nat → Prop} {β : Beta} {γ : Nm → Nat → Prop} {σ : S} {a : Act} {w : World}

theorem loadP_ob {ti : TI} {tab : Tab} {nm : Nm} {off : Nat} {r : AR} (h : loadD ti tab (.ptr nm off) = some r) : r.ob := by
  simp only [loadD, okR] at h
  repeat' first
    | (simp only [Option.some.injEq] at h; subst h; exact True.intro)
    | (simp only [reduceCtorEq] at h; done)
    | split at h

theorem retD_run (hΓ : Γ.ok P) (C : Cpl W0 M0 F0 F β γ σ a w) : ∀ (rs : List ResultVar) {ds : List D}, retD Γ σ rs = some ds →
    ∃ vs, (rs.mapM (m := Sem) fun | .tmp t => pure (a.tmps.getD t undef) | .cell x t => do loadVar t (← asAddr (a.tmps.getD x undef))).run P w = .ok vs w ∧ Reps F w.heap β ds vs
  | [], ds, h => by simp only [retD, Option.some.injEq] at h; subst h; exact ⟨[], by simp, by simp only [Reps]⟩
  | .tmp t :: l, ds, h => by
    simp only [retD] at h
    split at h
    · rename_i ds' hd
      simp only [Option.some.injEq] at h; subst h
      obtain ⟨vs, h1, h2⟩ := retD_run hΓ C l hd
      refine ⟨a.tmps.getD t undef :: vs, by simp only [List.mapM_cons, Sem.run_bind, Sem.run_pure, Result.andThen_ok, h1], ?_⟩
      simp only [Reps]
      exact ⟨_, _, rfl, rep_opd (C.mem.globF C.glob) C.reps (.tmp t), h2⟩
    · simp at h
  | .cell x t :: l, ds, h => by
    simp only [retD] at h
    split at h
    · rename_i ti nm off ds' hti hx hd
      split at h
      · rename_i r hr
        simp only [Option.some.injEq] at h; subst h
        obtain ⟨vs, h1, h2⟩ := retD_run hΓ C l hd
        have rx := rep_opd (C.mem.globF C.glob) C.reps (.tmp x)
        rw [hx] at rx
        obtain ⟨_, v, h3, h4⟩ := loadD_sound (nm := (0, 0)) (Ctx.get_ok hΓ hti) C.mem hr (loadP_ob hr) rx
        have h5 : (do loadVar t (← asAddr (a.tmps.getD x undef)) : Sem Value).run P w = .ok v w := by
          simp only [Act.eval, Instr.loadAt] at h3
          generalize a.tmps.getD x undef = q at h3 ⊢
          cases q with
          | pointer p => cases p <;> simp_all [Instr.sureAddr, asAddr]
          | _ => simp [Instr.sureAddr] at h3
        refine ⟨v :: vs, by simp only [List.mapM_cons, Sem.run_bind, Sem.run_pure] at h5 ⊢; simp only [h5, Result.andThen_ok, h1], ?_⟩
        simp only [Reps]
        exact ⟨_, _, rfl, h4, h2⟩
      · simp at h
    · simp at h

theorem pco_of_vc (hΓ : Γ.ok P) (hm : P.follows .mixedOrders = true) {f : FuncId} {fn : Func} {c : Code} {ds : List D} {tin tout : List (Nm × OO)} {r : D} (hf : P.funcs[f]? = some fn) (hn : (fn.name == "runtime.NumGoroutine") = false)
    (hb : fn.body = some c) (hk : codeOk (ds.length + (fn.ntmps - ds.length)) c = true) (htin : (tin.all fun p => p.1.2 == 0) = true)
    (h : vc P Γ m base c (retQ Γ fn.results.toList r tout) ⟨Ts.of (enumD ds 0), Tab.of tin, 1⟩) : PCo P f ds (Tab.of tin) r (Tab.of tout) := by
  refine ⟨⟨fn, hf, hn, by rw [hb]; rfl⟩, fun w F β γ vs O G hr => calls_of_wp hf hb ?_⟩
  have hl := hr.length
  have htin' : ∀ nm o, (Tab.of tin) nm = some o → nm.2 = 0 := fun nm o ho => by
    have := List.all_eq_true.1 htin _ (Tab.of_mem ho)
    simpa using this
  have hβ0 : ∀ n x, β n = some x → n.2 = 0 := fun n x hx => by
    rcases O.gen n x hx with h | ⟨_, h⟩
    · omega
    · obtain ⟨o, ho⟩ := Option.isSome_iff_exists.1 h
      exact htin' n o ho
  have C0 : Cpl w (Mof β γ (Tab.of tin)) F F β γ ⟨Ts.of (enumD ds 0), Tab.of tin, 1⟩ { tmps := vs.toArray ++ Array.replicate (fn.ntmps - vs.toArray.size) undef, defers := [] } w := by
    refine ⟨O, fun t => ?_, rfl, O.globS (fun b ⟨nm, o, h1, h2, h3⟩ => (O.fps nm o h1 h2 b h3).1) G⟩
    simp only [tget_enum, Nat.zero_le, if_true, Nat.sub_zero]
    by_cases ht : t < ds.length
    · obtain ⟨v, hv, rv⟩ := hr.get t ht
      have e1 : ds.getD t .any = ds[t] := by simp [List.getD, List.getElem?_eq_getElem ht]
      have e2 : (vs.toArray ++ Array.replicate (fn.ntmps - vs.toArray.size) undef).getD t undef = v := by
        simp only [Array.getD_eq_getD_getElem?]
        rw [Array.getElem?_append_left (by simp; omega)]
        simp [hv]
      rw [e1, e2]; exact rv
    · have e1 : ds.getD t .any = .any := by simp [List.getD, List.getElem?_eq_none (by omega : ds.length ≤ t)]
      rw [e1]; simp only [Rep]
  have hsz : (vs.toArray ++ Array.replicate (fn.ntmps - vs.toArray.size) undef).size = ds.length + (fn.ntmps - ds.length) := by simp [hl]
  refine wp_mono (vc_sound (N := ds.length + (fn.ntmps - ds.length)) (β0 := β) hΓ hm hβ0 c _ _ hk h F β γ _ w hsz (fun _ _ h => h) C0) fun e a' w' hq => ?_
  obtain ⟨F', β', γ', σ', hs', hb', C, hq⟩ := hq
  have fin : retP Γ fn.results.toList r tout σ' → a'.defers = [] ∧ ∃ v, (results fn a'.tmps).run P w' = .ok v w' ∧
      ∃ v1 F1 β1 γ1 g1, Ending.returned v = .returned v1 ∧ Own w (Mof β γ (Tab.of tin)) F F1 β1 γ1 (Tab.of tout) g1 w' ∧ (∀ nm x, β nm = some x → β1 nm = some x) ∧ Rep F1 w'.heap β1 r v1 := by
    intro hq
    refine ⟨C.defers, ?_⟩
    unfold retP at hq
    split at hq
    · rename_i ds' hds
      obtain ⟨vs', h1, h2⟩ := retD_run hΓ C _ hds
      have hrun : (results fn a'.tmps).run P w' = .ok (if hh : vs'.toArray.size = 1 then vs'.toArray[0] else .tuple vs'.toArray) w' := by
        have h1' : (fn.results.mapM (m := Sem) fun | .tmp t => pure (a'.tmps.getD t undef) | .cell x t => do loadVar t (← asAddr (a'.tmps.getD x undef))).run P w' = .ok vs'.toArray w' := by
          rw [Array.mapM_eq_mapM_toList]
          simp only [Sem.run_map, h1, Result.andThen_ok]
        have e0 : results fn a'.tmps = (do
            let vs ← fn.results.mapM (m := Sem) fun | .tmp t => pure (a'.tmps.getD t undef) | .cell x t => do loadVar t (← asAddr (a'.tmps.getD x undef))
            pure (if h : vs.size = 1 then vs[0] else .tuple vs)) := rfl
        rw [e0]
        simp only [Sem.run_bind, h1', Result.andThen_ok, Sem.run_pure]
      have hpk : Rep F' w'.heap β' (packD ds') (if hh : vs'.toArray.size = 1 then vs'.toArray[0] else .tuple vs'.toArray) := by
        have hl' := h2.length
        cases ds' with
        | nil =>
          have : vs' = [] := by cases vs' <;> simp_all
          subst this
          simp only [packD, Rep]; exact ⟨[], by simp, h2⟩
        | cons d ds' =>
          cases ds' with
          | nil =>
            obtain ⟨v, rfl⟩ : ∃ v, vs' = [v] := by
              cases vs' with
              | nil => simp at hl'
              | cons v l => cases l with
                | nil => exact ⟨v, rfl⟩
                | cons _ _ => simp at hl'
            simp only [Reps] at h2
            obtain ⟨v', l, e, r1, r2⟩ := h2
            simp only [List.cons.injEq] at e
            obtain ⟨rfl, rfl⟩ := e
            simpa [packD] using r1
          | cons d2 ds' =>
            have : vs'.toArray.size ≠ 1 := by simp at hl' ⊢; omega
            rw [dif_neg this]
            simp only [packD, Rep]
            exact ⟨vs', rfl, h2⟩
      unfold leTo leSt at hq
      obtain ⟨⟨q1, q2⟩, q3, q4⟩ := hq
      obtain ⟨F1, β1, γ1, O1, b1, hr1⟩ := le_core (β0 := β) (g := 2) C.mem q1 q2 q4 (by omega) hβ0 hb'
      refine ⟨_, hrun, _, F1, β1, γ1, 2, rfl, O1, b1, hr1 _ _ _ ?_ hpk⟩
      have := q3
      simp only [leTs, and_true] at this
      exact this
    · exact hq.elim
  cases e with
  | normal => exact fin hq
  | ret => exact fin hq
  | exit id => exact hq.elim
  | goto l => exact hq.elim
  | panic ch => exact hq.elim
  | outgrown => exact hq.elim
end
end Go.Eng
namespace Go.Eng
variable [HasG]
set_option linter.unusedSectionVars false
set_option linter.unusedVariables false
set_option linter.unusedSimpArgs false

/-- A CONTRACT: given data (and objects), a condition, what is returned, and the objects afterwards -/
structure Con where
  f : FuncId
  own : Bool
  fn : List D → List (Nm × OO) → Option (Prop × D × List (Nm × OO))
def Con.ok (P : Program) (c : Con) : Prop := ∀ ds tin p r tout, c.fn ds tin = some (p, r, tout) → p → PCo P c.f ds (Tab.of tin) r (Tab.of tout)
structure Env where
  cs : List Con
  me : List (TypeId × String × FuncId)
  md : List (TypeId × String × FuncId × TypeId)
structure Env.ok (P : Program) (E : Env) : Prop where
  cs : ∀ c ∈ E.cs, c.ok P
  me : ∀ x ∈ E.me, Meth P x.1 x.2.1 x.2.2
  md : ∀ x ∈ E.md, MethD P x.1 x.2.1 x.2.2.1 x.2.2.2
theorem Env.ok_nil {P : Program} : Env.ok P ⟨[], [], []⟩ := ⟨fun _ h => by simp at h, fun _ h => by simp at h, fun _ h => by simp at h⟩
theorem Env.ok_cons {P : Program} {c : Con} {cs : List Con} {me md} (h : c.ok P) (hE : Env.ok P ⟨cs, me, md⟩) : Env.ok P ⟨c :: cs, me, md⟩ :=
  ⟨fun x hx => by rcases List.mem_cons.1 hx with rfl | hx; exact h; exact hE.cs x hx, hE.me, hE.md⟩
theorem Env.ok_me {P : Program} {cs : List Con} {t : TypeId} {s : String} {f : FuncId} {me md} (h : Meth P t s f) (hE : Env.ok P ⟨cs, me, md⟩) : Env.ok P ⟨cs, (t, s, f) :: me, md⟩ :=
  ⟨hE.cs, fun x hx => by rcases List.mem_cons.1 hx with rfl | hx; exact h; exact hE.me x hx, hE.md⟩
theorem Env.ok_md {P : Program} {cs : List Con} {t e : TypeId} {s : String} {f : FuncId} {me md} (h : MethD P t s f e) (hE : Env.ok P ⟨cs, me, md⟩) : Env.ok P ⟨cs, me, (t, s, f, e) :: md⟩ :=
  ⟨hE.cs, hE.me, fun x hx => by rcases List.mem_cons.1 hx with rfl | hx; exact h; exact hE.md x hx⟩
def findMD : List (TypeId × String × FuncId × TypeId) → TypeId → String → Option (FuncId × TypeId)
  | [], _, _ => none
  | (t, s, f, e) :: r, t', s' => if t = t' ∧ s = s' then some (f, e) else findMD r t' s'
theorem findMD_mem {t : TypeId} {s : String} {f : FuncId} {e : TypeId} : ∀ {l : List (TypeId × String × FuncId × TypeId)}, findMD l t s = some (f, e) → (t, s, f, e) ∈ l
  | [], h => by cases h
  | (t0, s0, f0, e0) :: l, h => by
    simp only [findMD] at h
    split at h
    · rename_i h2; cases h; obtain ⟨rfl, rfl⟩ := h2; simp
    · have := findMD_mem h; simp [this]
def findC : List Con → FuncId → Option Con
  | [], _ => none
  | c :: r, f => if c.f = f then some c else findC r f
def findM : List (TypeId × String × FuncId) → TypeId → String → Option FuncId
  | [], _, _ => none
  | (t, s, f) :: r, t', s' => if t = t' ∧ s = s' then some f else findM r t' s'
theorem findC_mem {f : FuncId} {c : Con} : ∀ {l : List Con}, findC l f = some c → c ∈ l ∧ c.f = f
  | [], h => by cases h
  | x :: l, h => by
    simp only [findC] at h
    split at h
    · rename_i e; cases h; exact ⟨by simp, e⟩
    · obtain ⟨h1, h2⟩ := findC_mem h; exact ⟨by simp [h1], h2⟩
def findC2 : List Con → FuncId → Option Con
  | [], _ => none
  | c :: r, f => match findC2 r f with
    | some d => some d
    | none => if c.f = f then some c else none
/-- in a region of the way 'news', 'f + 7000000' says that the last contract of f is meant -/
def findZ (c : Md) (l : List Con) (f : FuncId) : Option Con := match c with
  | .news xl => if xl.contains (f + 7000000) = true then findC2 l f else findC l f
  | _ => findC l f
theorem findC2_mem {f : FuncId} {c : Con} : ∀ {l : List Con}, findC2 l f = some c → c ∈ l ∧ c.f = f
  | [], h => by cases h
  | d :: r, h => by
    simp only [findC2] at h
    split at h
    · rename_i e hd
      simp only [Option.some.injEq] at h; subst h
      obtain ⟨h1, h2⟩ := findC2_mem hd; exact ⟨by simp [h1], h2⟩
    · split at h
      · rename_i hf; simp only [Option.some.injEq] at h; subst h; exact ⟨by simp, hf⟩
      · cases h
theorem findZ_mem {m : Md} {f : FuncId} {c : Con} {l : List Con} (h : findZ m l f = some c) : c ∈ l ∧ c.f = f := by
  unfold findZ at h
  split at h
  · split at h
    · exact findC2_mem h
    · exact findC_mem h
  · exact findC_mem h
theorem findM_mem {t : TypeId} {s : String} {f : FuncId} : ∀ {l : List (TypeId × String × FuncId)}, findM l t s = some f → (t, s, f) ∈ l
  | [], h => by cases h
  | (t0, s0, f0) :: l, h => by
    simp only [findM] at h
    split at h
    · rename_i e; cases h; obtain ⟨rfl, rfl⟩ := e; simp
    · have := findM_mem h; simp [this]

def calleeD (E : Env) (ts : Ts) (c : Call) : Option (FuncId × List D) :=
  match c.callee with
  | .value f => match strip (opd ts f) with
    | .fn (.func fid) fs cs => some (fid, fs ++ (c.args.toList.map fun x => strip (opd ts x)) ++ cs)
    | _ => none
  | .invoke x name => match strip (opd ts x) with
    | .iface t d => match findM E.me t name with
      | some fid => some (fid, d :: (c.args.toList.map fun x => strip (opd ts x)))
      | none => none
    | _ => none
  | _ => none
def addNm (n : Nm) (l : List Nm) : List Nm := if l.contains n then l else l ++ [n]
def addNms : List Nm → List Nm → List Nm
  | [], l => l
  | n :: r, l => addNms r (addNm n l)
def namesT (tab : Tab) : List Nm → List Nm
  | [] => []
  | n :: r => (match tab.get n with
    | some o => namesO o
    | none => []) ++ namesT tab r
def reach (tab : Tab) (ns : List Nm) : List Nm :=
  let a := addNms ns []
  let b := addNms (namesT tab a) a
  addNms (namesT tab b) b
def nodupNm : List Nm → Bool
  | [] => true
  | n :: r => !r.contains n && nodupNm r
def outOk (ns : List Nm) (tout : List (Nm × OO)) (nm : Nm) : Bool := (nm.2 == 0 && decide (nm.1 < ns.length)) || (nm.2 == 1 && (tout.map (·.1)).contains nm)
def namesOkB (tab : Tab) (ns : List Nm) (k gen : Nat) (ds : List D) (r : D) (tout : List (Nm × OO)) : Bool :=
  nodupNm ns && ((namesDs ds).all fun n => ns.contains n) && (ns.all fun n => match tab.get n with
    | some o => (namesO o).all fun m => ns.contains m
    | none => true) && (tout.all fun p => (p.1.2 == 0 && decide (p.1.1 < ns.length)) || (p.1.2 == 1 && (tab.get (k + 1000 * p.1.1, gen)).isNone)) &&
    ((namesD r).all fun nm => outOk ns tout nm) && (tout.all fun p => (namesO p.2).all fun nm => outOk ns tout nm)
theorem nodupNm_ok : ∀ {l : List Nm}, nodupNm l = true → l.Nodup
  | [], _ => by simp
  | n :: r, h => by
    simp only [nodupNm, Bool.and_eq_true, Bool.not_eq_true'] at h
    simp only [List.nodup_cons]
    exact ⟨by simpa using h.1, nodupNm_ok h.2⟩
theorem outOk_ok {ns : List Nm} {tout : List (Nm × OO)} {nm : Nm} (h : outOk ns tout nm = true) : (nm.2 = 0 ∧ nm.1 < ns.length) ∨ (nm.2 = 1 ∧ nm ∈ tout.map (·.1)) := by
  simpa only [outOk, Bool.or_eq_true, Bool.and_eq_true, beq_iff_eq, decide_eq_true_eq, List.contains_iff_mem] using h
theorem namesOkB_ok {tab : Tab} {ns : List Nm} {k gen : Nat} {ds : List D} {r : D} {tout : List (Nm × OO)} (h : namesOkB tab ns k gen ds r tout = true) : NamesOk tab ns k gen ds r tout := by
  simp only [namesOkB, Bool.and_eq_true, List.all_eq_true] at h
  obtain ⟨⟨⟨⟨⟨h1, h2⟩, h3⟩, h4⟩, h5⟩, h6⟩ := h
  refine ⟨nodupNm_ok h1, fun nm hm => by simpa using h2 nm hm, fun n hn o ho nm hm => ?_, fun p hp => ?_, fun nm hm => outOk_ok (h5 nm hm), fun p hp nm hm => outOk_ok (h6 p hp nm hm)⟩
  · have := h3 n hn
    rw [ho] at this
    have := List.all_eq_true.1 this nm hm
    simpa using this
  · have := h4 p hp
    simpa only [Bool.or_eq_true, Bool.and_eq_true, beq_iff_eq, decide_eq_true_eq, Option.isNone_iff_eq_none] using this
def lendOkB (tab : Tab) (k gen fuel : Nat) (ds : List D) (r : D) (news : List (Nm × OO)) : Bool :=
  puresD (ds.map (lendD tab fuel)) && flatD r && (news.all fun p => flatO p.2) && ((namesD r).all fun nm => (news.map (·.1)).contains nm) &&
    (news.all fun p => p.1.2 == 1 && (tab.get (k + 1000 * p.1.1, gen)).isNone) && (news.all fun p => (namesO p.2).all fun nm => (news.map (·.1)).contains nm)
theorem lendOkB_ok {tab : Tab} {k gen fuel : Nat} {ds : List D} {r : D} {news : List (Nm × OO)} (h0 : lendOk.lendOks tab fuel ds) (h : lendOkB tab k gen fuel ds r news = true) : LendOk tab k gen fuel ds r news := by
  simp only [lendOkB, Bool.and_eq_true, List.all_eq_true] at h
  obtain ⟨⟨⟨⟨⟨h1, h2⟩, h3⟩, h4⟩, h5⟩, h6⟩ := h
  refine ⟨h0, h1, h2, h3, fun nm hm => by simpa using h4 nm hm, fun p hp => ?_, fun p hp nm hm => by simpa using h6 p hp nm hm⟩
  have := h5 p hp
  simpa only [beq_iff_eq, Option.isNone_iff_eq_none] using this
def lendN : Nat := 6
/-- a call: the condition, what is yielded, what becomes of the table -/
def evCall (E : Env) (c : Md) (g guarded : Bool) (σ : S) (k : Nat) (q : Call) : Option (Prop × D × TE) :=
  match calleeD E σ.ts q with
  | none => none
  | some (fid, ds) => match findZ c E.cs fid with
    | none => none
    | some con => if c.apCall q = true then (if (!con.own || guarded) = true then none else match canonT σ.tab (canonN (reach σ.tab (namesDs ds))) (reach σ.tab (namesDs ds)) 0 with
        | none => none
        | some tin => match con.fn (renDs (canonN (reach σ.tab (namesDs ds))) ds) tin with
          | none => none
          | some (p, r, tout) => some ((sconds true σ.ts q.operands.toList ∧ namesOkB σ.tab (reach σ.tab (namesDs ds)) k σ.gen ds r tout = true ∧ ((reach σ.tab (namesDs ds)).all fun n => decide (n.2 ≠ σ.gen) && c.hot n.1) = true) ∧ p, renD (backN (reach σ.tab (namesDs ds)) k σ.gen) r,
              .upd (reach σ.tab (namesDs ds)) (tout.map fun p => (backN (reach σ.tab (namesDs ds)) k σ.gen p.1, renO (backN (reach σ.tab (namesDs ds)) k σ.gen) p.2))))
      else if c.barCall q = true then (if (con.own || guarded) = true then none else match con.fn (ds.map (lendD σ.tab lendN)) [] with
          | none => none
          | some (p, r, news) => some ((sconds true σ.ts q.operands.toList ∧ (lendOk.lendOks σ.tab lendN ds ∧ lendOkB σ.tab k σ.gen lendN ds r news = true) ∧ oldD.oldDs σ.tab σ.gen lendN ds = true) ∧ p, renD (backN [] k σ.gen) r, .add (news.map fun p => (backN [] k σ.gen p.1, renO (backN [] k σ.gen) p.2))))
      else if con.own = true then (if (c.pureCall q || c.freeCall q || ((guarded && !g) || c.lentCall q)) = true then none else match canonT σ.tab (canonN (reach σ.tab (namesDs ds))) (reach σ.tab (namesDs ds)) 0 with
        | none => none
        | some tin => match con.fn (renDs (canonN (reach σ.tab (namesDs ds))) ds) tin with
          | none => none
          | some (p, r, tout) => some ((sconds true σ.ts q.operands.toList ∧ namesOkB σ.tab (reach σ.tab (namesDs ds)) k σ.gen ds r tout = true) ∧ p, renD (backN (reach σ.tab (namesDs ds)) k σ.gen) r,
              .tab (backT (deadT σ.tab (reach σ.tab (namesDs ds))) (backN (reach σ.tab (namesDs ds)) k σ.gen) tout)))
      else match con.fn (ds.map (lendD σ.tab lendN)) [] with
        | none => none
        | some (p, r, []) => if (puresD ds && pureD r) = true then some ((sconds g σ.ts q.operands.toList ∧ lendOk.lendOks σ.tab lendN ds) ∧ (g = true → p), r, .none)
            else if (c.pureCall q || c.freeCall q) = true then none else if pureD r = true then some (sconds g σ.ts q.operands.toList ∧ (g = true → (lendOk.lendOks σ.tab lendN ds ∧ lendOkB σ.tab k σ.gen lendN ds r [] = true) ∧ p), r, .tab σ.tab)
            else if ((guarded && !g) || c.lentCall q) = true then none else some ((sconds true σ.ts q.operands.toList ∧ lendOk.lendOks σ.tab lendN ds ∧ lendOkB σ.tab k σ.gen lendN ds r [] = true) ∧ p, renD (backN [] k σ.gen) r, .tab σ.tab)
        | some (p, r, news) => if (c.pureCall q || ((guarded && !g) || c.lentCall q)) = true then none else if puresD ds = true then
              if c.isNews = true then if guarded = true then none else some ((sconds true σ.ts q.operands.toList ∧ lendOk.lendOks σ.tab lendN ds ∧ namesOkB σ.tab [] k σ.gen ds r news = true ∧ (news.all fun p => p.1.2 == 1) = true) ∧ p, renD (backN [] k σ.gen) r, .add (news.map fun p => (backN [] k σ.gen p.1, renO (backN [] k σ.gen) p.2)))
              else some ((sconds true σ.ts q.operands.toList ∧ lendOk.lendOks σ.tab lendN ds ∧ namesOkB σ.tab [] k σ.gen ds r news = true) ∧ p, renD (backN [] k σ.gen) r, .tab (backT σ.tab (backN [] k σ.gen) news))
            else if c.freeCall q = true then none else some ((sconds true σ.ts q.operands.toList ∧ lendOk.lendOks σ.tab lendN ds ∧ lendOkB σ.tab k σ.gen lendN ds r news = true) ∧ p, renD (backN [] k σ.gen) r, .tab (backT σ.tab (backN [] k σ.gen) news))

/-- a call of a method of what is pointed to -/
def calleeP (E : Env) (Γ : Ctx) (tab : Tab) (ts : Ts) (c : Call) : Option (FuncId × List D) :=
  match c.callee with
  | .invoke x name => match strip (opd ts x) with
    | .iface t (.ptr nm off) => match findMD E.md t name with
      | some (fid, e) => match Γ.get e with
        | some ti => match loadD ti tab (.ptr nm off) with
          | some r => some (fid, r.d :: (c.args.toList.map fun x => strip (opd ts x)))
          | none => none
        | none => none
      | none => none
    | _ => none
  | _ => none
def evCallP (E : Env) (Γ : Ctx) (c : Md) (g guarded : Bool) (σ : S) (k : Nat) (q : Call) : Option (Prop × D × TE) :=
  match calleeP E Γ σ.tab σ.ts q with
  | none => none
  | some (fid, ds) => match findC E.cs fid with
    | none => none
    | some con => if con.own = true then (if (c.pureCall q || c.freeCall q || (guarded || c.lentCall q)) = true then none else match canonT σ.tab (canonN (reach σ.tab (namesDs ds))) (reach σ.tab (namesDs ds)) 0 with
        | none => none
        | some tin => match con.fn (renDs (canonN (reach σ.tab (namesDs ds))) ds) tin with
          | none => none
          | some (p, r, tout) => some ((sconds true σ.ts q.operands.toList ∧ namesOkB σ.tab (reach σ.tab (namesDs ds)) k σ.gen ds r tout = true) ∧ p, renD (backN (reach σ.tab (namesDs ds)) k σ.gen) r,
              .tab (backT (deadT σ.tab (reach σ.tab (namesDs ds))) (backN (reach σ.tab (namesDs ds)) k σ.gen) tout)))
      else match con.fn (ds.map (lendD σ.tab lendN)) [] with
        | some (p, r, []) => if (c.pureCall q || c.freeCall q) = true then none else if pureD r = true then some (sconds g σ.ts q.operands.toList ∧ (g = true → (lendOk.lendOks σ.tab lendN ds ∧ lendOkB σ.tab k σ.gen lendN ds r [] = true) ∧ p), r, .tab σ.tab) else none
        | _ => none

def evOther (Γ : Ctx) (m : Bool) (base : Nat) (h z g : Bool) (ht : Nat → Bool) (o : Oper) (σ : S) : Option (Prop × S) :=
  match aval Γ m σ.tab (nmOf base o, σ.gen) (fun x => strip (opd σ.ts x)) o.op with
  | none => if skipOp o.op = true ∧ o.guard.isSome = true then some (g = false, σ.put o.dst (mkwhn o.guard g .any))
    else if (idleOp o.op && o.guard.isSome && !h) = true then some (g = false, σ.put o.dst (mkwhn o.guard g .any)) else none
  | some r => if (idleOp o.op && o.guard.isSome && !h) = true then (if g = true then some ((sconds g σ.ts o.op.operands.toList ∧ r.ob) ∧ freshE σ.tab (nmOf base o, σ.gen) r.eff, (σ.eff (nmOf base o) (.op r.eff)).put o.dst (mkwhn o.guard g r.d))
      else some (g = false, σ.put o.dst (mkwhn o.guard g .any)))
    else some ((sconds g σ.ts o.op.operands.toList ∧ (g = true → r.ob)) ∧ (r.eff.still = true ∨ o.guard = none) ∧ freshE σ.tab (nmOf base o, σ.gen) r.eff ∧ ((h = true → boxLoad σ.ts σ.gen o.op = true) ∧ ((z = true → frzLoad σ.ts o.op = true) ∧ coolLoad ht σ.ts o.op = true)), (σ.eff (nmOf base o) (.op r.eff)).put o.dst (mkwhn o.guard g r.d))
def evOp (E : Env) (Γ : Ctx) (m : Bool) (base : Nat) (c : Md) (ops : Array Oper) (o : Oper) (σ : S) : Option (Prop × S) :=
  match gdD ops o σ.ts with
  | none => none
  | some g => match o.op with
    | .pick q x y => match strip (opd σ.ts q) with
      | .lit (.bool b) => match pickD b (strip (opd σ.ts x)) (strip (opd σ.ts y)) with
        | some d => some (scond g (opd σ.ts q) ∧ scond (g && b) (opd σ.ts x) ∧ scond (g && !b) (opd σ.ts y), σ.put o.dst (mkwhn o.guard g d))
        | none => none
      | _ => none
    | .call q => if isGoCall (.call q) = true then (match evCall E c g o.guard.isSome σ (nmOf base o) q with
        | some (p, r, t) => some (p, (σ.eff (nmOf base o) t).put o.dst (mkwhn o.guard g r))
        | none => match evCallP E Γ c g o.guard.isSome σ (nmOf base o) q with
          | some (p, r, t) => some (p, (σ.eff (nmOf base o) t).put o.dst (mkwhn o.guard g r))
          | none => if (o.guard.isSome && !c.isNews && !c.pureCall q) = true then some (g = false, σ.put o.dst (mkwhn o.guard g .any)) else none) else evOther Γ m base (cApp c ops) c.isFrz g c.hot o σ
    | _ => evOther Γ m base (cApp c ops) c.isFrz g c.hot o σ
def evOps (E : Env) (Γ : Ctx) (m : Bool) (base : Nat) (c : Md) (ops : Array Oper) : List Oper → S → Option (Prop × S)
  | [], σ => some (True, σ)
  | o :: l, σ => match evOp E Γ m base c ops o σ with
    | some (p, σ') => match evOps E Γ m base c ops l σ' with
      | some (q, σ'') => some (p ∧ q, σ'')
      | none => none
    | none => none

/-- an operation where the order is fixed: rows may be taken out of rows, or put in -/
def evZ (E : Env) (Γ : Ctx) (m : Bool) (base : Nat) (ops : Array Oper) (o : Oper) (σ : S) : Option (Prop × S) :=
  match evOp E Γ m base (.any []) ops o σ with
  | some r => some r
  | none => if o.guard.isNone = true then (match deepD Γ σ.tab (nmOf base o, σ.gen) (fun x => strip (opd σ.ts x)) o.op with
    | some (p, d, T) => some (sconds true σ.ts o.op.operands.toList ∧ p, ({ σ with tab := T } : S).put o.dst d)
    | none => none) else none
def evZs (E : Env) (Γ : Ctx) (m : Bool) (base : Nat) (ops : Array Oper) : List Oper → S → Option (Prop × S)
  | [], σ => some (True, σ)
  | o :: l, σ => match evZ E Γ m base ops o σ with
    | some (p, σ') => match evZs E Γ m base ops l σ' with
      | some (q, σ'') => some (p ∧ q, σ'')
      | none => none
    | none => none

theorem puresD_all : ∀ {ds : List D}, puresD ds = true ↔ ∀ d ∈ ds, pureD d = true
  | [] => by simp [puresD]
  | d :: ds => by simp [puresD, puresD_all (ds := ds)]
theorem Mof_nil' {β γ} {x : Nat} : ¬ Mof β γ Tab.nil x := Mof_nil
/-- what is known of an argument may be less than is asked -/
theorem PCo.loose {P : Program} {f : FuncId} {ds : List D} {tab : Tab} {k : Nat} {tin : Tab} {r : D} {tout : Tab} (hp : puresD ds = true) (hok : lendOk.lendOks tab k ds) (h : PCo P f (ds.map (lendD tab k)) tin r tout) : PCo P f ds tin r tout := by
  have key : ∀ (k : Nat) (d : D) {F : Nat → Prop} {hp : Array Obj} {β : Beta} {v : Value}, pureD d = true → lendOk tab k d → Rep F hp β d v → Rep F hp β (lendD tab k d) v := by
    intro k
    induction k with
    | zero => intro d F hp β v _ _ _; simp only [lendD, Rep]
    | succ k ih =>
      have ihs : ∀ (ds : List D) {F : Nat → Prop} {hp : Array Obj} {β : Beta} {vs : List Value}, puresD ds = true → lendOk.lendOks tab k ds → Reps F hp β ds vs → Reps F hp β (ds.map (lendD tab k)) vs := by
        intro ds
        induction ds with
        | nil => intro F hp β vs _ _ r; simpa only [Reps, List.map_nil] using r
        | cons d ds ihd =>
          intro F hp β vs hp' ho r
          simp only [Reps, List.map_cons, lendOk.lendOks, puresD, Bool.and_eq_true] at r ho hp' ⊢
          obtain ⟨v, vs', e, r1, r2⟩ := r
          exact ⟨v, vs', e, ih d hp'.1 ho.1 r1, ihd hp'.2 ho.2 r2⟩
      intro d F hp β v hpd ho r
      cases d with
      | lit u => simpa only [lendD] using r
      | any => simp only [lendD, Rep]
      | agg cs =>
        simp only [lendD, Rep, lendOk, pureD] at r ho hpd ⊢
        obtain ⟨vs, e, r⟩ := r
        exact ⟨vs, e, ihs cs hpd ho r⟩
      | tup cs =>
        simp only [lendD, Rep, lendOk, pureD] at r ho hpd ⊢
        obtain ⟨vs, e, r⟩ := r
        exact ⟨vs, e, ihs cs hpd ho r⟩
      | sl t s z xs => simp only [lendD]; exact r.loose
      | sx s xs =>
        simp only [lendD, Rep, lendOk, pureD, List.length_map] at r ho hpd ⊢
        rcases r with ⟨rfl, a, e⟩ | ⟨b, off, c, e, fr, h1, h2, h3, h6⟩
        · exact .inl ⟨rfl, a, e⟩
        · refine .inr ⟨b, off, c, e, fr, h1, h2, h3, Repx.of_get fun i hi => ?_⟩
          have hi' : i < xs.length := by simpa using hi
          obtain ⟨u, g1, g2, g3⟩ := h6.get i hi'
          have hok : ∀ (l : List D), lendOk.lendOks tab k l → ∀ d ∈ l, lendOk tab k d := by
            intro l
            induction l with
            | nil => intro _ d hd; simp at hd
            | cons y l ihl =>
              intro h d hd
              simp only [lendOk.lendOks] at h
              rcases List.mem_cons.1 hd with rfl | hd
              · exact h.1
              · exact ihl h.2 d hd
          have hm : xs[i] ∈ xs := List.getElem_mem hi'
          refine ⟨u, by simpa using ih xs[i] (puresD_all.1 hpd _ hm) (hok xs ho.1 _ hm) g1, ⟨?_, g2.2⟩, g3⟩
          exact List.all_eq_true.1 ho.2 _ (List.getElem_mem hi)
      | el d =>
        simp only [pureD] at hpd
        simp only [lendD, hpd, if_true]
        exact r
      | fm kk ks z vs => simpa only [lendD] using r
      | ptr nm o => simp [pureD] at hpd
      | elp nm i o => simp [pureD] at hpd
      | own nm s o n => simp [pureD] at hpd
      | mp nm => simp [pureD] at hpd
      | it nm => simp [pureD] at hpd
      | fn f fs cs =>
        simp only [lendD, Rep, lendOk, pureD, Bool.and_eq_true] at r ho hpd ⊢
        obtain ⟨vf, vc, e, r1, r2⟩ := r
        exact ⟨vf, vc, e, ihs fs hpd.1 ho.1 r1, ihs cs hpd.2 ho.2 r2⟩
      | iface t d =>
        simp only [lendD, Rep, lendOk, pureD] at r ho hpd ⊢
        obtain ⟨u, e, r⟩ := r
        exact ⟨u, e, ih d hpd ho r⟩
      | whn g d =>
        simp only [lendD, Rep, lendOk, pureD] at r ho hpd ⊢
        exact ⟨fun hg => ih d hpd ho (r.1 hg), r.2⟩
  have keys : ∀ (ds : List D) {F : Nat → Prop} {hp : Array Obj} {β : Beta} {vs : List Value}, puresD ds = true → lendOk.lendOks tab k ds → Reps F hp β ds vs → Reps F hp β (ds.map (lendD tab k)) vs := by
    intro ds
    induction ds with
    | nil => intro F hp β vs _ _ r; simpa only [Reps, List.map_nil] using r
    | cons d ds ihd =>
      intro F hp β vs hp' ho r
      simp only [Reps, List.map_cons, lendOk.lendOks, puresD, Bool.and_eq_true] at r ho hp' ⊢
      obtain ⟨v, vs', e, r1, r2⟩ := r
      exact ⟨v, vs', e, key k d hp'.1 ho.1 r1, ihd hp'.2 ho.2 r2⟩
  exact ⟨h.1, fun w F β γ vs O G hr => h.2 w F β γ vs O G (keys ds hp hok hr)⟩
end Go.Eng
namespace Go.Eng
variable [HasG]
set_option linter.unusedSectionVars false
set_option linter.unusedVariables false
set_option linter.unusedSimpArgs false

section
variable {P : Program} {E : Env} {Γ : Ctx} {m : Bool} {base : Nat} {c : Md} {ops : Array Oper}

theorem calleeD_ok (hE : E.ok P) {ts : Ts} {q : Call} {fid : FuncId} {ds : List D} (h : calleeD E ts q = some (fid, ds)) : CallTo P ts q fid ds := by
  unfold calleeD at h
  unfold CallTo
  split at h
  · rename_i f hc
    split at h
    · rename_i fid' fs cs hf
      simp only [Option.some.injEq, Prod.mk.injEq] at h
      obtain ⟨rfl, rfl⟩ := h
      simp only [hc, hf, and_self]
    · simp at h
  · rename_i x name hc
    split at h
    · rename_i t d hx
      split at h
      · rename_i fid' hm
        simp only [Option.some.injEq, Prod.mk.injEq] at h
        obtain ⟨rfl, rfl⟩ := h
        simp only [hc, hx]
        exact ⟨hE.me _ (findM_mem hm), trivial⟩
      · simp at h
    · simp at h
  · simp at h

theorem canon_nil {tab : Tab} : canonT tab (canonN []) [] 0 = some [] := rfl
theorem renD_back_nil {k gen : Nat} {r : D} (h : pureD r = true) : renD (backN [] k gen) r = r := pure_ren h

theorem evCall_ok (hE : E.ok P) {g guarded : Bool} {σ : S} {k : Nat} {q : Call} {p : Prop} {r : D} {t : TE} (h : evCall E c g guarded σ k q = some (p, r, t)) (hp : p) :
    (c.apCall q = true ∧ guarded = false ∧ ∃ ns L, t = .upd ns L ∧ CallA P c.hot σ.ts σ.tab k σ.gen q r ns L) ∨ (c.apCall q = false ∧ ((c.barCall q = true ∧ guarded = false ∧ ∃ L, t = .add L ∧ CallN P σ.ts σ.tab k σ.gen q r L) ∨ (c.barCall q = false ∧ ((t = .none ∧ CallP P g σ.ts q r) ∨ (c.pureCall q = false ∧ c.freeCall q = false ∧ t = .tab σ.tab ∧ CallL Γ P g σ.ts σ.tab k σ.gen q r) ∨ (c.pureCall q = false ∧ c.freeCall q = false ∧ ((guarded && !g) = false ∧ c.lentCall q = false) ∧ ∃ T, t = .tab T ∧ CallE Γ P σ.ts σ.tab k σ.gen q r T) ∨
    (c.isNews = true ∧ guarded = false ∧ ∃ L, t = .add L ∧ CallD P σ.ts σ.tab k σ.gen q r L))))) := by
  unfold evCall at h
  split at h
  · simp at h
  · rename_i fid ds hcal
    have hto := calleeD_ok hE hcal
    split at h
    · simp at h
    · rename_i con hcon
      obtain ⟨hmem, rfl⟩ := findZ_mem hcon
      have hok := hE.cs _ hmem
      split at h
      · rename_i hap
        split at h
        · simp at h
        · rename_i hog
          simp only [Bool.or_eq_true, not_or, Bool.not_eq_true] at hog
          split at h
          · simp at h
          · rename_i tin hcan
            split at h
            · simp at h
            · rename_i p' r' tout hfn
              simp only [Option.some.injEq, Prod.mk.injEq] at h
              obtain ⟨rfl, rfl, rfl⟩ := h
              refine .inl ⟨hap, hog.2, _, _, rfl, con.f, ds, tin, tout, r', hto, hp.1.1, fun n hn => ?_, hcan, namesOkB_ok hp.1.2.1, hok _ _ _ _ _ hfn hp.2, rfl, rfl⟩
              have := List.all_eq_true.1 hp.1.2.2 n hn
              simpa using this
      rename_i hap
      refine .inr ⟨by simpa using hap, ?_⟩
      split at h
      · rename_i hbar
        split at h
        · simp at h
        · rename_i hog
          simp only [Bool.or_eq_true, not_or, Bool.not_eq_true] at hog
          split at h
          · simp at h
          · rename_i p' r' news hfn
            simp only [Option.some.injEq, Prod.mk.injEq] at h
            obtain ⟨rfl, rfl, rfl⟩ := h
            exact .inl ⟨hbar, hog.2, _, rfl, con.f, ds, lendN, r', news, hto, hp.1.1, hp.1.2.2, lendOkB_ok hp.1.2.1.1 hp.1.2.1.2, hok _ _ _ _ _ hfn hp.2, rfl, rfl⟩
      rename_i hbar
      refine .inr ⟨by simpa using hbar, ?_⟩
      split at h
      · split at h
        · simp at h
        · rename_i hcg
          simp only [Bool.or_eq_true, not_or, Bool.not_eq_true] at hcg
          split at h
          · simp at h
          · rename_i tin hcan
            split at h
            · simp at h
            · rename_i p' r' tout hfn
              simp only [Option.some.injEq, Prod.mk.injEq] at h
              obtain ⟨rfl, rfl, rfl⟩ := h
              exact .inr (.inr (.inl ⟨hcg.1.1, hcg.1.2, hcg.2, _, rfl, con.f, ds, .inl hto, hp.1.1, .inl ⟨_, tin, tout, r', hcan, namesOkB_ok hp.1.2, hok _ _ _ _ _ hfn hp.2, rfl, rfl⟩⟩))
      · split at h
        · simp at h
        · rename_i p' r' hfn
          split at h
          · rename_i hpp
            simp only [Bool.and_eq_true] at hpp
            simp only [Option.some.injEq, Prod.mk.injEq] at h
            obtain ⟨rfl, rfl, rfl⟩ := h
            exact .inl ⟨rfl, con.f, ds, hto, hp.1.1, hpp.1, hpp.2, fun hg => PCo.loose hpp.1 hp.1.2 (hok _ _ _ _ _ hfn (hp.2 hg))⟩
          · split at h
            · simp at h
            · rename_i hcc
              simp only [Bool.or_eq_true, not_or, Bool.not_eq_true] at hcc
              split at h
              · rename_i hpr
                simp only [Option.some.injEq, Prod.mk.injEq] at h
                obtain ⟨rfl, rfl, rfl⟩ := h
                exact .inr (.inl ⟨hcc.1, hcc.2, rfl, con.f, ds, lendN, .inl hto, hp.1, hpr, fun hg => ⟨lendOkB_ok (hp.2 hg).1.1 (hp.2 hg).1.2, hok _ _ _ _ _ hfn (hp.2 hg).2⟩⟩)
              · split at h
                · simp at h
                · rename_i hcg
                  simp only [Bool.or_eq_true, not_or, Bool.not_eq_true] at hcg
                  simp only [Option.some.injEq, Prod.mk.injEq] at h
                  obtain ⟨rfl, rfl, rfl⟩ := h
                  exact .inr (.inr (.inl ⟨hcc.1, hcc.2, hcg, _, rfl, con.f, ds, .inl hto, hp.1.1, .inr ⟨lendN, [], r', lendOkB_ok hp.1.2.1 hp.1.2.2, hok _ _ _ _ _ hfn hp.2, rfl, rfl⟩⟩))
        · rename_i p' r' news hne hfn
          split at h
          · simp at h
          · rename_i hcg
            simp only [Bool.or_eq_true, not_or, Bool.not_eq_true] at hcg
            split at h
            · rename_i hpp
              split at h
              · rename_i hnw
                split at h
                · simp at h
                rename_i hgu
                simp only [Option.some.injEq, Prod.mk.injEq] at h
                obtain ⟨rfl, rfl, rfl⟩ := h
                refine .inr (.inr (.inr ⟨hnw, by simpa using hgu, _, rfl, con.f, ds, r', news, hto, hp.1.1, namesOkB_ok hp.1.2.2.1, fun p hp' => ?_, ?_, rfl, rfl⟩))
                · have := List.all_eq_true.1 hp.1.2.2.2 p hp'
                  simpa using this
                · rw [pure_rens hpp]
                  exact PCo.loose hpp hp.1.2.1 (hok _ _ _ _ _ hfn hp.2)
              · rename_i hnw
                simp only [Bool.not_eq_true] at hnw
                simp only [Option.some.injEq, Prod.mk.injEq] at h
                obtain ⟨rfl, rfl, rfl⟩ := h
                have hnf : c.freeCall q = false := by cases c <;> simp [Md.isNews] at hnw <;> rfl
                refine .inr (.inr (.inl ⟨hcg.1, hnf, hcg.2, _, rfl, con.f, ds, .inl hto, hp.1.1, .inl ⟨[], [], news, r', rfl, namesOkB_ok hp.1.2.2, ?_, rfl, rfl⟩⟩))
                rw [pure_rens hpp]
                exact PCo.loose hpp hp.1.2.1 (hok _ _ _ _ _ hfn hp.2)
            · split at h
              · simp at h
              · rename_i hnw
                simp only [Bool.not_eq_true] at hnw
                simp only [Option.some.injEq, Prod.mk.injEq] at h
                obtain ⟨rfl, rfl, rfl⟩ := h
                exact .inr (.inr (.inl ⟨hcg.1, hnw, hcg.2, _, rfl, con.f, ds, .inl hto, hp.1.1, .inr ⟨lendN, news, r', lendOkB_ok hp.1.2.1 hp.1.2.2, hok _ _ _ _ _ hfn hp.2, rfl, rfl⟩⟩))

theorem calleeP_ok (hE : E.ok P) {ts : Ts} {tab : Tab} {q : Call} {fid : FuncId} {ds : List D} (h : calleeP E Γ tab ts q = some (fid, ds)) : CallTD Γ P ts tab q fid ds := by
  unfold calleeP at h
  split at h
  · rename_i x name hc
    split at h
    · rename_i t nm off hx
      split at h
      · rename_i fid' e hm
        split at h
        · rename_i ti hti
          split at h
          · rename_i r hr
            simp only [Option.some.injEq, Prod.mk.injEq] at h
            obtain ⟨rfl, rfl⟩ := h
            exact ⟨x, name, t, nm, off, e, ti, r, hc, hx, hE.md _ (findMD_mem hm), hti, hr, rfl⟩
          · simp at h
        · simp at h
      · simp at h
    · simp at h
  · simp at h
theorem calleeP_bar {g guarded : Bool} {σ : S} {k : Nat} {q : Call} {x : Prop × D × TE} (h : evCallP E Γ c g guarded σ k q = some x) : c.barCall q = false := by
  cases c <;> try rfl
  simp only [Md.barCall]
  split
  · rename_i f hf
    simp [evCallP, calleeP, hf] at h
  · rfl
theorem calleeP_ap {g guarded : Bool} {σ : S} {k : Nat} {q : Call} {x : Prop × D × TE} (h : evCallP E Γ c g guarded σ k q = some x) : c.apCall q = false := by
  cases c <;> try rfl
  simp only [Md.apCall]
  split
  · rename_i f hf
    simp [evCallP, calleeP, hf] at h
  · rfl
theorem evCallP_ok (hE : E.ok P) {g guarded : Bool} {σ : S} {k : Nat} {q : Call} {p : Prop} {r : D} {t : TE} (h : evCallP E Γ c g guarded σ k q = some (p, r, t)) (hp : p) :
    (t = .none ∧ CallP P g σ.ts q r) ∨ (c.pureCall q = false ∧ c.freeCall q = false ∧ t = .tab σ.tab ∧ CallL Γ P g σ.ts σ.tab k σ.gen q r) ∨ (c.pureCall q = false ∧ c.freeCall q = false ∧ (guarded = false ∧ c.lentCall q = false) ∧ ∃ T, t = .tab T ∧ CallE Γ P σ.ts σ.tab k σ.gen q r T) ∨
    (c.isNews = true ∧ guarded = false ∧ ∃ L, t = .add L ∧ CallD P σ.ts σ.tab k σ.gen q r L) := by
  unfold evCallP at h
  split at h
  · simp at h
  · rename_i fid ds hcal
    have hto := calleeP_ok hE hcal
    split at h
    · simp at h
    · rename_i con hcon
      obtain ⟨hmem, rfl⟩ := findC_mem hcon
      have hok := hE.cs _ hmem
      split at h
      · split at h
        · simp at h
        · rename_i hcg
          simp only [Bool.or_eq_true, not_or, Bool.not_eq_true] at hcg
          split at h
          · simp at h
          · rename_i tin hcan
            split at h
            · simp at h
            · rename_i p' r' tout hfn
              simp only [Option.some.injEq, Prod.mk.injEq] at h
              obtain ⟨rfl, rfl, rfl⟩ := h
              exact .inr (.inr (.inl ⟨hcg.1.1, hcg.1.2, hcg.2, _, rfl, con.f, ds, .inr hto, hp.1.1, .inl ⟨_, tin, tout, r', hcan, namesOkB_ok hp.1.2, hok _ _ _ _ _ hfn hp.2, rfl, rfl⟩⟩))
      · split at h
        · rename_i p' r' hfn
          split at h
          · simp at h
          · rename_i hcc
            simp only [Bool.or_eq_true, not_or, Bool.not_eq_true] at hcc
            split at h
            · rename_i hpr
              simp only [Option.some.injEq, Prod.mk.injEq] at h
              obtain ⟨rfl, rfl, rfl⟩ := h
              exact .inr (.inl ⟨hcc.1, hcc.2, rfl, con.f, ds, lendN, .inr hto, hp.1, hpr, fun hg => ⟨lendOkB_ok (hp.2 hg).1.1 (hp.2 hg).1.2, hok _ _ _ _ _ hfn (hp.2 hg).2⟩⟩)
            · simp at h
        · simp at h

theorem idle_cool {hot : Nat → Bool} {ts : Ts} {op : Op} (h : idleOp op = true) : coolLoad hot ts op = true := by
  cases op <;> first | rfl | (simp [idleOp] at h; done)
theorem idle_frz {ts : Ts} {op : Op} (h : idleOp op = true) : frzLoad ts op = true := by
  cases op <;> first | rfl | (simp [idleOp] at h; done)
theorem evOther_ok {g : Bool} {o : Oper} {σ σ' : S} {p : Prop} (hg : gdD ops o σ.ts = some g) (hc : isGoCall o.op = false) (h : evOther Γ m base (cApp c ops) c.isFrz g c.hot o σ = some (p, σ')) (hp : p) :
    ∃ d t, YA P Γ m base c ops o σ d t ∧ σ' = (σ.eff (nmOf base o) t).put o.dst d := by
  have idle : (idleOp o.op && o.guard.isSome && !cApp c ops) = true → g = false → ∃ d t, YA P Γ m base c ops o σ d t ∧ σ.put o.dst (mkwhn o.guard g .any) = (σ.eff (nmOf base o) t).put o.dst d := fun hi h0 => by
    simp only [Bool.and_eq_true, Bool.not_eq_true'] at hi
    exact ⟨_, _, .idle hi.2 hg h0 hi.1.1 (fun q _ e => by rw [hc] at e; cases e), rfl⟩
  unfold evOther at h
  split at h
  · split at h
    · rename_i hsk
      simp only [Option.some.injEq, Prod.mk.injEq] at h
      obtain ⟨rfl, rfl⟩ := h
      exact ⟨_, _, .skip hg hp hsk.1, rfl⟩
    · split at h
      · rename_i hi
        simp only [Option.some.injEq, Prod.mk.injEq] at h
        obtain ⟨rfl, rfl⟩ := h
        exact idle hi hp
      · simp at h
  · rename_i r hr
    split at h
    · rename_i hi
      split at h
      · rename_i hgt
        simp only [Option.some.injEq, Prod.mk.injEq] at h
        obtain ⟨rfl, rfl⟩ := h
        simp only [Bool.and_eq_true, Bool.not_eq_true'] at hi
        exact ⟨_, _, .op hg hc hr hp.1.1 (fun _ => hp.1.2) (.inr hgt) hp.2 ⟨fun e => (by rw [hi.2] at e; cases e), fun _ => idle_frz hi.1.1, idle_cool hi.1.1⟩, rfl⟩
      · simp only [Option.some.injEq, Prod.mk.injEq] at h
        obtain ⟨rfl, rfl⟩ := h
        exact idle hi hp
    · simp only [Option.some.injEq, Prod.mk.injEq] at h
      obtain ⟨rfl, rfl⟩ := h
      refine ⟨_, _, .op hg hc hr hp.1.1 hp.1.2 (hp.2.1.imp id fun e => ?_) hp.2.2.1 hp.2.2.2, rfl⟩
      unfold gdD at hg; rw [e] at hg; simpa using hg.symm
theorem evOp_ok (hE : E.ok P) {o : Oper} {σ σ' : S} {p : Prop} (h : evOp E Γ m base c ops o σ = some (p, σ')) (hp : p) :
    ∃ d t, YA P Γ m base c ops o σ d t ∧ σ' = (σ.eff (nmOf base o) t).put o.dst d := by
  unfold evOp at h
  split at h
  · simp at h
  · rename_i g hg
    split at h
    · rename_i q x y ho
      split at h
      · rename_i b hb
        split at h
        · rename_i d hd
          simp only [Option.some.injEq, Prod.mk.injEq] at h
          obtain ⟨rfl, rfl⟩ := h
          exact ⟨_, _, .pick hg ho hb hd hp, rfl⟩
        · simp at h
      · simp at h
    · rename_i q ho
      split at h
      · rename_i hgo
        split at h
        · rename_i p' r t hcall
          simp only [Option.some.injEq, Prod.mk.injEq] at h
          obtain ⟨rfl, rfl⟩ := h
          rcases evCall_ok (Γ := Γ) hE hcall hp with ⟨hap, hgd, ns, L, rfl, hca⟩ | ⟨hap, ⟨hbar, hgd, L, rfl, hcn⟩ | ⟨hbar, ⟨rfl, hcp⟩ | ⟨hc, hnw, rfl, hcl⟩ | ⟨hc, hnw, ⟨hgd, hlc⟩, T, rfl, hce⟩ | ⟨hnw, hgd, L, rfl, hcd⟩⟩⟩
          · have hgn : o.guard = none := by simpa using hgd
            refine ⟨_, _, .callA hap hgn ho (by rw [ho]; exact hgo) hca, ?_⟩
            simp only [hgn, mkwhn]
          · have hgn : o.guard = none := by simpa using hgd
            refine ⟨_, _, .callN hbar hgn ho (by rw [ho]; exact hgo) hcn hap, ?_⟩
            simp only [hgn, mkwhn]
          · exact ⟨_, _, .callP hg ho (by rw [ho]; exact hgo) hcp, rfl⟩
          · exact ⟨_, _, .callL hc hnw hg ho (by rw [ho]; exact hgo) hcl hbar hap, rfl⟩
          · have hgt : gdD ops o σ.ts = some true ∧ mkwhn o.guard g r = mkwhn o.guard true r := by
              cases hgs : o.guard with
              | none => exact ⟨by unfold gdD; rw [hgs], rfl⟩
              | some x =>
                have hgg : g = true := by simpa [hgs] using hgd
                exact ⟨by rw [hg, hgg], by rw [hgg]⟩
            refine ⟨_, _, .callE hc hnw hgt.1 ho (by rw [ho]; exact hgo) hce hlc hbar hap, ?_⟩
            rw [hgt.2]
          · have hgn : o.guard = none := by simpa using hgd
            refine ⟨_, _, .callD hnw hgn ho (by rw [ho]; exact hgo) hcd, ?_⟩
            simp only [hgn, mkwhn]
        · split at h
          · rename_i p' r t hcall
            simp only [Option.some.injEq, Prod.mk.injEq] at h
            obtain ⟨rfl, rfl⟩ := h
            have hbar : c.barCall q = false := calleeP_bar hcall
            have hap : c.apCall q = false := calleeP_ap hcall
            rcases evCallP_ok hE hcall hp with ⟨rfl, hcp⟩ | ⟨hc, hnw, rfl, hcl⟩ | ⟨hc, hnw, ⟨hgd, hlc⟩, T, rfl, hce⟩ | ⟨hnw, hgd, L, rfl, hcd⟩
            · exact ⟨_, _, .callP hg ho (by rw [ho]; exact hgo) hcp, rfl⟩
            · exact ⟨_, _, .callL hc hnw hg ho (by rw [ho]; exact hgo) hcl hbar hap, rfl⟩
            · have hgn : o.guard = none := by simpa using hgd
              refine ⟨_, _, .callE hc hnw (by unfold gdD; rw [hgn]) ho (by rw [ho]; exact hgo) hce hlc hbar hap, ?_⟩
              simp only [hgn, mkwhn]
            · have hgn : o.guard = none := by simpa using hgd
              refine ⟨_, _, .callD hnw hgn ho (by rw [ho]; exact hgo) hcd, ?_⟩
              simp only [hgn, mkwhn]
          · split at h
            · rename_i hi
              simp only [Option.some.injEq, Prod.mk.injEq] at h
              obtain ⟨rfl, rfl⟩ := h
              simp only [Bool.and_eq_true, Bool.not_eq_true'] at hi
              refine ⟨_, _, .idle hi.1.2 hg hp ?_ (fun q' e _ => by rw [ho] at e; cases e; exact hi.2), rfl⟩
              rw [ho]
              obtain ⟨cal, args, tys⟩ := q
              cases cal <;> first | rfl | (simp [isGoCall] at hgo)
            · simp at h
      · rename_i hgo
        exact evOther_ok hg (by rw [ho]; simpa using hgo) h hp
    · rename_i op hop1 hop2
      refine evOther_ok hg ?_ h hp
      cases ho : o.op <;> first | rfl | exact absurd ho (hop2 _)
theorem evOps_ok (hE : E.ok P) : ∀ {l : List Oper} {σ σ' : S} {p : Prop}, evOps E Γ m base c ops l σ = some (p, σ') → p → YAs P Γ m base c ops l σ σ'
  | [], σ, σ', p, h, hp => by
    simp only [evOps, Option.some.injEq, Prod.mk.injEq] at h
    obtain ⟨_, rfl⟩ := h
    exact .nil
  | o :: l, σ, σ', p, h, hp => by
    simp only [evOps] at h
    split at h
    · rename_i p1 σ1 h1
      split at h
      · rename_i p2 σ2 h2
        simp only [Option.some.injEq, Prod.mk.injEq] at h
        obtain ⟨rfl, rfl⟩ := h
        obtain ⟨d, t, hy, rfl⟩ := evOp_ok (P := P) hE h1 hp.1
        exact .cons hy (evOps_ok hE h2 hp.2)
      · simp at h
    · simp at h
theorem evZ_ok (hE : E.ok P) {o : Oper} {σ σ' : S} {p : Prop} (h : evZ E Γ m base ops o σ = some (p, σ')) (hp : p) : ∃ d t, ZA P Γ m base ops o σ d t ∧ σ' = (σ.eff (nmOf base o) t).put o.dst d := by
  unfold evZ at h
  split at h
  · rename_i r hr
    simp only [Option.some.injEq] at h; subst h
    obtain ⟨d, t, hy, e⟩ := evOp_ok hE hr hp
    exact ⟨d, t, .ya hy, e⟩
  · split at h
    · rename_i hg
      split at h
      · rename_i p' d T hd
        simp only [Option.some.injEq, Prod.mk.injEq] at h
        obtain ⟨rfl, rfl⟩ := h
        exact ⟨d, _, .deep (by simpa using hg) hp.1 hd hp.2, rfl⟩
      · cases h
    · cases h
theorem evZs_ok (hE : E.ok P) : ∀ {l : List Oper} {σ σ' : S} {p : Prop}, evZs E Γ m base ops l σ = some (p, σ') → p → ZAs P Γ m base ops l σ σ'
  | [], σ, σ', p, h, hp => by
    simp only [evZs, Option.some.injEq, Prod.mk.injEq] at h
    obtain ⟨_, rfl⟩ := h
    exact .nil
  | o :: l, σ, σ', p, h, hp => by
    simp only [evZs] at h
    split at h
    · rename_i p1 σ1 h1
      split at h
      · rename_i p2 σ2 h2
        simp only [Option.some.injEq, Prod.mk.injEq] at h
        obtain ⟨rfl, rfl⟩ := h
        obtain ⟨d, t, hy, rfl⟩ := evZ_ok (P := P) hE h1 hp.1
        exact .cons hy (evZs_ok hE h2 hp.2)
      · simp at h
    · simp at h
end

/-! ### running a code on data -/
inductive Fr where
  | seq (c : Code)
  | blk (id : Nat)
  | lp
  | lpu (c : Code)
inductive Cmd where
  | code (c : Code)
  | norm
  | exit (id : Nat)
  | ret
inductive T where
  | bad
  | ret (σ : S)
  | again (j : Nat) (σ : S)
  | ob (p : Prop) (t : T)
  | loop (c : Code) (k : List Fr) (σ : S)
  | nxt (n : Nat) (seen : List Nat) (f : Nat → T) (t : T)
def lpc : List Fr → Nat
  | [] => 0
  | .lp :: k => lpc k + 1
  | .lpu _ :: k => lpc k
  | .seq _ :: k => lpc k
  | .blk _ :: k => lpc k
/-- a region that goes on in a loop over a map -/
def nextOps (σ : S) : List Oper → Option (Oper × List Oper × Nm × Nat × List (List Int) × D × List D × List Nat)
  | [] => none
  | o :: rest => match nextIt σ o with
    | some x => some (o, rest, x)
    | none => none
def run (E : Env) (Γ : Ctx) (m : Bool) (base : Nat) (fl : List Nat) : Nat → Cmd → List Fr → S → T
  | 0, _, _, _ => .bad
  | n + 1, .code .skip, k, σ => run E Γ m base fl n .norm k σ
  | n + 1, .code (.label _), k, σ => run E Γ m base fl n .norm k σ
  | n + 1, .code (.seq x y), k, σ => run E Γ m base fl n (.code x) (.seq y :: k) σ
  | n + 1, .code (.cond c x y), k, σ => match strip (opd σ.ts c) with
    | .lit (.bool b) => .ob (scond true (opd σ.ts c)) (if b = true then run E Γ m base fl n (.code x) k σ else run E Γ m base fl n (.code y) k σ)
    | _ => .bad
  | n + 1, .code (.region _ ops false), k, σ => match nextOps σ ops.toList with
    | some (o, rest, nm, kk, ks, z, vs, seen) => .ob (opndOk σ o) (.nxt ks.length seen
        (fun i => match evOps E Γ m base (.any []) ops rest (nextS σ o nm kk ks z vs seen i) with
          | some (p, σ') => .ob p (run E Γ m base fl n .norm k σ'.bump)
          | none => .bad)
        (match evOps E Γ m base (.any []) ops rest (overS σ o) with
          | some (p, σ') => .ob p (run E Γ m base fl n .norm k σ'.bump)
          | none => .bad))
    | none => match evZs E Γ m base ops ops.toList σ with
      | some (p, σ') => .ob p (run E Γ m base fl n .norm k σ'.bump)
      | none => .bad
  | n + 1, .code (.region id ops true), k, σ => match evOps E Γ m base (mdOf fl id) ops ops.toList σ with
    | some (p, σ') => .ob p (run E Γ m base fl n .norm k σ'.bump)
    | none => .bad
  | n + 1, .code (.scope c), k, σ => run E Γ m base fl n (.code c) k σ
  | n + 1, .code (.block id c), k, σ => run E Γ m base fl n (.code c) (.blk id :: k) σ
  | n + 1, .code (.loop c), k, σ => .loop c k σ
  | n + 1, .code (.exit id), k, σ => run E Γ m base fl n (.exit id) k σ
  | n + 1, .code .ret, k, σ => run E Γ m base fl n .ret k σ
  | n + 1, .norm, [], σ => .ret σ
  | n + 1, .norm, .seq y :: k, σ => run E Γ m base fl n (.code y) k σ
  | n + 1, .norm, .blk _ :: k, σ => run E Γ m base fl n .norm k σ
  | n + 1, .norm, .lp :: k, σ => .again (lpc k) σ
  | n + 1, .norm, .lpu c :: k, σ => run E Γ m base fl n (.code c) (.lpu c :: k) σ
  | n + 1, .exit id, .blk id' :: k, σ => if id = id' then run E Γ m base fl n .norm k σ else run E Γ m base fl n (.exit id) k σ
  | n + 1, .exit id, .seq _ :: k, σ => run E Γ m base fl n (.exit id) k σ
  | n + 1, .exit id, .lp :: k, σ => run E Γ m base fl n (.exit id) k σ
  | n + 1, .exit id, .lpu _ :: k, σ => run E Γ m base fl n (.exit id) k σ
  | n + 1, .ret, _, σ => .ret σ
  | _, _, _, _ => .bad
/-- the orders that Go leaves open come to the same; 'fl' names the regions whose calls must not touch own memory -/
def lexC (Γ : Ctx) (fl : List Nat) : Code → Bool
  | .region id ops true => lexOK Γ (mdOf fl id) ops
  | .seq x y => lexC Γ fl x && lexC Γ fl y
  | .cond _ x y => lexC Γ fl x && lexC Γ fl y
  | .block _ c => lexC Γ fl c
  | .scope c => lexC Γ fl c
  | .loop c => lexC Γ fl c
  | _ => true
def lexK (Γ : Ctx) (fl : List Nat) : List Fr → Bool
  | [] => true
  | .seq c :: k => lexC Γ fl c && lexK Γ fl k
  | .lpu c :: k => lexC Γ fl c && lexK Γ fl k
  | .blk _ :: k => lexK Γ fl k
  | .lp :: k => lexK Γ fl k
def lexM (Γ : Ctx) (fl : List Nat) : Cmd → Bool
  | .code c => lexC Γ fl c
  | _ => true
/-- the regions whose calls may touch own memory, as bits -/
def lexMask (Γ : Ctx) (c : Md) : Code → Nat
  | .region id ops true => if lexOK Γ c ops then 2 ^ id else 0
  | .seq x y => lexMask Γ c x + lexMask Γ c y
  | .cond _ x y => lexMask Γ c x + lexMask Γ c y
  | .block _ b => lexMask Γ c b
  | .scope b => lexMask Γ c b
  | .loop b => lexMask Γ c b
  | _ => 0
/-- what a tree asks; 'L' says what a loop owes -/
def den (L : Code → List Fr → S → (Nat → S → Prop) → Prop) (R : S → Prop) : T → (Nat → S → Prop) → Prop
  | .bad, _ => False
  | .ret σ, _ => R σ
  | .again j σ, A => A j σ
  | .ob p t, A => p ∧ den L R t A
  | .loop c k σ, A => L c k σ A
  | .nxt n seen f t, A => (∀ i, i < n → i ∉ seen → den L R (f i) A) ∧ ((∀ i, i < n → i ∈ seen) → den L R t A)
theorem den_ite (L : Code → List Fr → S → (Nat → S → Prop) → Prop) (R : S → Prop) (b : Prop) [Decidable b] (s t : T) (A : Nat → S → Prop) : den L R (if b then s else t) A = ((b → den L R s A) ∧ (¬ b → den L R t A)) := by
  by_cases h : b <;> simp [h]
/-- a loop owes an invariant, or is run round after round; 'd' bounds how deep loops lie one behind or in another -/
def loopP (E : Env) (Γ : Ctx) (m : Bool) (base : Nat) (fl : List Nat) (R : S → Prop) : Nat → Code → List Fr → S → (Nat → S → Prop) → Prop
  | 0, _, _, _, _ => False
  | d + 1, c, k, σ, A => (∃ (α : Type) (inv : α → Prop) (l : α → List (Nat × D)) (L : α → List (Nm × OO)) (g : Nat) (μ : α → Nat) (p0 : α), 1 ≤ g ∧ inv p0 ∧ leTo σ (l p0) (L p0) g ∧
      ∀ p, inv p → ∃ n, den (loopP E Γ m base fl R d) R (run E Γ m base fl n (.code c) (.lp :: k) (mkS (l p) (L p) g)) fun j σ' => if j = lpc k then (∃ p', inv p' ∧ leTo σ' (l p') (L p') g ∧ μ p' < μ p) else A j σ') ∨
    ∃ n, den (loopP E Γ m base fl R d) R (run E Γ m base fl n (.code c) (.lpu c :: k) σ) A

section
variable {P : Program} {E : Env} {Γ : Ctx} {m : Bool} {base : Nat}
/-- what the frames ask of each way out -/
def Kof (P : Program) (Γ : Ctx) (m : Bool) (base : Nat) (R : S → Prop) (A : Nat → S → Prop) : List Fr → Exit → S → Prop
  | [] => fun e σ => match e with
    | .normal => R σ
    | .ret => R σ
    | _ => False
  | .seq y :: k => thenQ (fun σ' => vc P Γ m base y (Kof P Γ m base R A k) σ') (Kof P Γ m base R A k)
  | .blk id :: k => blockQ id (Kof P Γ m base R A k)
  | .lp :: k => thenQ (A (lpc k)) (Kof P Γ m base R A k)
  | .lpu c :: k => thenQ (lfpP fun K σ => vc P Γ m base c (thenQ K (Kof P Γ m base R A k)) σ) (Kof P Γ m base R A k)
theorem Kof_ret {R : S → Prop} {A : Nat → S → Prop} : ∀ {k : List Fr} {σ : S}, R σ → Kof P Γ m base R A k .ret σ
  | [], σ, h => h
  | .seq y :: k, σ, h => Kof_ret (k := k) h
  | .blk id :: k, σ, h => Kof_ret (k := k) h
  | .lp :: k, σ, h => Kof_ret (k := k) h
  | .lpu _ :: k, σ, h => Kof_ret (k := k) h

theorem Kof_goto {R : S → Prop} {A : Nat → S → Prop} {l : Nat} : ∀ {k : List Fr} {σ : S}, ¬ Kof P Γ m base R A k (.goto l) σ
  | [], σ, h => h
  | .seq y :: k, σ, h => Kof_goto (k := k) h
  | .blk id :: k, σ, h => Kof_goto (k := k) h
  | .lp :: k, σ, h => Kof_goto (k := k) h
  | .lpu _ :: k, σ, h => Kof_goto (k := k) h

theorem vc_mono : ∀ (c : Code) {Q Q' : Exit → S → Prop} {σ : S}, (∀ e σ, Q e σ → Q' e σ) → vc P Γ m base c Q σ → vc P Γ m base c Q' σ := by
  intro c
  induction c with
  | skip => intro Q Q' σ hq h; exact hq _ _ h
  | label _ => intro Q Q' σ hq h; exact hq _ _ h
  | seq x y ihx ihy =>
    intro Q Q' σ hq h
    simp only [vc] at h ⊢
    refine ihx (fun e σ' h' => ?_) h
    cases e <;> first | exact ihy hq h' | exact hq _ _ h'
  | cond c x y ihx ihy =>
    intro Q Q' σ hq h
    simp only [vc] at h ⊢
    split at h
    · exact ⟨h.1, fun e => ihx hq (h.2.1 e), fun e => ihy hq (h.2.2 e)⟩
    · exact h.elim
  | region id ops draw =>
    intro Q Q' σ hq h
    simp only [vc] at h ⊢
    rcases h with ⟨c, σ', h1, h2, h3⟩ | ⟨h1, o, rest, h2, h3⟩ | ⟨h1, σ', h2, h3⟩
    rotate_right
    · exact .inr (.inr ⟨h1, σ', h2, hq _ _ h3⟩)
    · exact .inl ⟨c, σ', h1, h2, hq _ _ h3⟩
    · refine .inr (.inl ?_); exact ⟨h1, o, rest, h2, nextP_mono (fun σ ⟨c, σ', h4, h5⟩ => ⟨c, σ', h4, hq _ _ h5⟩) h3⟩
  | block id c ih =>
    intro Q Q' σ hq h
    simp only [vc] at h ⊢
    refine ih (fun e σ' h' => ?_) h
    cases e with
    | exit id' =>
      simp only [blockQ] at h' ⊢
      by_cases e : id' = id
      · rw [if_pos e] at h' ⊢; exact hq _ _ h'
      · rw [if_neg e] at h' ⊢; exact hq _ _ h'
    | _ => exact hq _ _ h'
  | loop c ih =>
    intro Q Q' σ hq h
    simp only [vc] at h ⊢
    rcases h with ⟨α, inv, l, L, g, μ, p0, hg, hi, hl, hr⟩ | h
    · refine .inl ⟨α, inv, l, L, g, μ, p0, hg, hi, hl, fun p hp => ih (fun e σ' h' => ?_) (hr p hp)⟩
      cases e <;> first | exact h' | exact hq _ _ h'
    · refine .inr fun X hX => h X fun σ hσ => hX σ (ih (fun e σ' h' => ?_) hσ)
      cases e <;> first | exact h' | exact hq _ _ h'
  | scope c ih =>
    intro Q Q' σ hq h
    simp only [vc] at h ⊢
    refine ih (fun e σ' h' => ?_) h
    cases e <;> first | exact h'.elim | exact hq _ _ h'
  | exit id => intro Q Q' σ hq h; exact hq _ _ h
  | ret => intro Q Q' σ hq h; exact hq _ _ h
  | _ => intros; simp_all [vc]

def cmdP (P : Program) (Γ : Ctx) (m : Bool) (base : Nat) (K : Exit → S → Prop) : Cmd → S → Prop
  | .code c, σ => vc P Γ m base c K σ
  | .norm, σ => K .normal σ
  | .exit id, σ => K (.exit id) σ
  | .ret, σ => K .ret σ

theorem run_vc (hE : E.ok P) {fl : List Nat} {R : S → Prop} {L : Code → List Fr → S → (Nat → S → Prop) → Prop}
    (hL : ∀ c k σ A, lexC Γ fl c = true → lexK Γ fl k = true → L c k σ A → vc P Γ m base (.loop c) (Kof P Γ m base R A k) σ) : ∀ (n : Nat) (c : Cmd) (k : List Fr) (σ : S) (A : Nat → S → Prop), lexM Γ fl c = true → lexK Γ fl k = true →
    den L R (run E Γ m base fl n c k σ) A → cmdP P Γ m base (Kof P Γ m base R A k) c σ := by
  intro n
  induction n with
  | zero => intro c k σ A _ _ h; simp only [run, den] at h
  | succ n ih =>
    intro c k σ A hx hk h
    cases c with
    | code c =>
      simp only [lexM] at hx
      cases c <;> simp only [cmdP, vc]
      case skip | label => simp only [run, den] at h; exact ih .norm k σ A rfl hk h
      case seq x y =>
        simp only [run, den] at h
        simp only [lexC, Bool.and_eq_true] at hx
        exact ih (.code x) (.seq y :: k) σ A hx.1 (by simp only [lexK, hx.2, hk, Bool.and_self]) h
      case cond c x y =>
        simp only [run, den] at h
        simp only [lexC, Bool.and_eq_true] at hx
        split at h
        · rename_i b hb
          simp only [den, den_ite] at h
          try simp only [hb]
          exact ⟨h.1, fun e => ih (.code x) k σ A hx.1 hk (h.2.1 e), fun e => ih (.code y) k σ A hx.2 hk (h.2.2 (by simp [e]))⟩
        · simp only [den] at h
      case region id ops draw =>
        cases draw with
        | false =>
          simp only [run, den] at h
          split at h
          · rename_i o rest nm kk ks z vs seen hno
            simp only [den] at h
            obtain ⟨h0, h1, h2⟩ := h
            unfold nextOps at hno
            split at hno
            · simp at hno
            · rename_i o' rest' hl
              split at hno
              · rename_i x hx
                simp only [Option.some.injEq, Prod.mk.injEq] at hno
                obtain ⟨rfl, rfl, rfl⟩ := hno
                refine .inr (.inl ⟨rfl, o', rest', hl, ?_⟩)
                unfold nextP
                rw [hx]
                refine ⟨h0, fun i hi hs => ?_, fun hs => ?_⟩
                · have := h1 i hi hs
                  split at this
                  · rename_i p σ' he
                    simp only [den] at this
                    exact ⟨.any [], σ', evOps_ok hE he this.1, ih .norm k σ'.bump A rfl hk this.2⟩
                  · simp only [den] at this
                · have := h2 hs
                  split at this
                  · rename_i p σ' he
                    simp only [den] at this
                    exact ⟨.any [], σ', evOps_ok hE he this.1, ih .norm k σ'.bump A rfl hk this.2⟩
                  · simp only [den] at this
              · simp at hno
          · split at h
            · rename_i p σ' he
              simp only [den] at h
              exact .inr (.inr ⟨rfl, σ', evZs_ok hE he h.1, ih .norm k σ'.bump A rfl hk h.2⟩)
            · simp only [den] at h
        | true =>
          simp only [run, den] at h
          simp only [lexC] at hx
          split at h
          · rename_i p σ' he
            simp only [den] at h
            exact .inl ⟨_, σ', fun _ => hx, evOps_ok hE he h.1, ih .norm k σ'.bump A rfl hk h.2⟩
          · simp only [den] at h
      case block id c => simp only [run, den] at h; exact ih (.code c) (.blk id :: k) σ A (by simpa only [lexC, lexM] using hx) (by simpa only [lexK] using hk) h
      case scope c =>
        simp only [run, den] at h
        have := ih (.code c) k σ A (by simpa only [lexC, lexM] using hx) hk h
        simp only [cmdP] at this
        refine vc_mono c (fun e σ' h' => ?_) this
        cases e <;> first | exact h' | exact (Kof_goto h').elim
      case loop c => simp only [run, den] at h; have := hL c k σ A (by simpa only [lexC] using hx) hk h; simpa only [vc] using this
      case exit id => simp only [run, den] at h; exact ih (.exit id) k σ A rfl hk h
      case ret => simp only [run, den] at h; exact ih .ret k σ A rfl hk h
      all_goals simp only [run, den] at h
    | norm =>
      cases k with
      | nil => simp only [run, den] at h; exact h
      | cons f k => cases f with
        | seq y =>
          simp only [lexK, Bool.and_eq_true] at hk
          simp only [run] at h; exact ih (.code y) k σ A hk.1 hk.2 h
        | blk id => simp only [lexK] at hk; simp only [run] at h; exact ih .norm k σ A rfl hk h
        | lp => simp only [run, den] at h; exact h
        | lpu c =>
          simp only [run] at h
          have hk' := hk
          simp only [lexK, Bool.and_eq_true] at hk'
          have := ih (.code c) (.lpu c :: k) σ A hk'.1 hk h
          simp only [cmdP] at this
          intro X hX
          refine hX σ (vc_mono c (fun e σ' h' => ?_) this)
          cases e <;> first | exact h' X hX | exact h'
    | exit id =>
      cases k with
      | nil => simp only [run, den] at h
      | cons f k => cases f with
        | seq y => simp only [lexK, Bool.and_eq_true] at hk; simp only [run] at h; exact ih (.exit id) k σ A rfl hk.2 h
        | blk id' =>
          simp only [lexK] at hk
          simp only [run] at h
          show blockQ id' _ (.exit id) σ
          simp only [blockQ]
          split at h <;> rename_i e
          · rw [if_pos e]; exact ih .norm k σ A rfl hk h
          · rw [if_neg e]; exact ih (.exit id) k σ A rfl hk h
        | lp => simp only [lexK] at hk; simp only [run] at h; exact ih (.exit id) k σ A rfl hk h
        | lpu c => simp only [lexK, Bool.and_eq_true] at hk; simp only [run] at h; exact ih (.exit id) k σ A rfl hk.2 h
    | ret => simp only [run, den] at h; exact Kof_ret h

theorem Kof_mono {R : S → Prop} {A A' : Nat → S → Prop} : ∀ {k : List Fr}, (∀ j σ, j < lpc k → A j σ → A' j σ) → ∀ e σ, Kof P Γ m base R A k e σ → Kof P Γ m base R A' k e σ
  | [], _, e, σ, h => h
  | .seq y :: k, hA, e, σ, h => by
    have ih := Kof_mono (k := k) (R := R) hA
    cases e <;> first | exact vc_mono y ih h | exact ih _ _ h
  | .blk id :: k, hA, e, σ, h => by
    have ih := Kof_mono (k := k) (R := R) hA
    cases e with
    | exit id' =>
      simp only [Kof, blockQ] at h ⊢
      split at h <;> rename_i e
      · rw [if_pos e]; exact ih _ _ h
      · rw [if_neg e]; exact ih _ _ h
    | _ => exact ih _ _ h
  | .lp :: k, hA, e, σ, h => by
    have ih := Kof_mono (k := k) (R := R) (A := A) (A' := A') fun j σ hj => hA j σ (by simp only [lpc]; omega)
    cases e <;> first | exact hA _ _ (by simp only [lpc]; omega) h | exact ih _ _ h
  | .lpu c :: k, hA, e, σ, h => by
    have ih := Kof_mono (k := k) (R := R) (A := A) (A' := A') hA
    cases e with
    | normal =>
      intro X hX
      refine h X fun σ hσ => hX σ (vc_mono c (fun e σ' h' => ?_) hσ)
      cases e <;> first | exact h' | exact ih _ _ h'
    | _ => exact ih _ _ h

theorem loopP_vc (hE : E.ok P) {fl : List Nat} {R : S → Prop} : ∀ (d : Nat) c k σ A, lexC Γ fl c = true → lexK Γ fl k = true → loopP E Γ m base fl R d c k σ A → vc P Γ m base (.loop c) (Kof P Γ m base R A k) σ := by
  intro d
  induction d with
  | zero => intro c k σ A _ _ h; simp only [loopP] at h
  | succ d ih =>
    intro c k σ A hx hk h
    simp only [loopP] at h
    simp only [vc]
    rcases h with ⟨α, inv, l, L, g, μ, p0, hg, hi, hl, hr⟩ | ⟨n, hn⟩
    · refine .inl ⟨α, inv, l, L, g, μ, p0, hg, hi, hl, fun p hp => ?_⟩
      obtain ⟨n, hn⟩ := hr p hp
      have := run_vc hE (R := R) (L := loopP E Γ m base fl R d) ih n (.code c) (.lp :: k) (mkS (l p) (L p) g) _ hx (by simpa only [lexK] using hk) hn
      simp only [cmdP] at this
      refine vc_mono c (fun e σ' h' => ?_) this
      have key := Kof_mono (P := P) (Γ := Γ) (m := m) (base := base) (R := R) (k := k) (A := fun j σ' => if j = lpc k then (∃ p', inv p' ∧ leTo σ' (l p') (L p') g ∧ μ p' < μ p) else A j σ') (A' := A) fun j σ hj h => by
        rw [if_neg (by omega)] at h; exact h
      cases e with
      | normal =>
        simp only [Kof, thenQ, if_true] at h'
        exact h'
      | exit id => exact key _ _ h'
      | goto l => exact key _ _ h'
      | ret => exact key _ _ h'
      | panic ch => exact key _ _ h'
      | outgrown => exact key _ _ h'
    · refine .inr fun X hX => ?_
      have := run_vc hE (R := R) (L := loopP E Γ m base fl R d) ih n (.code c) (.lpu c :: k) σ _ hx (by simp only [lexK, hx, hk, Bool.and_self]) hn
      simp only [cmdP] at this
      refine hX σ (vc_mono c (fun e σ' h' => ?_) this)
      cases e <;> first | exact h' X hX | exact h'

theorem pco_of_run (fl : List Nat) (hE : E.ok P) (hΓ : Γ.ok P) (hm : P.follows .mixedOrders = true) {f : FuncId} {fn : Func} {c : Code} {ds : List D} {tin tout : List (Nm × OO)} {r : D} (n d : Nat) (hf : P.funcs[f]? = some fn)
    (hn : (fn.name == "runtime.NumGoroutine") = false) (hb : fn.body = some c) (hk : codeOk (ds.length + (fn.ntmps - ds.length)) c = true) (hlex : lexC Γ fl c = true) (htin : (tin.all fun p => p.1.2 == 0) = true)
    (h : den (loopP E Γ m base fl (retP Γ fn.results.toList r tout) d) (retP Γ fn.results.toList r tout) (run E Γ m base fl n (.code c) [] ⟨Ts.of (enumD ds 0), Tab.of tin, 1⟩) fun _ _ => False) : PCo P f ds (Tab.of tin) r (Tab.of tout) := by
  refine pco_of_vc hΓ hm hf hn hb hk htin (m := m) (base := base) ?_
  have := run_vc (P := P) hE (loopP_vc hE d) n (.code c) [] _ _ hlex rfl h
  simp only [cmdP] at this
  refine vc_mono c (fun e σ h => ?_) this
  cases e <;> first | exact h | exact h.elim

/-- a law that its contract answers with true -/
theorem below_of_pc {f : FuncId} {ds : List D} (h : PC P f ds (.lit (.bool true)) []) {W : World} {vs : List Value} (G : GlobF (fun b => b < W.heap.size) W.heap) (hr : Reps (fun b => b < W.heap.size) W.heap Beta.none ds vs) :
    Calls P f vs.toArray W fun e w' => e = .returned (.bool true) ∧ RowKit.Below W.heap.size W w' := by
  have O : Own W (Mof Beta.none (fun _ _ => False) Tab.nil) (fun b => b < W.heap.size) (fun b => b < W.heap.size) Beta.none (fun _ _ => False) Tab.nil 1 W :=
    { F0F := fun b h => h, Fsrc := fun b h => .inl h, Flt := fun b h => h, keep := fun _ _ _ => rfl, size := Nat.le_refl _, os := rfl, tp := rfl, out := rfl, gen := fun nm x h => (by cases h), own := fun nm o h => (by cases h), fps := fun nm o h => (by cases h), dis := fun nm nm' o o' h => (by cases h) }
  refine (h.2 W _ Beta.none _ vs O G hr).mono fun e w' ⟨v, F', β', γ', g', he, O', _, hv⟩ => ?_
  simp only [Rep] at hv
  subst hv
  exact ⟨he, ⟨O'.os, O'.tp, O'.out, O'.size, fun b hb => O'.keep b hb Mof_nil⟩⟩
end
end Go.Eng
