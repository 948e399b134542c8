/- The engine: Go text read on data. What a function answers is told of data (integers, strings, structs, slices as rows, memory of one's own); a text's run is reckoned on data, and every run of the model follows it, in whatever order a statement is carried out. No condition of its own. -/
import Derived.Test.YtdbhfkbfajljpaaEngA
import Derived.Laws.StructEq
import Derived.Laws.BytesArg
import Derived.Laws.IdiomStrings
namespace Go.Eng
set_option linter.unusedVariables false
set_option linter.unusedSimpArgs false

/-! ### maps -/
theorem ofNat_inj8 {a b : Int} (ha : 0 ≤ a ∧ a < 256) (hb : 0 ≤ b ∧ b < 256) (h : UInt8.ofNat a.toNat = UInt8.ofNat b.toNat) : a = b := by
  have := congrArg UInt8.toNat h
  simp only [UInt8.toNat_ofNat'] at this
  omega
theorem kval_str (l : List Int) : kval 1 l = .string ⟨(l.map fun n => UInt8.ofNat n.toNat).toArray⟩ := rfl
theorem sameNow_kval {kk : Nat} {d : TypeDesc} (hd : (kk = 0 ∧ d = .int .i64) ∨ (kk = 1 ∧ d = .string)) {a b : List Int} (ha : kform kk a) (hb : kform kk b) : Instr.sameNow d (kval kk a) (kval kk b) = some (decide (a = b)) := by
  rcases hd with ⟨rfl, rfl⟩ | ⟨rfl, rfl⟩
  · obtain ⟨n, rfl⟩ := ha
    obtain ⟨m, rfl⟩ := hb
    simp [kval, Instr.sameNow]
    rw [Bool.eq_iff_iff]; simp
  · simp only [kval_str, Instr.sameNow, Option.some.injEq]
    rw [beq_toListBytes, ByteArray.toList_eq, ByteArray.toList_eq, Bool.eq_iff_iff]
    simp only [beq_iff_eq, decide_eq_true_eq]
    refine ⟨fun h => ?_, fun h => by rw [h]⟩
    have hl : a.length = b.length := by simpa using congrArg List.length h
    refine List.ext_getElem hl fun i h1 h2 => ?_
    have := congrArg (fun l => l[i]?) h
    simp only [List.getElem?_map, List.getElem?_eq_getElem h1, List.getElem?_eq_getElem h2, Option.map_some, Option.some.injEq] at this
    exact ofNat_inj8 (ha _ (by simp)) (hb _ (by simp)) this
theorem findNow_spec {kk : Nat} {d : TypeDesc} (hd : (kk = 0 ∧ d = .int .i64) ∨ (kk = 1 ∧ d = .string)) {key : List Int} (hk : kform kk key) : ∀ (ks : List (List Int)) (es : List MapEntry) (i : Nat),
    es.map (·.key) = ks.map (kval kk) → (∀ k ∈ ks, kform kk k) → Instr.findNow d (kval kk key) es i = some ((posK key ks).map fun j => (i + j, (es.map (·.val)).getD j undef))
  | [], es, i, h, _ => by
    have : es = [] := by simpa using h
    subst this
    simp [Instr.findNow, posK]
  | k :: ks, [], i, h, _ => by simp at h
  | k :: ks, e :: es, i, h, hf => by
    simp only [List.map_cons, List.cons.injEq] at h
    simp only [Instr.findNow, h.1, sameNow_kval hd hk (hf k (by simp)), posK]
    by_cases hkk : key = k
    · simp [hkk]
    · simp only [hkk, decide_false, if_false]
      rw [findNow_spec hd hk ks es (i + 1) h.2 (fun k' h' => hf k' (by simp [h']))]
      congr 1
      cases posK key ks with
      | none => rfl
      | some j => simp; omega
theorem intsD_reps {F : Nat → Prop} {h : Array Obj} {β : Beta} : ∀ {cs : List D} {l : List Int} {vs : List Value}, intsD cs = some l → Reps F h β cs vs → vs = l.map (Value.int .i64)
  | [], l, vs, hi, r => by
    simp only [intsD, Option.some.injEq] at hi
    subst hi
    simpa [Reps] using r
  | c :: cs, l, vs, hi, r => by
    unfold intsD at hi
    split at hi
    · rename_i h0; cases h0
    · rename_i n t h0
      cases h0
      cases ht : intsD cs with
      | none => simp [ht] at hi
      | some l' =>
        simp only [ht, Option.map_some, Option.some.injEq] at hi
        subst hi
        simp only [Reps, Rep] at r
        obtain ⟨v, vs', rfl, rfl, r2⟩ := r
        rw [intsD_reps ht r2]; rfl
    · simp at hi
theorem keyOf_spec {F : Nat → Prop} {h : Array Obj} {β : Beta} {d : D} {v : Value} {kk : Nat} {key : List Int} (hk : keyOf d = some (kk, key)) (r : Rep F h β d v) : v = kval kk key ∧ kform kk key := by
  unfold keyOf at hk
  split at hk
  · simp only [Option.some.injEq, Prod.mk.injEq] at hk
    obtain ⟨rfl, rfl⟩ := hk
    simp only [Rep] at r
    exact ⟨r, _, rfl⟩
  · rename_i s
    simp only [Option.some.injEq, Prod.mk.injEq] at hk
    obtain ⟨rfl, rfl⟩ := hk
    simp only [Rep] at r
    subst r
    refine ⟨?_, fun n hn => ?_⟩
    · simp only [kval_str, Value.string.injEq]
      apply ByteArray.ext
      rw [ByteArray.toList_eq]
      apply Array.ext'
      simp [Function.comp_def]
    · simp only [List.mem_map] at hn
      obtain ⟨c, _, rfl⟩ := hn
      have := c.toNat_lt
      omega
  · rename_i cs
    cases hi : intsD cs with
    | none => simp [hi] at hk
    | some l =>
      simp only [hi, Option.map_some, Option.some.injEq, Prod.mk.injEq] at hk
      obtain ⟨rfl, rfl⟩ := hk
      simp only [Rep] at r
      obtain ⟨vs, rfl, hr⟩ := r
      rw [intsD_reps hi hr]
      exact ⟨rfl, rfl⟩
  · simp at hk
/-- what a map's keys are -/
def KeyD (P : Program) (k : TypeId) (kk : Nat) (d : TypeDesc) : Prop := ((kk = 0 ∧ d = .int .i64) ∨ (kk = 1 ∧ d = .string)) ∨ ∃ n a, kk = n + 2 ∧ d = .struct a ∧ EqInts P k n
theorem keyKind_spec {P : Program} {Γ : Ctx} (hΓ : Γ.ok P) {k : TypeId} {kk : Nat} (h : keyKind Γ k = some kk) : ∃ d, P.underlying k = some d ∧ KeyD P k kk d := by
  unfold keyKind at h
  split at h
  · rename_i ki hki
    have hu := (Ctx.get_ok hΓ hki).kind
    split at h
    · rename_i hk; rw [hk] at hu; simp only [Option.some.injEq] at h; exact ⟨_, hu, .inl (.inl ⟨h.symm, rfl⟩)⟩
    · rename_i hk; rw [hk] at hu; simp only [Option.some.injEq] at h; exact ⟨_, hu, .inl (.inr ⟨h.symm, rfl⟩)⟩
    · rename_i fs hk
      rw [hk] at hu
      split at h
      · rename_i hc
        simp only [Option.some.injEq] at h
        obtain ⟨a, ha, _⟩ := hu
        exact ⟨_, ha, .inr ⟨_, _, h.symm, rfl, (Ctx.get_ok hΓ hki).cmp hc⟩⟩
      · simp at h
    · simp at h
  · simp at h
theorem run_checkKey {P : Program} {w : World} {k : TypeId} {d : TypeDesc} {kk : Nat} {key : List Int} (hu : P.underlying k = some d) (hd : KeyD P k kk d) (hk : kform kk key) (e : Bool) : (Instr.checkKey e 10000 k (kval kk key)).run P w = .ok () w := by
  rcases hd with hd | ⟨n, a, rfl, rfl, hE⟩
  · have key : ∀ n v, (Instr.checkKey e (n + 1) k v).run P w = .ok () w := fun n v => by
      rcases hd with ⟨_, rfl⟩ | ⟨_, rfl⟩ <;> simp [Instr.checkKey, run_und hu]
    exact key 9999 _
  · exact hE.2 key e w hk
theorem findAsk_spec {P : Program} {w : World} {k : TypeId} {n : Nat} (hE : EqInts P k n) {key : List Int} (hk : key.length = n) : ∀ (ks : List (List Int)) (es : List MapEntry) (i : Nat),
    es.map (·.key) = ks.map (kval (n + 2)) → (∀ k' ∈ ks, kform (n + 2) k') → (Instr.findAsking k (kval (n + 2) key) es i).run P w = .ok ((posK key ks).map fun j => (i + j, (es.map (·.val)).getD j undef)) w
  | [], es, i, h, _ => by
    have : es = [] := by simpa using h
    subst this
    simp [Instr.findAsking, posK]
  | k' :: ks, [], i, h, _ => by simp at h
  | k' :: ks, e :: es, i, h, hf => by
    simp only [List.map_cons, List.cons.injEq] at h
    have hk' : k'.length = n := hf k' (by simp)
    have he : (Op.equal k (kval (n + 2) key) (kval (n + 2) k')).run P w = .ok (key == k') w := (hE.1 key k' hk hk').2 w
    simp only [Instr.findAsking, h.1, Sem.run_bind, he, Result.andThen_ok, posK]
    by_cases hkk : key = k'
    · simp [hkk]
    · have hne : (key == k') = false := by simpa using hkk
      simp only [hne, hkk, Bool.false_eq_true, if_false]
      rw [findAsk_spec hE hk ks es (i + 1) h.2 (fun k'' h' => hf k'' (by simp [h']))]
      congr 1
      cases posK key ks with
      | none => rfl
      | some j => simp; omega
theorem run_findKey {P : Program} {w : World} {k : TypeId} {d : TypeDesc} {kk : Nat} {key : List Int} (hud : P.underlying k = some d) (hd : KeyD P k kk d) (hk : kform kk key) (ks : List (List Int)) (es : List MapEntry)
    (h : es.map (·.key) = ks.map (kval kk)) (hf : ∀ k' ∈ ks, kform kk k') : (Instr.findKey k (kval kk key) es).run P w = .ok ((posK key ks).map fun j => (0 + j, (es.map (·.val)).getD j undef)) w := by
  rcases hd with hd | ⟨n, a, rfl, rfl, hE⟩
  · simp only [Instr.findKey, Sem.run_bind, run_und hud, Result.andThen_ok, findNow_spec hd hk ks es 0 h hf, Sem.run_pure]
  · have hask := findAsk_spec (w := w) hE hk ks es 0 h hf
    cases es with
    | nil =>
      have : ks = [] := by simpa using h.symm
      subst this
      simp only [Instr.findKey, Sem.run_bind, run_und hud, Result.andThen_ok, Instr.findNow, Sem.run_pure, posK, Option.map_none]
    | cons e es =>
      have hs : Instr.sameNow (.struct a) (kval (n + 2) key) e.key = none := by unfold Instr.sameNow; rfl
      simp only [Instr.findKey, Sem.run_bind, run_und hud, Result.andThen_ok, Instr.findNow, hs]
      exact hask
theorem posK_lt {key : List Int} : ∀ {ks : List (List Int)} {j : Nat}, posK key ks = some j → j < ks.length ∧ ks[j]? = some key
  | [], j, h => by simp [posK] at h
  | k :: ks, j, h => by
    simp only [posK] at h
    split at h
    · rename_i e; simp only [Option.some.injEq] at h; subst h; simp [e]
    · cases hp : posK key ks with
      | none => simp [hp] at h
      | some i =>
        simp only [hp, Option.map_some, Option.some.injEq] at h
        subst h
        have := posK_lt hp
        simp; exact this
theorem posK_none {key : List Int} : ∀ {ks : List (List Int)}, posK key ks = none → key ∉ ks
  | [], h => by simp
  | k :: ks, h => by
    simp only [posK] at h
    split at h
    · simp at h
    · rename_i hne
      have : posK key ks = none := by simpa using h
      simp only [List.mem_cons, not_or]
      exact ⟨hne, posK_none this⟩

theorem get_map {P : Program} {w : World} {b : Nat} {es : Array MapEntry} {cl : Nat} (hb : w.heap[b]? = some (.map es cl)) : (getObj b).run P w = .ok (.map es cl) w := by simp [getObj, Sem.run, hb]
theorem set_map {P : Program} {w : World} {b : Nat} {es : Array MapEntry} {cl : Nat} (o : Obj) (hb : w.heap[b]? = some (.map es cl)) : (setObj b o).run P w = .ok () { w with heap := w.heap.setIfInBounds b o } := by simp [setObj, Sem.run, hb]
theorem sameBits_kval {P : Program} {k : TypeId} {kk : Nat} {d : TypeDesc} (hd : KeyD P k kk d) {a : List Int} (ha : kform kk a) : Instr.sameBits 10000 (kval kk a) (kval kk a) = true := by
  rcases hd with hd | ⟨n, c, rfl, rfl, hE⟩
  · rcases hd with ⟨rfl, rfl⟩ | ⟨rfl, rfl⟩
    · obtain ⟨n, rfl⟩ := ha; simp [kval, Instr.sameBits]
    · simp only [kval_str, Instr.sameBits]; rw [beq_toListBytes]; simp
  · have key : ∀ (m : Nat) (l : List Int), ((l.map (Value.int .i64)).zip (l.map (Value.int .i64))).all (fun p => Instr.sameBits m p.1 p.2) = true := by
      intro m l
      induction l with
      | nil => rfl
      | cons x l ih => simp only [List.map_cons, List.zip_cons_cons, List.all_cons, ih, Bool.and_true]; cases m <;> simp [Instr.sameBits]
    have key2 : ∀ m, Instr.sameBits (m + 1) (.agg (a.map (Value.int .i64)).toArray) (.agg (a.map (Value.int .i64)).toArray) = true := fun m => by
      simp only [Instr.sameBits, beq_self_eq_true, Bool.true_and]
      exact key m a
    exact key2 9999
theorem insK_none {ks : List (List Int)} {k : List Int} (h : posK k ks = none) : insK ks k = ks ++ [k] := by simp [insK, h]
theorem insK_some {ks : List (List Int)} {k : List Int} {j : Nat} (h : posK k ks = some j) : insK ks k = ks := by simp [insK, h]

section
variable {P : Program} {Γ : Ctx} {W0 : World} {M0 F0 F : Nat → Prop} {β : Beta} {γ : Nm → Nat → Prop} {tab : Tab} {gen : Nat} {w : World}
theorem makeMapD_sound {t : TypeId} {ti : TI} {r : AR} {nm : Nm} {x : Option Operand} {ρ : Operand → D} {ρv : Operand → Value} (hΓ : Γ.ok P) (ht : ti.ok P t) (O : Own W0 M0 F0 F β γ tab gen w) (hn : tab.get nm = none) (hg : nm.2 = gen)
    (h : makeMapD Γ nm ti (x.map ρ) = some r) (hρ : ∀ y, x = some y → Rep F w.heap β (ρ y) (ρv y)) :
    Does W0 M0 F0 F β tab gen w nm r ((do pure (.value (← Instr.makeMap t (x.map ρv))) : Sem Next).run P w) := by
  unfold makeMapD at h
  split at h
  · rename_i k e hk
    have hu := ht.kind
    rw [hk] at hu
    split at h
    · rename_i kk ei hkk hei
      have hrun : r = ⟨True, .mp nm, .new (mapO Γ kk ei)⟩ ∧ (Instr.makeMap t (x.map ρv)).run P w = .ok (.map (some w.heap.size)) { w with heap := w.heap.push (.map #[] 0) } := by
        cases x with
        | none =>
          simp only [Option.map_none, Option.some.injEq] at h
          exact ⟨h.symm, by simp [Instr.makeMap]⟩
        | some y =>
          simp only [Option.map_some] at h
          split at h
          · rename_i e1; simp at e1
          · rename_i n e1
            simp only [Option.some.injEq] at h e1
            have := hρ y rfl
            rw [e1] at this
            simp only [Rep] at this
            exact ⟨h.symm, by simp [Instr.makeMap, this, run_und hu, asInt, asIntOf]⟩
          · simp at h
      obtain ⟨rfl, hrun⟩ := hrun
      have okm : ∀ (β' : Beta) (z : D), β' nm = some (some w.heap.size, 0, 0) → OwnOK F (w.heap.push (.map #[] 0)) β' (fun _ => False) nm (.map kk [] z []) := fun β' z h5 => by
        refine ⟨_, _, _, #[], 0, h5, by simp, ⟨rfl, by simp, by simp, by simp, by simp⟩, ?_⟩
        simp only [List.map_nil, Reps]
      refine does_new (w' := { w with heap := w.heap.push (.map #[] 0) }) (ob := .map #[] 0) O hn hg rfl rfl rfl rfl rfl (val_run hrun) (some w.heap.size) 0 0 (.inr rfl) (fun β' h4 h5 => ?_) (fun β' h4 h5 => ?_)
      · unfold mapO
        split
        · split
          · refine ⟨_, _, _, #[], 0, fun _ => none, h5, by simp, ⟨rfl, by simp, by simp, by simp, by simp⟩, id, rfl, fun j row hj => ?_, fun i j x hi => ?_⟩
            · simp at hj
            · simp at hi
          · exact okm β' _ h5
        · exact okm β' _ h5
      · simp only [Rep]; exact ⟨_, _, _, h5, rfl⟩
    · simp at h
  · simp at h
theorem okmap_len {kk : Nat} {ks : List (List Int)} {es : Array MapEntry} {cl : Nat} (hm : MapOk kk ks es cl) : ks.length = es.toList.length := by have := congrArg List.length hm.1; simpa using this.symm
/-- a map is asked -/
theorem run_lookup {t k e : TypeId} {ei : TI} {b : Nat} {es : Array MapEntry} {cl kk : Nat} {ks : List (List Int)} {key : List Int} (hΓ : Γ.ok P) (hu : P.underlying t = some (.map k e)) (hei : Γ.get e = some ei) (hkk : keyKind Γ k = some kk) (hkf : kform kk key)
    (hb : w.heap[b]? = some (.map es cl)) (hm : MapOk kk ks es cl) (ok : Bool) :
    (Instr.lookup t (.map (some b)) (kval kk key) ok).run P w = .ok (if ok then .tuple #[((posK key ks).map fun j => (es.toList.map (·.val)).getD j undef).getD ei.zero, .bool (posK key ks).isSome] else ((posK key ks).map fun j => (es.toList.map (·.val)).getD j undef).getD ei.zero) w := by
  obtain ⟨d, hud, hd⟩ := keyKind_spec hΓ hkk
  have hz := (Ctx.get_ok hΓ hei).run_zero (w := w)
  have hfk := run_findKey (w := w) hud hd hkf ks es.toList hm.1 hm.2.1
  simp only [Instr.lookup, Sem.run_bind, run_und hu, Result.andThen_ok, get_map hb, Sem.run_pure]
  simp only [run_checkKey hud hd hkf, Result.andThen_ok, hfk]
  cases hp : posK key ks with
  | none =>
    simp only [Option.map_none, Sem.run_bind, hz, Result.andThen_ok, Sem.run_pure, Option.getD_none, Option.isSome_none]
  | some j =>
    simp only [Option.map_some, Sem.run_bind, Sem.run_pure, Result.andThen_ok, Option.getD_some, Option.isSome_some]
/-- a map that is nil is asked -/
theorem run_lookup_nil {t k e : TypeId} {ei : TI} {kk : Nat} {key : List Int} (hΓ : Γ.ok P) (hu : P.underlying t = some (.map k e)) (hei : Γ.get e = some ei) (hkk : keyKind Γ k = some kk) (hkf : kform kk key) (ok : Bool) :
    (Instr.lookup t (.map none) (kval kk key) ok).run P w = .ok (if ok then .tuple #[ei.zero, .bool false] else ei.zero) w := by
  obtain ⟨d, hud, hd⟩ := keyKind_spec hΓ hkk
  have hz := (Ctx.get_ok hΓ hei).run_zero (w := w)
  have hfk : (Instr.findKey k (kval kk key) []).run P w = .ok none w := run_findKey (w := w) hud hd hkf [] [] rfl (by simp)
  simp only [Instr.lookup, Sem.run_bind, run_und hu, Result.andThen_ok, Sem.run_pure]
  simp only [run_checkKey hud hd hkf, Result.andThen_ok, hfk, hz, Sem.run_bind, Sem.run_pure]
/-- a map is written -/
def updV (ks : List (List Int)) (vs : List Value) (k : List Int) (v : Value) : List Value := match posK k ks with
  | some j => vs.set j v
  | none => vs ++ [v]
theorem run_mapUpdate {t k e : TypeId} {b : Nat} {es : Array MapEntry} {cl kk : Nat} {ks : List (List Int)} {key : List Int} {vv : Value} (hΓ : Γ.ok P) (hu : P.underlying t = some (.map k e)) (hkk : keyKind Γ k = some kk) (hkf : kform kk key)
    (hb : w.heap[b]? = some (.map es cl)) (hm : MapOk kk ks es cl) :
    ∃ es' cl', (Instr.mapUpdate t (.map (some b)) (kval kk key) vv).run P w = .ok () { w with heap := w.heap.setIfInBounds b (.map es' cl') } ∧ MapOk kk (insK ks key) es' cl' ∧ es'.toList.map (·.val) = updV ks (es.toList.map (·.val)) key vv := by
  obtain ⟨d, hud, hd⟩ := keyKind_spec hΓ hkk
  have hlen := okmap_len hm
  have hfk := run_findKey (w := w) hud hd hkf ks es.toList hm.1 hm.2.1
  cases hp : posK key ks with
  | none =>
    refine ⟨es.push ⟨kval kk key, vv, cl⟩, cl + 1, ?_, ?_, ?_⟩
    · simp only [Instr.mapUpdate, Sem.run_bind, run_und hu, Result.andThen_ok, get_map hb, run_checkKey hud hd hkf, hfk, hp, Option.map_none, set_map _ hb]
    · rw [insK_none hp]
      refine ⟨by simp [hm.1], fun k' hk' => ?_, ?_, fun e' he' => ?_, ?_⟩
      · rcases List.mem_append.1 hk' with h' | h'
        · exact hm.2.1 k' h'
        · simp at h'; rw [h']; exact hkf
      · rw [List.nodup_append]
        exact ⟨hm.2.2.1, by simp, fun a ha b hb => by simp at hb; subst hb; rintro rfl; exact posK_none hp ha⟩
      · simp at he'
        rcases he' with h' | h'
        · have := hm.2.2.2.1 e' (by simpa using h'); omega
        · subst h'; simp
      · simp only [Array.toList_push, List.map_append, List.map_cons, List.map_nil, List.pairwise_append]
        refine ⟨hm.2.2.2.2, by simp, fun a ha b hb => ?_⟩
        simp at ha hb
        obtain ⟨e', he', rfl⟩ := ha
        subst hb
        exact hm.2.2.2.1 e' (by simpa using he')
    · simp only [updV, hp, Array.toList_push, List.map_append, List.map_cons, List.map_nil]
  | some j =>
    have hj := posK_lt hp
    have hjl : j < es.size := by have := hj.1; simp at hlen; omega
    have hkj : es[j].key = kval kk key := by
      have h1 := congrArg (fun l => l[j]?) hm.1
      simp only [List.getElem?_map, hj.2, Option.map_some] at h1
      have h2 : es.toList[j]? = some es[j] := by simp [hjl]
      rw [h2] at h1
      simpa using h1
    refine ⟨es.modify j fun e => { e with key := kval kk key, val := vv }, cl, ?_, ?_, ?_⟩
    · have hk1 : ((es[j]?).map (·.key)).getD (kval kk key) = kval kk key := by simp [hjl, hkj]
      simp only [Instr.mapUpdate, Sem.run_bind, run_und hu, Result.andThen_ok, get_map hb, run_checkKey hud hd hkf, hfk, hp, Option.map_some, Nat.zero_add, hk1, Instr.keyThatStays, sameBits_kval hd hkf, if_true, Sem.run_pure, set_map _ hb, Nat.zero_add]
    · rw [insK_some hp]
      have ek : (es.modify j fun e => { e with key := kval kk key, val := vv }).toList.map (·.key) = es.toList.map (·.key) := by
        apply List.ext_getElem (by simp)
        intro n h1 h2
        simp only [List.getElem_map, Array.getElem_toList, Array.getElem_modify]
        split
        · rename_i e; subst e; exact hkj.symm
        · rfl
      have eb : (es.modify j fun e => { e with key := kval kk key, val := vv }).toList.map (·.born) = es.toList.map (·.born) := by
        apply List.ext_getElem (by simp)
        intro n h1 h2
        simp only [List.getElem_map, Array.getElem_toList, Array.getElem_modify]
        split <;> rfl
      refine ⟨by rw [ek]; exact hm.1, hm.2.1, hm.2.2.1, fun e' he' => ?_, by rw [eb]; exact hm.2.2.2.2⟩
      have : e'.born ∈ (es.modify j fun e => { e with key := kval kk key, val := vv }).toList.map (·.born) := List.mem_map_of_mem he'
      rw [eb] at this
      obtain ⟨e2, he2, h3⟩ := List.mem_map.1 this
      rw [← h3]; exact hm.2.2.2.1 e2 he2
    · simp only [updV, hp]
      apply List.ext_getElem (by simp)
      intro n h1 h2
      simp only [List.getElem_map, Array.getElem_toList, Array.getElem_modify, List.getElem_set]
      split
      · rfl
      · rfl
theorem reps_upd {h : Array Obj} {ks : List (List Int)} {ds : List D} {vs : List Value} {key : List Int} {d : D} {v : Value} (hl : ks.length = ds.length) (hv : Reps F h Beta.none ds vs) (rv : Rep F h Beta.none d v) : Reps F h Beta.none (updK ks ds key d) (updV ks vs key v) := by
  unfold updK updV
  have hlv := hv.length
  cases hp : posK key ks with
  | some j =>
    simp only
    refine Reps.of_get (by simp [hlv]) fun n hn => ?_
    simp only [List.length_set] at hn
    obtain ⟨u, hu, ru⟩ := hv.get n hn
    by_cases e : j = n
    · subst e
      exact ⟨v, by simp [hlv, hn], by simpa using rv⟩
    · exact ⟨u, by rw [List.getElem?_set_ne e]; exact hu, by simpa [List.getElem_set_ne e] using ru⟩
  | none => exact hv.append (by simp only [Reps]; exact ⟨_, _, rfl, rv, rfl⟩)
/-- what a look-up in entries comes to -/
theorem look_rep {h : Array Obj} {ks : List (List Int)} {ds : List D} {vs : List Value} {key : List Int} {z : D} {vz : Value} (hl : ks.length = ds.length) (hv : Reps F h Beta.none ds vs) (hz : Rep F h β z vz) :
    Rep F h β ((lookK ks ds key).getD z) (((posK key ks).map fun j => vs.getD j undef).getD vz) ∧ (lookK ks ds key).isSome = (posK key ks).isSome := by
  unfold lookK
  cases hp : posK key ks with
  | none => exact ⟨by simpa using hz, rfl⟩
  | some j =>
    have hj : j < ds.length := by rw [← hl]; exact (posK_lt hp).1
    obtain ⟨u, hu, ru⟩ := hv.get j hj
    have eu : vs.getD j undef = u := by rw [List.getD, hu]; rfl
    have ed : ds.getD j .any = ds[j] := by simp [List.getD, hj]
    refine ⟨?_, rfl⟩
    simp only [Option.map_some, Option.getD_some, eu, ed]
    exact Rep.mono (fun b hb => ⟨hb, rfl⟩) _ (fun _ _ h => by cases h) ru
theorem look_pair {h : Array Obj} {d : D} {v : Value} {a c : Bool} (r : Rep F h β d v) (e : a = c) (ok : Bool) : Rep F h β (if ok then .tup [d, .lit (.bool a)] else d) (if ok then .tuple #[v, .bool c] else v) := by
  subst e
  cases ok with
  | true => simp only [if_true, Rep, Reps]; exact ⟨[_, _], rfl, _, _, rfl, r, _, _, rfl, rfl, rfl⟩
  | false => simpa only [Bool.false_eq_true, if_false] using r
theorem lookupD_sound {t : TypeId} {ti : TI} {x i : D} {vx vi : Value} {ok : Bool} {r : AR} (hΓ : Γ.ok P) (ht : ti.ok P t) (O : Own W0 M0 F0 F β γ tab gen w) (h : lookupD Γ tab ti x i ok = some r)
    (rx : Rep F w.heap β x vx) (ri : Rep F w.heap β i vi) : r.eff = .none ∧ ∃ v, (Instr.lookup t vx vi ok).run P w = .ok v w ∧ Rep F w.heap β r.d v := by
  unfold lookupD at h
  split at h
  · rename_i k e hk
    have hu := ht.kind
    rw [hk] at hu
    split at h
    · rename_i kk ei kk' key hkk hei hkey
      have hzr := (Ctx.get_ok hΓ hei).zok.2.2.2.2 F w.heap β
      split at h
      · rename_i hkkk; subst hkkk
        obtain ⟨rfl, hkf⟩ := keyOf_spec hkey ri
        split at h
        · rename_i kk2 ks z vs
          split at h
          · rename_i h2; subst h2
            obtain ⟨e1, e2⟩ := okR_some h
            refine ⟨e1, ?_⟩
            rw [e2]
            simp only [Rep] at rx
            rcases rx with ⟨rfl, rfl, rfl⟩ | ⟨b, es, cl, rfl, hF, hb, hm, hv⟩
            · refine ⟨_, run_lookup_nil hΓ hu hei hkk hkf ok, ?_⟩
              exact look_pair (by simpa [lookK, posK] using hzr) (by simp [lookK, posK]) ok
            · have hl : ks.length = vs.length := by rw [okmap_len hm]; have := hv.length; simpa using this
              have hr := look_rep (key := key) hl hv hzr
              exact ⟨_, run_lookup hΓ hu hei hkk hkf hb hm ok, look_pair hr.1 hr.2 ok⟩
          · simp at h
        · rename_i nm
          split at h
          · rename_i kk2 ks z vs htab
            split at h
            · rename_i h2; subst h2
              obtain ⟨e1, e2⟩ := okR_some h
              refine ⟨e1, ?_⟩
              rw [e2]
              obtain ⟨b, s, cap, es, cl, hβ, hb, hm, hv⟩ := O.own nm _ htab
              simp only [Rep] at rx
              obtain ⟨b', s', cap', hβ', rfl⟩ := rx
              rw [hβ] at hβ'
              simp only [Option.some.injEq, Prod.mk.injEq] at hβ'
              obtain ⟨rfl, rfl, rfl⟩ := hβ'
              have hl : ks.length = vs.length := by rw [okmap_len hm]; have := hv.length; simpa using this
              have hr := look_rep (key := key) hl hv hzr
              exact ⟨_, run_lookup hΓ hu hei hkk hkf hb hm ok, look_pair hr.1 hr.2 ok⟩
            · simp at h
          · simp at h
        · simp at h
      · simp at h
    · simp at h
  · simp at h
/-- a row is taken out of its map -/
theorem does_split {nm nm0 : Nm} {r : AR} {res : Result Next} {kk s j : Nat} {ks : List (List Int)} {z : D} {rows : List (List D)} {b s' cap cl : Nat} {es : Array MapEntry} {bl : Nat → Option Nat} {v : Value}
    (O : Own W0 M0 F0 F β γ tab gen w) (hn : tab.get nm = none) (hg : nm.2 = gen) (ht : tab.get nm0 = some (.rmap kk ks s z rows none)) (hβ : β nm0 = some (some b, s', cap)) (hb : w.heap[b]? = some (.map es cl)) (hm : MapOk kk ks es cl)
    (hGb : ¬ γ nm0 b) (hR : RowsOK F w.heap (γ nm0) s rows none bl (es.toList.map (·.val))) (hj : j < rows.length) (hv : (es.toList.map (·.val))[j]? = some v) (hres : res = .ok (.value v) w)
    (hr : r = ⟨True, .own nm s 0 (rows.getD j []).length, .split nm0 (.rmap kk ks s z rows (some j)) (.arr false s z (rows.getD j []))⟩) : Does W0 M0 F0 F β tab gen w nm r res := by
  subst hr
  have erow : rows[j]? = some (rows.getD j []) := by simp [List.getD, hj]
  obtain ⟨v', hv', hrow⟩ := hR.2.1 j _ erow (by simp)
  rw [hv] at hv'; cases hv'
  have hβn : β nm = none := by
    cases hb : β nm with
    | none => rfl
    | some x => rcases O.gen _ _ hb with h | ⟨_, h⟩
                · omega
                · simp [hn] at h
  have hne : nm ≠ nm0 := fun e => by rw [e, ht] at hn; cases hn
  -- the row's block, its capacity
  obtain ⟨c0, hc0⟩ : ∃ c0, (bl j = none → (rows.getD j []) = [] ∧ c0 = 0 ∧ ∃ a, v = .slice a 0 0) ∧ ∀ x, bl j = some x → γ nm0 x ∧ v = .slice (some ⟨x, 0, none⟩) (rows.getD j []).length c0 ∧ ∃ c e, w.heap[x]? = some (.cells c e (0, 0)) ∧ c.size = c0 * s ∧ (rows.getD j []).length ≤ c0 ∧ Repx F w.heap Beta.none s c (rows.getD j []) 0 := by
    rcases hrow with ⟨h1, h2, h3⟩ | ⟨x, cp, c, e, h1, h2, h3, h4, h5, h6, h7⟩
    · exact ⟨0, fun _ => ⟨h2, rfl, h3⟩, fun x hx => (by rw [h1] at hx; cases hx)⟩
    · exact ⟨cp, fun hx => (by rw [h1] at hx; cases hx), fun y hy => (by rw [h1] at hy; cases hy; exact ⟨h3, h2, c, e, h4, h5, h6, h7⟩)⟩
  let β' : Beta := fun n => if n = nm then some (bl j, s, c0) else β n
  have hβ2 : ∀ n x, β n = some x → β' n = some x := fun n x h => by
    simp only [β']; rw [if_neg]
    · exact h
    · rintro rfl; rw [hβn] at h; cases h
  have hβ0 : β' nm = some (bl j, s, c0) := by simp [β']
  let γ' : Nm → Nat → Prop := fun n => if n = nm then (fun _ => False) else if n = nm0 then (fun x => γ nm0 x ∧ bl j ≠ some x) else γ n
  have hγ0 : γ' nm0 = fun x => γ nm0 x ∧ bl j ≠ some x := by simp [γ', Ne.symm hne]
  have hγ1 : γ' nm = fun _ => False := by simp [γ']
  have fp0 : ∀ x, fp β' γ' nm0 x → fp β γ nm0 x ∧ bl j ≠ some x := fun x hx => by
    rcases hx with ⟨s2, c2, hx⟩ | hx
    · simp only [β', Ne.symm hne, if_false] at hx
      refine ⟨.inl ⟨s2, c2, hx⟩, fun e => ?_⟩
      rw [hβ] at hx
      simp only [Option.some.injEq, Prod.mk.injEq] at hx
      exact hGb (hx.1 ▸ (hc0.2 x e).1)
    · rw [hγ0] at hx; exact ⟨.inr hx.1, hx.2⟩
  have fp1 : ∀ x, fp β' γ' nm x → bl j = some x := fun x hx => by
    rcases hx with ⟨s2, c2, hx⟩ | hx
    · rw [hβ0] at hx; simp only [Option.some.injEq, Prod.mk.injEq] at hx; exact hx.1
    · rw [hγ1] at hx; exact hx.elim
  refine ⟨w, F, β', γ', _, v, hres, .inl rfl, ?_, fun _ h => ⟨h, rfl⟩, hβ2, ?_⟩
  · refine Own.split O nm0 nm _ (.rmap kk ks s z rows (some j)) (.arr false s z (rows.getD j [])) ht (by simp) hn hg (fun n h1 h2 => ?_) ?_ ?_ hβ2 (fun n h => by simp [β', h]) (fun n h1 h2 => by simp [γ', h1, h2]) ?_ ?_ (fun x hx => (fp0 x hx).1) (fun x hx => .inr (hc0.2 x (fp1 x hx)).1) (fun x hx hx' => (fp0 x hx).2 (fp1 x hx'))
    · simp only [applyE, Tab.get_set]; rw [if_neg (Ne.symm h2), if_neg (Ne.symm h1)]
    · simp [applyE, Tab.get_set, hne]
    · simp only [applyE, Tab.get_set, if_true]
    · refine ⟨b, s', cap, es, cl, bl, hβ2 _ _ hβ, hb, hm, by rw [hγ0]; exact fun h => hGb h.1, hR.1, fun i row hi hh => ?_, fun i k x hi hk _ _ h1 h2 => hR.2.2 i k x hi hk (by simp) (by simp) h1 h2⟩
      obtain ⟨u, hu, hru⟩ := hR.2.1 i row hi (by simp)
      refine ⟨u, hu, hru.mono (fun _ h => ⟨h, rfl⟩) fun x hx hg' => ⟨?_, rfl⟩⟩
      rw [hγ0]
      refine ⟨hg', fun e => ?_⟩
      have hil : i < rows.length := by have := List.getElem?_eq_some_iff.1 hi; exact this.1
      exact hh (by rw [hR.2.2 i j x hil hj (by simp) (by simp) hx e])
    · refine ⟨bl j, c0, hβ0, fun e => ⟨(hc0.1 e).1, (hc0.1 e).2.1⟩, fun x hx => ?_⟩
      obtain ⟨_, _, c, e, h1, h2, h3, h4⟩ := hc0.2 x hx
      refine ⟨by rw [hγ1]; exact id, c, e, h1, h2, h3, by simpa using h4⟩
  · simp only [Rep]
    cases hbl : bl j with
    | none =>
      obtain ⟨h1, _, a, h3⟩ := hc0.1 hbl
      exact .inl ⟨a, by rw [h1]; rfl, h3⟩
    | some x =>
      obtain ⟨_, h2, c, e, h3, h4, h5, h6⟩ := hc0.2 x hbl
      refine .inr ⟨x, c0, by rw [hβ0, hbl], by simpa using h2, by omega⟩
theorem lookrD_sound {t : TypeId} {ti : TI} {x i : D} {vx vi : Value} {r : AR} {nm : Nm} (hΓ : Γ.ok P) (ht : ti.ok P t) (O : Own W0 M0 F0 F β γ tab gen w) (hn : r.eff = .none ∨ tab.get nm = none) (hg : nm.2 = gen) (h : lookrD Γ tab nm ti x i = some r)
    (rx : Rep F w.heap β x vx) (ri : Rep F w.heap β i vi) : Does W0 M0 F0 F β tab gen w nm r ((do pure (.value (← Instr.lookup t vx vi false)) : Sem Next).run P w) := by
  unfold lookrD at h
  split at h
  · rename_i k e hk
    have hu := ht.kind
    rw [hk] at hu
    split at h
    · rename_i kk ei kk' key hkk hei hkey
      have hzr := (Ctx.get_ok hΓ hei).zok.2.2.2.2 F w.heap β
      split at h
      · rename_i hkkk; subst hkkk
        obtain ⟨rfl, hkf⟩ := keyOf_spec hkey ri
        split at h
        · rename_i e2 s0 z0 hki hz0
          rw [hz0] at hzr
          split at h
          · rename_i ei2 hei2
            have hzn : ∀ tt, Rep F w.heap β (.sl tt ei2.size ei2.y []) ei.zero := fun tt => by
              simp only [Rep] at hzr ⊢
              rcases hzr with ⟨_, a, cap, h1, h2⟩ | ⟨b, off, cap, c, e, fr, h1, h2, h3, _, h4, _⟩
              · exact .inl ⟨trivial, a, cap, h1, fun _ => h2 trivial⟩
              · have := h4 trivial
                simp at this
                exact .inl ⟨trivial, _, _, by simpa using h1, fun _ => this⟩
            split at h
            · rename_i kk2 ks z vs
              split at h
              · rename_i h2; subst h2
                obtain ⟨e1, e2'⟩ := okR_some h
                simp only [Rep] at rx
                rcases rx with ⟨rfl, rfl, rfl⟩ | ⟨b, es, cl, rfl, hF, hb, hm, hv⟩
                · refine does_val O e1 (val_run (run_lookup_nil hΓ hu hei hkk hkf false)) ?_
                  rw [e2']
                  simpa [lookK, posK] using hzn false
                · have hl : ks.length = vs.length := by rw [okmap_len hm]; have := hv.length; simpa using this
                  have hr := look_rep (key := key) hl hv (hzn false)
                  refine does_val O e1 (val_run (run_lookup hΓ hu hei hkk hkf hb hm false)) ?_
                  rw [e2']; simpa using hr.1
              · simp at h
            · rename_i nm0
              split at h
              · rename_i kk2 ks s z rows htab
                split at h
                · rename_i h2; subst h2
                  obtain ⟨b, s', cap, es, cl, bl, hβ, hb, hm, hGb, hR⟩ := O.own nm0 _ htab
                  simp only [Rep] at rx
                  obtain ⟨b', s2, cap', hβ', rfl⟩ := rx
                  rw [hβ] at hβ'
                  simp only [Option.some.injEq, Prod.mk.injEq] at hβ'
                  obtain ⟨rfl, rfl, rfl⟩ := hβ'
                  have hrun := run_lookup (w := w) hΓ hu hei hkk hkf hb hm false
                  have hl : ks.length = rows.length := by rw [okmap_len hm]; have := hR.1; simpa using this
                  split at h
                  · rename_i hp
                    obtain ⟨e1, e2'⟩ := okR_some h
                    rw [hp] at hrun
                    refine does_val O e1 (val_run hrun) ?_
                    rw [e2']; simpa using hzn true
                  · rename_i j hp
                    have hj := posK_lt hp
                    rw [hp] at hrun
                    have hjr : j < rows.length := by omega
                    have hvj : ((es.toList.map (·.val))[j]?) = some ((es.toList.map (·.val)).getD j undef) := by
                      have : j < (es.toList.map (·.val)).length := by rw [hR.1]; exact hjr
                      rw [List.getD, List.getElem?_eq_getElem this]; rfl
                    simp only [Option.some.injEq] at h
                    rcases hn with hn | hn
                    · rw [← h] at hn; simp at hn
                    · exact does_split O hn hg htab hβ hb hm hGb hR hjr hvj (val_run (by simpa using hrun)) h.symm
                · simp at h
              · simp at h
            · simp at h
          · simp at h
        · simp at h
      · simp at h
    · simp at h
  · simp at h
theorem lookrD_eff {ti : TI} {x i : D} {r : AR} {nm : Nm} (h : lookrD Γ tab nm ti x i = some r) : r.eff = .none ∨ ∃ n o o', r.eff = .split n o o' := by
  unfold lookrD at h
  repeat' first
    | (simp only [reduceCtorEq] at h; done)
    | (exact .inl (okR_some h).1)
    | (simp only [Option.some.injEq] at h; subst h; exact .inr ⟨_, _, _, rfl⟩)
    | split at h
theorem map_erase {α β' : Type} (f : α → β') : ∀ (l : List α) (j : Nat), (l.eraseIdx j).map f = (l.map f).eraseIdx j
  | [], j => by simp
  | x :: t, 0 => by simp
  | x :: t, j + 1 => by simp [map_erase f t j]
theorem reps_erase {F : Nat → Prop} {h : Array Obj} {β : Beta} : ∀ {ds : List D} {vs : List Value} (j : Nat), Reps F h β ds vs → Reps F h β (ds.eraseIdx j) (vs.eraseIdx j)
  | [], vs, j, r => by simp only [Reps] at r; subst r; simp [Reps]
  | d :: ds, vs, 0, r => by
    simp only [Reps] at r
    obtain ⟨v, vs', rfl, _, r2⟩ := r
    simpa using r2
  | d :: ds, vs, j + 1, r => by
    simp only [Reps] at r
    obtain ⟨v, vs', rfl, r1, r2⟩ := r
    simp only [List.eraseIdx_cons_succ, Reps]
    exact ⟨v, _, rfl, r1, reps_erase j r2⟩
theorem run_delete {t k e ty : TypeId} {b : Nat} {es : Array MapEntry} {cl kk : Nat} {ks : List (List Int)} {key : List Int} (hΓ : Γ.ok P) (hu : P.underlying t = some (.map k e)) (hkk : keyKind Γ k = some kk) (hkf : kform kk key)
    (hb : w.heap[b]? = some (.map es cl)) (hm : MapOk kk ks es cl) {ty2 : TypeId} :
    ∃ es', (Builtin.delete_ #[t, ty2] ty #[.map (some b), kval kk key]).run P w = .ok (.tuple #[]) { w with heap := w.heap.setIfInBounds b (.map es' cl) } ∧ MapOk kk (delK ks key) es' cl ∧
      es'.toList.map (·.val) = (match posK key ks with | none => es.toList.map (·.val) | some j => (es.toList.map (·.val)).eraseIdx j) := by
  obtain ⟨d, hud, hd⟩ := keyKind_spec hΓ hkk
  have hlen := okmap_len hm
  have hfk := run_findKey (w := w) hud hd hkf ks es.toList hm.1 hm.2.1
  cases hp : posK key ks with
  | none =>
    refine ⟨es, ?_, by rw [delK, hp]; exact hm, rfl⟩
    simp [Builtin.delete_, run_und hu, get_map hb, run_checkKey hud hd hkf, hfk, hp, set_map _ hb]
  | some j =>
    have hj := posK_lt hp
    have hjl : j < es.size := by have := hj.1; simp at hlen; omega
    have hes : (es.eraseIdxIfInBounds j).toList = es.toList.eraseIdx j := by
      simp [Array.eraseIdxIfInBounds, hjl]
    have hsub : (es.eraseIdxIfInBounds j).toList.Sublist es.toList := by rw [hes]; exact List.eraseIdx_sublist _ _
    refine ⟨es.eraseIdxIfInBounds j, ?_, ⟨?_, fun k' hk' => ?_, ?_, fun e' he' => hm.2.2.2.1 e' (hsub.subset he'), hm.2.2.2.2.sublist (hsub.map _)⟩, ?_⟩
    · simp [Builtin.delete_, run_und hu, get_map hb, run_checkKey hud hd hkf, hfk, hp, set_map _ hb]
    · rw [hes, map_erase, hm.1, delK, hp, map_erase]
    · rw [delK, hp] at hk'
      exact hm.2.1 k' ((List.eraseIdx_sublist _ _).subset hk')
    · rw [delK, hp]
      exact hm.2.2.1.sublist (List.eraseIdx_sublist _ _)
    · rw [hes, map_erase]
theorem deleteD_sound {t ty ty2 : TypeId} {ti : TI} {x i : D} {vx vi : Value} {r : AR} {nm : Nm} (hΓ : Γ.ok P) (ht : ti.ok P t) (O : Own W0 M0 F0 F β γ tab gen w) (h : deleteD Γ tab ti x i = some r)
    (rx : Rep F w.heap β x vx) (ri : Rep F w.heap β i vi) : Does W0 M0 F0 F β tab gen w nm r ((do pure (.value (← Builtin.delete_ #[t, ty2] ty #[vx, vi])) : Sem Next).run P w) := by
  unfold deleteD at h
  split at h
  · rename_i k e hk
    have hu := ht.kind
    rw [hk] at hu
    split at h
    · rename_i kk kk' key hkk hkey
      split at h
      · rename_i hkkk; subst hkkk
        obtain ⟨rfl, hkf⟩ := keyOf_spec hkey ri
        split at h
        · rename_i nm0
          split at h
          · rename_i kk2 ks z vs htab
            split at h
            · rename_i h2; subst h2
              simp only [Option.some.injEq] at h; subst h
              obtain ⟨b, s, cap, es, cl, hβ, hb, hm, hv⟩ := O.own nm0 _ htab
              simp only [Rep] at rx
              obtain ⟨b', s', cap', hβ', rfl⟩ := rx
              rw [hβ] at hβ'
              simp only [Option.some.injEq, Prod.mk.injEq] at hβ'
              obtain ⟨rfl, rfl, rfl⟩ := hβ'
              have hblt : b < w.heap.size := (Array.getElem?_eq_some_iff.1 hb).1
              obtain ⟨es', hrun, hmo, hval⟩ := run_delete (ty := ty) (ty2 := ty2) hΓ hu hkk hkf hb hm
              have hoth : ∀ i, i ≠ b → (w.heap.setIfInBounds b (.map es' cl))[i]? = w.heap[i]? := fun i hi => by simp [Array.getElem?_setIfInBounds, Ne.symm hi]
              have hFb : ¬ F b := (O.fps nm0 _ htab (by simp) b (.inl ⟨_, _, hβ⟩)).1
              refine does_set (w' := { w with heap := w.heap.setIfInBounds b (.map es' cl) }) (v := .tuple #[]) (nx := .value (.tuple #[])) O htab (by simp) (by simp) rfl hβ hoth (by simp) rfl rfl rfl (by simp [hrun]) (.inl rfl) ?_ (by simp only [Rep, Reps]; exact ⟨[], rfl, rfl⟩)
              refine ⟨b, s, cap, es', cl, hβ, by simp [hblt], hmo, ?_⟩
              rw [hval, delV]
              refine Reps.mono (fun i hi => ⟨hi, hoth i fun e => hFb (e ▸ hi)⟩) _ (fun _ _ h => h) ?_
              cases hp : posK key ks with
              | none => exact hv
              | some j => exact reps_erase j hv
            · simp at h
          · simp at h
        · simp at h
      · simp at h
    · simp at h
  · simp at h
theorem lenM_sound {t : TypeId} {x : D} {vx : Value} {r : AR} {ty : TypeId} (hΓ : Γ.ok P) (O : Own W0 M0 F0 F β γ tab gen w) (h : lenM Γ tab t x = some r) (rx : Rep F w.heap β x vx) :
    r.eff = .none ∧ ∃ v, (Builtin.len_ #[t] ty #[vx]).run P w = .ok v w ∧ Rep F w.heap β r.d v := by
  unfold lenM at h
  split at h
  · simp at h
  · rename_i ti hti
    have hk := (Ctx.get_ok hΓ hti).kind
    split at h
    · rename_i k e nm0 hx
      rw [hx] at hk
      split at h
      · rename_i kk ks z vs htab
        obtain ⟨e1, e2⟩ := valR_sound h
        obtain ⟨b, s, cap, es, cl, hβ, hb, hm, hv⟩ := O.own nm0 _ htab
        simp only [Rep] at rx
        obtain ⟨b', s', cap', hβ', rfl⟩ := rx
        rw [hβ] at hβ'
        simp only [Option.some.injEq, Prod.mk.injEq] at hβ'
        obtain ⟨rfl, rfl, rfl⟩ := hβ'
        have hl := okmap_len hm
        refine ⟨e1, .int .i64 ks.length, ?_, rep_of_lit e2⟩
        have hu : P.underlying t = some (.map k e) := hk
        have hsz : es.size = ks.length := by simpa using hl.symm
        simp [Builtin.len_, run_und hu, get_map hb, goInt, hsz]
      · simp at h
    · simp at h
theorem mapUpdateD_sound {t : TypeId} {ti : TI} {x i v : D} {vx vi vv : Value} {r : AR} {nm : Nm} (hΓ : Γ.ok P) (ht : ti.ok P t) (O : Own W0 M0 F0 F β γ tab gen w) (h : mapUpdateD Γ tab ti x i v = some r) (hob : r.ob)
    (rx : Rep F w.heap β x vx) (ri : Rep F w.heap β i vi) (rv : Rep F w.heap β v vv) : Does W0 M0 F0 F β tab gen w nm r ((do Instr.mapUpdate t vx vi vv; pure .skip : Sem Next).run P w) := by
  unfold mapUpdateD at h
  split at h
  · rename_i k e hk
    have hu := ht.kind
    rw [hk] at hu
    split at h
    · rename_i kk kk' key hkk hkey
      split at h
      · rename_i hkkk; subst hkkk
        obtain ⟨rfl, hkf⟩ := keyOf_spec hkey ri
        split at h
        · rename_i nm0
          split at h
          · rename_i kk2 ks z vs htab
            split at h
            · rename_i h2; subst h2
              obtain ⟨b, s, cap, es, cl, hβ, hb, hm, hv⟩ := O.own nm0 _ htab
              simp only [Rep] at rx
              obtain ⟨b', s', cap', hβ', rfl⟩ := rx
              rw [hβ] at hβ'
              simp only [Option.some.injEq, Prod.mk.injEq] at hβ'
              obtain ⟨rfl, rfl, rfl⟩ := hβ'
              have hl : ks.length = vs.length := by rw [okmap_len hm]; have := hv.length; simpa using this
              have hblt : b < w.heap.size := (Array.getElem?_eq_some_iff.1 hb).1
              obtain ⟨es', cl', hrun, hmo, hval⟩ := run_mapUpdate (vv := vv) hΓ hu hkk hkf hb hm
              have hoth : ∀ i, i ≠ b → (w.heap.setIfInBounds b (.map es' cl'))[i]? = w.heap[i]? := fun i hi => by simp [Array.getElem?_setIfInBounds, Ne.symm hi]
              have hFb : ¬ F b := (O.fps nm0 _ htab (by simp) b (.inl ⟨_, _, hβ⟩)).1
              split at h
              · rename_i hpv
                simp only [Option.some.injEq] at h; subst h
                have rvn : Rep F w.heap Beta.none v vv := Rep.rebeta v hpv rv
                refine does_set (w' := { w with heap := w.heap.setIfInBounds b (.map es' cl') }) (v := undef) (nx := .skip) O htab (by simp) (by simp) rfl hβ hoth (by simp) rfl rfl rfl (by simp [hrun]) (.inr ⟨rfl, rfl⟩) ?_ (by simp only [Rep])
                refine ⟨b, s, cap, es', cl', hβ, by simp [hblt], hmo, ?_⟩
                rw [hval]
                exact Reps.mono (fun i hi => ⟨hi, hoth i fun e => hFb (e ▸ hi)⟩) _ (fun _ _ h => h) (reps_upd hl hv rvn)
              · split at h
                · rename_i nv _
                  split at h
                  · rename_i d htv
                    split at h
                    · rename_i hc
                      obtain ⟨hpd, hne⟩ := hc
                      simp only [Option.some.injEq] at h; subst h
                      obtain ⟨bv, sv, cv, e, u, hβv, hbv, hok, hr⟩ := O.own nv _ htv
                      simp only [Rep] at rv
                      obtain ⟨b2, s2, c2, hβ2, rfl⟩ := rv
                      rw [hβv] at hβ2
                      simp only [Option.some.injEq, Prod.mk.injEq] at hβ2
                      obtain ⟨rfl, rfl, rfl⟩ := hβ2
                      have hbb : bv ≠ b := fun e' => O.dis nv nm0 _ _ htv htab (by simp) (by simp) hne bv (.inl ⟨_, _, hβv⟩) (.inl ⟨s, cap, by rw [e']; exact hβ⟩)
                      refine does_putf (w' := { w with heap := w.heap.setIfInBounds b (.map es' cl') }) (v := undef) (nx := .skip) O htv (by simp) htab (by simp) (by simp) hne rfl hβ hoth (by simp) rfl rfl rfl (by simp [hrun]) (.inr ⟨rfl, rfl⟩) ?_ (by simp only [Rep])
                      refine ⟨b, s, cap, es', cl', hβ, by simp [hblt], hmo, ?_⟩
                      rw [hval]
                      have hup : ∀ {l : List D} {vs : List Value}, Reps F w.heap Beta.none l vs → Reps (fun x => F x ∨ fp β γ nv x) w.heap Beta.none l vs := fun r => Reps.mono (fun x hx => ⟨.inl hx, rfl⟩) _ (fun _ _ h => h) r
                      have hel : Rep (fun x => F x ∨ fp β γ nv x) w.heap Beta.none (.el d) (.pointer (some ⟨bv, 0, none⟩)) := by
                        simp only [Rep]
                        refine ⟨bv, 0, _, e, _, u, rfl, .inr (.inl ⟨_, _, hβv⟩), hbv, ?_, fun j hj => by simp⟩
                        exact Rep.mono (fun x hx => ⟨.inl hx, rfl⟩) _ (fun _ _ h => h) (Rep.rebeta d hpd hr)
                      refine Reps.mono (fun i hi => ⟨hi, hoth i fun e => ?_⟩) _ (fun _ _ h => h) (reps_upd hl (hup hv) hel)
                      subst e
                      rcases hi with hi | hi
                      · exact hFb hi
                      · exact O.dis nv nm0 _ _ htv htab (by simp) (by simp) hne i hi (.inl ⟨_, _, hβ⟩)
                    · simp at h
                  · simp at h
                · simp at h
            · simp at h
          · rename_i kk2 ks s z rows hole htab
            split at h
            · rename_i h2; subst h2
              split at h
              · rename_i nv s1 n
                split at h
                · rename_i s2 zz xs htv
                  split at h
                  · rename_i hc
                    obtain ⟨rfl, rfl, hne⟩ := hc
                    simp only [Option.some.injEq] at h; subst h
                    obtain ⟨hnx, hho⟩ := hob
                    obtain ⟨b, s', cap, es, cl, bl, hβ, hb, hm, hGb, hR⟩ := O.own nm0 _ htab
                    simp only [Rep] at rx
                    obtain ⟨b', s3, cap', hβ', rfl⟩ := rx
                    rw [hβ] at hβ'
                    simp only [Option.some.injEq, Prod.mk.injEq] at hβ'
                    obtain ⟨rfl, rfl, rfl⟩ := hβ'
                    have hl : ks.length = rows.length := by rw [okmap_len hm]; have := hR.1; simpa using this
                    have hblt : b < w.heap.size := (Array.getElem?_eq_some_iff.1 hb).1
                    obtain ⟨es', cl', hrun, hmo, hval⟩ := run_mapUpdate (vv := vv) hΓ hu hkk hkf hb hm
                    have hoth : ∀ i, i ≠ b → (w.heap.setIfInBounds b (.map es' cl'))[i]? = w.heap[i]? := fun i hi => by simp [Array.getElem?_setIfInBounds, Ne.symm hi]
                    have hFb : ¬ F b := (O.fps nm0 _ htab (by simp) b (.inl ⟨_, _, hβ⟩)).1
                    have hpb : ∀ x, fp β γ nv x → x ≠ b ∧ ¬ γ nm0 x := fun x hx => ⟨fun e => O.dis nv nm0 _ _ htv htab (by simp) (by simp) hne x hx (.inl ⟨_, _, e ▸ hβ⟩), fun e => O.dis nv nm0 _ _ htv htab (by simp) (by simp) hne x hx (.inr e)⟩
                    have hFm : ∀ x, F x → F x ∧ (w.heap.setIfInBounds b (.map es' cl'))[x]? = w.heap[x]? := fun x hx => ⟨hx, hoth x fun e => hFb (e ▸ hx)⟩
                    -- the row that comes in
                    obtain ⟨bo, c0, hβv, hno, hsm⟩ := O.own nv _ htv
                    have hlx : (preL n xs).length = n := by simp [preL]; omega
                    obtain ⟨bv, hbv1, hbv2⟩ : ∃ bv : Option Nat, RowOK F (w.heap.setIfInBounds b (.map es' cl')) (fun x => γ nm0 x ∨ fp β γ nv x) s1 (preL n xs) bv vv ∧ ∀ x, bv = some x → fp β γ nv x := by
                      simp only [Rep] at rv
                      rcases rv with ⟨a, h0, rfl⟩ | ⟨b2, cap2, hβ2, rfl, hle⟩
                      · exact ⟨none, .inl ⟨rfl, by simp [preL, h0], a, rfl⟩, fun x hx => by cases hx⟩
                      · rw [hβv] at hβ2
                        simp only [Option.some.injEq, Prod.mk.injEq] at hβ2
                        obtain ⟨rfl, _, rfl⟩ := hβ2
                        obtain ⟨_, c, e, h4, h5, h6, h7⟩ := hsm b2 rfl
                        have hfb : fp β γ nv b2 := .inl ⟨_, _, hβv⟩
                        refine ⟨some b2, .inr ⟨b2, c0, c, e, rfl, by rw [hlx]; simp, .inr hfb, by rw [hoth b2 (hpb b2 hfb).1]; exact h4, h5, by rw [hlx]; omega, ?_⟩, fun x hx => by cases hx; exact hfb⟩
                        have h7' : Repx F w.heap Beta.none s1 c xs 0 := by simpa using h7
                        have := Repx.take_drop h7' 0 n
                        simp only [List.drop_zero, Nat.zero_mul, Nat.add_zero] at this
                        exact Repx.mono hFm _ (fun _ _ h => h) this
                    refine does_put (w' := { w with heap := w.heap.setIfInBounds b (.map es' cl') }) (v := undef) (nx := .skip) O htv (by simp) htab (by simp) (by simp) hne rfl hβ hoth (by simp) rfl rfl rfl (by simp [hrun]) (.inr ⟨rfl, rfl⟩) ?_ (by simp only [Rep])
                    have hold : ∀ j row, rows[j]? = some row → hole ≠ some j → ∃ u, (es.toList.map (·.val))[j]? = some u ∧ RowOK F (w.heap.setIfInBounds b (.map es' cl')) (fun x => γ nm0 x ∨ fp β γ nv x) s1 row (bl j) u ∧ ∀ x, bl j = some x → γ nm0 x := fun j row hj hh => by
                      obtain ⟨u, hu2, hru⟩ := hR.2.1 j row hj hh
                      refine ⟨u, hu2, hru.mono hFm fun x _ hx => ⟨.inl hx, hoth x fun e => hGb (e ▸ hx)⟩, fun x hx => ?_⟩
                      rcases hru with ⟨h1, _⟩ | ⟨y, _, _, _, h1, _, h3, _⟩
                      · rw [h1] at hx; cases hx
                      · rw [h1] at hx; cases hx; exact h3
                    have hnb : ¬ (γ nm0 b ∨ fp β γ nv b) := fun h => by
                      rcases h with h | h
                      · exact hGb h
                      · exact (hpb b h).1 rfl
                    cases hp : posK key ks with
                    | none =>
                      have hh0 : hole = none := by rcases hho with h | h; exact h; rw [hp] at h; exact h.symm
                      subst hh0
                      refine ⟨b, s', cap, es', cl', fun j => if j = rows.length then bv else bl j, hβ, by simp [hblt], hmo, hnb, ?_, fun j row hj _ => ?_, fun i j x hi hj _ _ h1 h2 => ?_⟩
                      · rw [hval]; simp only [updV, updR, hp]; simp; have := hR.1; simpa using this
                      · rw [hval]
                        simp only [updV, updR, hp] at hj ⊢
                        by_cases hjl : j < rows.length
                        · rw [List.getElem?_append_left hjl] at hj
                          obtain ⟨u, hu2, hru, _⟩ := hold j row hj (by simp)
                          refine ⟨u, by rw [List.getElem?_append_left (by rw [hR.1]; exact hjl)]; exact hu2, ?_⟩
                          rw [if_neg (by omega)]; exact hru
                        · rw [List.getElem?_append_right (by omega)] at hj
                          have hj0 : j = rows.length := by
                            have := (List.getElem?_eq_some_iff.1 hj).1
                            simp at this; omega
                          subst hj0
                          simp at hj
                          subst hj
                          refine ⟨vv, ?_, by simpa using hbv1⟩
                          rw [List.getElem?_append_right (by rw [hR.1]; omega), hR.1]; simp
                      · simp only [updR, hp, List.length_append, List.length_cons, List.length_nil] at hi hj
                        have hin : ∀ i, i < rows.length → bl i = some x → γ nm0 x := fun i hi hx => by
                          obtain ⟨_, _, _, h⟩ := hold i rows[i] (by simp [hi]) (by simp)
                          exact h x hx
                        by_cases hil : i = rows.length <;> by_cases hjl : j = rows.length
                        · omega
                        · simp only [if_pos hil, if_neg hjl] at h1 h2
                          exact absurd (hin j (by omega) h2) (hpb x (hbv2 x h1)).2
                        · simp only [if_neg hil, if_pos hjl] at h1 h2
                          exact absurd (hin i (by omega) h1) (hpb x (hbv2 x h2)).2
                        · simp only [if_neg hil, if_neg hjl] at h1 h2
                          exact hR.2.2 i j x (by omega) (by omega) (by simp) (by simp) h1 h2
                    | some j0 =>
                      have hj0 := posK_lt hp
                      have hjr : j0 < rows.length := by omega
                      have hh : ∀ j, j ≠ j0 → hole ≠ some j := fun j hj e => by
                        rcases hho with h | h
                        · rw [h] at e; cases e
                        · rw [hp, e] at h; cases h; exact hj rfl
                      refine ⟨b, s', cap, es', cl', fun j => if j = j0 then bv else bl j, hβ, by simp [hblt], hmo, hnb, ?_, fun j row hj _ => ?_, fun i j x hi hj _ _ h1 h2 => ?_⟩
                      · rw [hval]; simp only [updV, updR, hp]; simp; have := hR.1; simpa using this
                      · rw [hval]
                        simp only [updV, updR, hp] at hj ⊢
                        by_cases hjl : j = j0
                        · subst hjl
                          rw [List.getElem?_set_self hjr] at hj
                          cases hj
                          exact ⟨vv, by rw [List.getElem?_set_self (by rw [hR.1]; exact hjr)], by simpa using hbv1⟩
                        · rw [List.getElem?_set_ne (Ne.symm hjl)] at hj
                          obtain ⟨u, hu2, hru, _⟩ := hold j row hj (hh j hjl)
                          exact ⟨u, by rw [List.getElem?_set_ne (Ne.symm hjl)]; exact hu2, by rw [if_neg hjl]; exact hru⟩
                      · simp only [updR, hp, List.length_set] at hi hj
                        have hin : ∀ i, i < rows.length → i ≠ j0 → bl i = some x → γ nm0 x := fun i hi hne' hx => by
                          obtain ⟨_, _, _, h⟩ := hold i rows[i] (by simp [hi]) (hh i hne')
                          exact h x hx
                        by_cases hil : i = j0 <;> by_cases hjl : j = j0
                        · omega
                        · simp only [if_pos hil, if_neg hjl] at h1 h2
                          exact absurd (hin j hj hjl h2) (hpb x (hbv2 x h1)).2
                        · simp only [if_neg hil, if_pos hjl] at h1 h2
                          exact absurd (hin i hi hil h1) (hpb x (hbv2 x h2)).2
                        · simp only [if_neg hil, if_neg hjl] at h1 h2
                          exact hR.2.2 i j x hi hj (hh i hil) (hh j hjl) h1 h2
                  · simp at h
                · simp at h
              · simp at h
            · simp at h
          · simp at h
        · simp at h
      · simp at h
    · simp at h
  · simp at h
/-! ### loops over maps and strings -/
theorem rangeD_sound {t : TypeId} {ti : TI} {x : D} {vx : Value} {r : AR} {nm : Nm} (ht : ti.ok P t) (O : Own W0 M0 F0 F β γ tab gen w) (hn : tab.get nm = none) (hg : nm.2 = gen) (h : rangeD nm ti x = some r)
    (rx : Rep F w.heap β x vx) : Does W0 M0 F0 F β tab gen w nm r ((do pure (.value (← Instr.range t vx)) : Sem Next).run P w) := by
  unfold rangeD at h
  have hu := ht.kind
  split at h
  · rename_i k e kk ks z vs hk
    rw [hk] at hu
    simp only [Option.some.injEq] at h; subst h
    simp only [Rep] at rx
    rcases rx with ⟨rfl, rfl, rfl⟩ | ⟨b, es, cl, rfl, hF, hb, hm, hv⟩
    · have hrun : (Instr.range t (.map none)).run P w = .ok (.pointer (some ⟨w.heap.size, 0, none⟩)) { w with heap := w.heap.push (.mapIter none 0 #[] 0) } := by
        simp [Instr.range, run_und hu]
      refine does_new (w' := { w with heap := w.heap.push (.mapIter none 0 #[] 0) }) (ob := .mapIter none 0 #[] 0) O hn hg rfl rfl rfl rfl rfl (val_run hrun) (some w.heap.size) 0 0 (.inr rfl) (fun β' h4 h5 => ?_) (fun β' h4 h5 => ?_)
      · exact ⟨_, _, _, h5, .inl ⟨rfl, rfl, by simp⟩⟩
      · simp only [Rep]; exact ⟨_, _, _, h5, rfl⟩
    · have hrun : (Instr.range t (.map (some b))).run P w = .ok (.pointer (some ⟨w.heap.size, 0, none⟩)) { w with heap := w.heap.push (.mapIter (some b) cl #[] cl) } := by
        simp [Instr.range, run_und hu, get_map hb]
      refine does_new (w' := { w with heap := w.heap.push (.mapIter (some b) cl #[] cl) }) (ob := .mapIter (some b) cl #[] cl) O hn hg rfl rfl rfl rfl rfl (val_run hrun) (some w.heap.size) 0 0 (.inr rfl) (fun β' h4 h5 => ?_) (fun β' h4 h5 => ?_)
      · have hold : ∀ x, F x → (w.heap.push (.mapIter (some b) cl #[] cl))[x]? = w.heap[x]? := fun x hx => by simp [Array.getElem?_push, Nat.ne_of_lt (O.Flt x hx)]
        refine ⟨_, _, _, h5, .inr ⟨b, es, cl, #[], .inl hF, (hold b hF).trans hb, hm, Reps.mono (fun x hx => ⟨hx, hold x hx⟩) _ (fun _ _ h => h) hv, by simp, by simp, by simp⟩⟩
      · simp only [Rep]; exact ⟨_, _, _, h5, rfl⟩
  · rename_i s hk
    rw [hk] at hu
    simp only [Option.some.injEq] at h; subst h
    simp only [Rep] at rx; subst rx
    have hrun : (Instr.range t (.string s)).run P w = .ok (.pointer (some ⟨w.heap.size, 0, none⟩)) { w with heap := w.heap.push (.stringIter s 0) } := by
      simp [Instr.range, run_und hu]
    refine does_new (w' := { w with heap := w.heap.push (.stringIter s 0) }) (ob := .stringIter s 0) O hn hg rfl rfl rfl rfl rfl (val_run hrun) (some w.heap.size) 0 0 (.inr rfl) (fun β' h4 h5 => ?_) (fun β' h4 h5 => ?_)
    · exact ⟨_, _, _, h5, by simp⟩
    · simp only [Rep]; exact ⟨_, _, _, h5, rfl⟩
  · simp at h
theorem find_born' (e : MapEntry) : ∀ (l : List MapEntry), (l.map (·.born)).Pairwise (· < ·) → e ∈ l → l.find? (·.born == e.born) = some e
  | x :: l, hn, he => by
    simp only [List.map_cons, List.pairwise_cons] at hn
    rcases List.mem_cons.1 he with rfl | h
    · simp
    · have hx : (x.born == e.born) = false := by
        have := hn.1 _ (List.mem_map.2 ⟨e, h, rfl⟩)
        simp; omega
      rw [List.find?_cons, hx]
      exact find_born' e l hn.2 h
theorem keyV_rep {h : Array Obj} {kk : Nat} {k : List Int} : Rep F h β (keyV kk k) (kval kk k) := by
  unfold keyV kval
  split
  · simp only [Rep]
  · simp only [Rep, kval]
  · simp only [Rep]
    refine ⟨k.map (Value.int .i64), by simp, ?_⟩
    exact Reps.map k fun x _ => by simp only [Rep]
theorem entryD_sound {x : D} {vx : Value} {r : AR} (O : Own W0 M0 F0 F β γ tab gen w) (h : entryD tab x = some r) (hob : r.ob)
    (rx : Rep F w.heap β x vx) : r.eff = .none ∧ ∃ v, (Instr.entry vx).run P w = .ok v w ∧ Rep F w.heap β r.d v := by
  unfold entryD at h
  split at h
  · rename_i nm
    split at h
    · rename_i kk ks z vs seen htab
      simp only [Option.some.injEq] at h; subst h
      refine ⟨rfl, ?_⟩
      simp only [Rep] at rx
      obtain ⟨b, s, cap, hβ, rfl⟩ := rx
      obtain ⟨b', s', cap', hβ', hit⟩ := O.own nm _ htab
      rw [hβ] at hβ'
      simp only [Option.some.injEq, Prod.mk.injEq] at hβ'
      obtain ⟨rfl, rfl, rfl⟩ := hβ'
      have hne : seen ≠ [] := hob
      obtain ⟨l, j, rfl⟩ : ∃ l j, seen = l ++ [j] := ⟨seen.dropLast, seen.getLast hne, (List.dropLast_concat_getLast hne).symm⟩
      have ej : ((l ++ [j]).getLast?.getD 0) = j := by simp
      simp only [ej]
      rcases hit with ⟨rfl, hb, _⟩ | ⟨mb, es, cl, st, hfg, h3, h4, h5, h6, h7, h8⟩
      · simp at hb
      · have hj : j < ks.length := h8 j (by simp)
        have hlen := okmap_len h4
        have hje : j < es.size := by simp at hlen; omega
        have hbn : ((es.toList.map (·.born)).getD j 0) = es[j].born := by simp [List.getD, hje]
        have hst : st.back? = some es[j].born := by
          have : st.toList.getLast? = some es[j].born := by rw [h7, List.map_append, List.map_cons, List.map_nil, List.getLast?_concat, hbn]
          simpa using this
        have hf : es.find? (·.born == es[j].born) = some es[j] := by
          rw [← Array.find?_toList]
          exact find_born' es[j] es.toList h4.2.2.2.2 (by simp)
        have hkj : es[j].key = kval kk (ks.getD j []) := by
          have h1 := congrArg (fun l => l[j]?) h4.1
          simp only [List.getElem?_map] at h1
          have h2 : es.toList[j]? = some es[j] := by simp [hje]
          rw [h2, List.getElem?_eq_getElem hj] at h1
          simp only [Option.map_some, Option.some.injEq] at h1
          rw [h1]; simp [List.getD, hj]
        have hjv : j < vs.length := by rw [← h5.length]; simp; exact hje
        obtain ⟨u, hu, ru⟩ := h5.get j hjv
        have eu : u = es[j].val := by
          simp only [List.getElem?_map] at hu
          have h2 : es.toList[j]? = some es[j] := by simp [hje]
          rw [h2] at hu; simpa using hu.symm
        have ed : vs.getD j z = vs[j] := by simp [List.getD, hjv]
        refine ⟨.tuple #[es[j].key, es[j].val], ?_, ?_⟩
        · simp only [Instr.entry, getObj, Sem.run_bind, Sem.run, h6, Result.andThen, hst, h3, bne_self_eq_false, Bool.false_eq_true, if_false, hf]
          rfl
        · simp only [Rep, Reps]
          refine ⟨[es[j].key, es[j].val], rfl, _, _, rfl, by rw [hkj]; exact keyV_rep, _, _, rfl, ?_, rfl⟩
          rw [ed, ← eu]
          exact Rep.mono (fun b hb => ⟨hb, rfl⟩) _ (fun _ _ h => by cases h) ru
    · simp at h
  · simp at h
theorem runeD_sound {x : D} {vx : Value} {r : AR} {nm : Nm} {ty : TypeId} (O : Own W0 M0 F0 F β γ tab gen w) (h : runeD tab x = some r)
    (rx : Rep F w.heap β x vx) : Does W0 M0 F0 F β tab gen w nm r ((do pure (.value (← Instr.next vx true ty)) : Sem Next).run P w) := by
  unfold runeD at h
  split at h
  · rename_i nm0
    split at h
    · rename_i s pos htab
      simp only [Rep] at rx
      obtain ⟨b, s0, cap, hβ, rfl⟩ := rx
      obtain ⟨b', s', cap', hβ', hb⟩ := O.own nm0 _ htab
      rw [hβ] at hβ'
      simp only [Option.some.injEq, Prod.mk.injEq] at hβ'
      obtain ⟨rfl, rfl, rfl⟩ := hβ'
      have hblt : b < w.heap.size := (Array.getElem?_eq_some_iff.1 hb).1
      split at h
      · rename_i hlt
        simp only [Option.some.injEq] at h; subst h
        have hrun : (Instr.next (.pointer (some ⟨b, 0, none⟩)) true ty).run P w = .ok (.tuple #[.bool true, .int .i64 pos, .int .i32 (Utf8.decode s pos).1]) { w with heap := w.heap.setIfInBounds b (.stringIter s (pos + (Utf8.decode s pos).2)) } := by
          simp only [Instr.next, getObj, setObj, Sem.run_bind, Sem.run, hb, Result.andThen, hlt, if_true]
          rfl
        refine does_set (w' := { w with heap := w.heap.setIfInBounds b (.stringIter s (pos + (Utf8.decode s pos).2)) }) O htab (by simp) (by simp) rfl hβ (fun i hi => by simp [Array.getElem?_setIfInBounds, Ne.symm hi]) (by simp) rfl rfl rfl (val_run hrun) (.inl rfl) ?_ ?_
        · exact ⟨b, s0, cap, hβ, by simp [hblt]⟩
        · simp only [Rep, Reps]
          exact ⟨[_, _, _], rfl, _, _, rfl, rfl, _, _, rfl, rfl, _, _, rfl, rfl, rfl⟩
      · rename_i hlt
        simp only [Option.some.injEq] at h; subst h
        have hrun : (Instr.next (.pointer (some ⟨b, 0, none⟩)) true ty).run P w = .ok (.tuple #[.bool false]) w := by
          simp only [Instr.next, getObj, Sem.run_bind, Sem.run, hb, Result.andThen, hlt, if_false]
          rfl
        refine does_val O rfl (val_run hrun) ?_
        simp only [Rep, Reps]
        exact ⟨[_], rfl, _, _, rfl, rfl, rfl⟩
    · simp at h
  · simp at h
/-- THE NEXT ENTRY OF A MAP THAT NOBODY WRITES: any that has not been there -/
theorem run_next {b mb cl : Nat} {es : Array MapEntry} {st : Array Nat} {kk : Nat} {ks : List (List Int)} {seen : List Nat} {ty : TypeId} (h3 : w.heap[mb]? = some (.map es cl)) (h4 : MapOk kk ks es cl) (h6 : w.heap[b]? = some (.mapIter (some mb) cl st cl))
    (h7 : st.toList = seen.map (fun i => (es.toList.map (·.born)).getD i 0)) (h8 : ∀ i ∈ seen, i < ks.length) :
    ((∀ i, i < ks.length → i ∈ seen) ∧ (Instr.next (.pointer (some ⟨b, 0, none⟩)) false ty).run P w = .ok (.tuple #[.bool false]) w) ∨
    ∃ i, ∃ (hi : i < es.size), i < ks.length ∧ i ∉ seen ∧ ∃ w1 : World, w1.heap = w.heap.setIfInBounds b (.mapIter (some mb) cl (st.push es[i].born) cl) ∧ w1.os = w.os ∧ w1.tape = w.tape ∧ w1.output = w.output ∧
      (Instr.next (.pointer (some ⟨b, 0, none⟩)) false ty).run P w = .ok (.tuple #[.bool true, es[i].key, es[i].val]) w1 := by
  have hlen := okmap_len h4
  have hold : ∀ x ∈ es.toList, x.born < cl := h4.2.2.2.1
  have hinj : ∀ i j (hi : i < es.size) (hj : j < es.size), es[i].born = es[j].born → i = j := fun i j hi hj e => by
    have hp := h4.2.2.2.2
    rw [List.pairwise_iff_getElem] at hp
    rcases Nat.lt_trichotomy i j with h | h | h
    · have := hp i j (by simpa using hi) (by simpa using hj) h
      simp at this; omega
    · exact h
    · have := hp j i (by simpa using hj) (by simpa using hi) h
      simp at this; omega
  have hmem : ∀ i (hi : i < es.size), es[i].born ∈ st ↔ i ∈ seen := fun i hi => by
    rw [← Array.mem_toList_iff, h7, List.mem_map]
    constructor
    · rintro ⟨j, hj, e⟩
      have hjl := h8 j hj
      have hjs : j < es.size := by simp at hlen; omega
      have : (es.toList.map (·.born)).getD j 0 = es[j].born := by simp [List.getD, hjs]
      rw [this] at e
      rw [hinj i j hi hjs e.symm]; exact hj
    · intro hs; exact ⟨i, hs, by simp [List.getD, hi]⟩
  have test : (!st.isEmpty && !es.isEmpty && es.all (fun x => decide (x.born ≥ cl))) = false := by
    cases he : es.isEmpty with
    | true => simp
    | false =>
      have hall : es.all (fun x => decide (x.born ≥ cl)) = false := by
        rw [Bool.eq_false_iff]
        intro h
        rw [Array.all_eq_true_iff_forall_mem] at h
        have h0 : 0 < es.size := by
          rcases Nat.eq_zero_or_pos es.size with h0 | h0
          · simp [Array.isEmpty, h0] at he
          · exact h0
        have h1 := h _ (Array.getElem_mem h0)
        have h2 := hold es[0] (by simp)
        simp at h1
        omega
      simp [hall]
  simp only [Instr.next, getObj, Sem.run_bind, Sem.run, h6, h3, Result.andThen, test, Bool.false_eq_true, if_false]
  have hL : ∀ x ∈ (Array.filter (fun e => !st.contains e.born) es).toList, x ∈ es.toList ∧ x.born ∉ st := fun x hx => by simp at hx ⊢; exact hx
  have hL0 : (Array.filter (fun e => !st.contains e.born) es).size = 0 → ∀ i, i < ks.length → i ∈ seen := fun h0 i hi => by
    have his : i < es.size := by simp at hlen; omega
    rw [← hmem i his]
    have : Array.filter (fun e => !st.contains e.born) es = #[] := Array.eq_empty_of_size_eq_zero h0
    rw [Array.filter_eq_empty_iff] at this
    have := this es[i] (Array.getElem_mem his)
    simpa using this
  generalize Array.filter (fun e => !st.contains e.born) es = L at hL hL0 ⊢
  have e1 : L.filter (fun x => decide (x.born < cl)) = L := Array.filter_eq_self.2 (fun x hx => by simpa using hold x (hL x (by simpa using hx)).1)
  have e2 : L.filter (fun x => decide (x.born ≥ cl)) = #[] := by
    rw [Array.filter_eq_empty_iff]
    intro x hx
    have := hold x (hL x (by simpa using hx)).1
    simp
    omega
  simp only [e1, e2, Array.append_empty]
  by_cases h0 : L.size = 0
  · left
    refine ⟨hL0 h0, ?_⟩
    have : L = #[] := Array.eq_empty_of_size_eq_zero h0
    subst this
    simp [choose, Sem.run, Question.forced]
  · right
    have hne : L.isEmpty = false := by simp [Array.isEmpty, h0]
    simp only [hne, Bool.false_eq_true, if_false, Array.empty_append, Array.size_map]
    have hch : ∃ (j : Nat) (w1 : World), j < L.size ∧ w1.heap = w.heap ∧ w1.os = w.os ∧ w1.tape = w.tape ∧ w1.output = w.output ∧ (choose (Question.mapNext L.size)).run P w = .ok j w1 := by
      by_cases hf : L.size ≤ 1
      · exact ⟨0, w, by omega, rfl, rfl, rfl, rfl, by simp [choose, Sem.run, Question.forced, hf]⟩
      · exact ⟨_, w.drew, Nat.mod_lt _ (by omega), rfl, rfl, rfl, rfl, by
          simp only [choose, Sem.run, Question.forced, decide_eq_true_eq, hf, if_false, Question.cut]
          rfl⟩
    obtain ⟨j, w1, hj, hh, ho, ht, hu, hrun⟩ := hch
    have hLj := hL L[j] (by simp)
    obtain ⟨i, hi, ei⟩ := List.getElem_of_mem hLj.1
    have hi' : i < es.size := by simpa using hi
    have ei' : es[i] = L[j] := by simpa using ei
    refine ⟨i, hi', by simp at hlen; omega, fun hs => hLj.2 (by rw [← ei']; exact (hmem i hi').2 hs), { w1 with heap := w1.heap.setIfInBounds b (.mapIter (some mb) cl (st.push L[j].born) cl) }, by rw [hh, ei'], ho, ht, hu, ?_⟩
    have h6' : w1.heap[b]? = some (.mapIter (some mb) cl st cl) := by rw [hh]; exact h6
    simp only [hrun, Array.getElem?_map, Array.getElem?_eq_getElem hj, Option.map_some, Sem.run_bind, setObj, Sem.run, h6', Result.andThen]
    rw [ei']
    rfl
end
end Go.Eng
namespace Go.Eng
set_option linter.unusedVariables false
set_option linter.unusedSimpArgs false
section
variable {P : Program} {Γ : Ctx} {W0 : World} {M0 F0 F : Nat → Prop} {β : Beta} {γ : Nm → Nat → Prop} {tab : Tab} {gen : Nat} {w : World}
theorem und_any {ti : TI} {t : TypeId} (ht : ti.ok P t) : ∃ d, P.underlying t = some d ∧ ((∀ k, ti.kind ≠ .int k) → ∀ k, d ≠ .int k) := by
  have := ht.kind
  cases hx : ti.kind <;> simp only [hx, TK.ok] at this
  case st => obtain ⟨a, ha, _⟩ := this; exact ⟨_, ha, by simp⟩
  case func => obtain ⟨a, b, c, h⟩ := this; exact ⟨_, h, by simp⟩
  case iface => obtain ⟨a, h⟩ := this; exact ⟨_, h, by simp⟩
  case other => obtain ⟨d, hd, hk⟩ := this; exact ⟨d, hd, fun _ k e => by subst e; simp at hk⟩
  all_goals exact ⟨_, this, by simp⟩

/-! ### bytes and strings -/
theorem bytesD_ints : ∀ {ys : List D} {l : List UInt8}, bytesD ys = some l → ∃ ns : List Int, ys = ns.map (fun n => D.lit (.int .u8 n)) ∧ l = ns.map fun n => UInt8.ofNat n.toNat
  | [], l, h => by simp only [bytesD, Option.some.injEq] at h; subst h; exact ⟨[], rfl, rfl⟩
  | d :: ys, l, h => by
    unfold bytesD at h
    split at h
    · simp_all
    · rename_i n r e
      simp only [List.cons.injEq] at e
      obtain ⟨rfl, rfl⟩ := e
      split at h
      · rename_i l' hl
        simp only [Option.some.injEq] at h; subst h
        obtain ⟨ns, rfl, rfl⟩ := bytesD_ints hl
        exact ⟨n :: ns, rfl, rfl⟩
      · simp at h
    · simp at h
theorem byte_cells {h : Array Obj} {c : Array Value} {off : Nat} {ns : List Int} (r : Repx F h Beta.none 1 c (ns.map fun n => D.lit (.int .u8 n)) off) (i : Nat) (hi : i < ns.length) : c[off + i]? = some (.int .u8 (ns.getD i 0)) := by
  obtain ⟨u, h1, ⟨h2, h3⟩, h4⟩ := r.get i (by simpa using hi)
  simp only [List.getElem_map, Rep] at h1
  subst h1
  have := h4 0 (by simp [Value.cells])
  simp only [Nat.mul_one, Nat.add_zero] at this
  rw [this]
  simp [Value.cells, List.getD, List.getElem?_eq_getElem hi]
theorem conv_str {src dst e : TypeId} {x : D} {vx : Value} {ys : List D} {l : List UInt8} (hs : P.underlying src = some (.slice e)) (he : P.underlying e = some (.int .u8)) (hd : P.underlying dst = some .string)
    (O : Own W0 M0 F0 F β γ tab gen w) (h : elemsD' tab 1 x = some ys) (hb : bytesD ys = some l) (hok : elemsOk tab x) (rx : Rep F w.heap β x vx) : (convert src dst vx).run P w = .ok (.string ⟨l.toArray⟩) w := by
  obtain ⟨ns, rfl, rfl⟩ := bytesD_ints hb
  have nil : ∀ (a : Option Addr) (cap : Nat), (convert src dst (.slice a 0 cap)).run P w = .ok (.string ⟨([] : List UInt8).toArray⟩) w := by
    intro a cap
    cases a with
    | none => exact run_convert_bytes_nil w src e hs he 0 cap dst hd
    | some a => exact run_convert_bytes_back w src dst e a cap [] hs he hd (fun j hj => by simp at hj)
  have row : ∀ {b off cap n : Nat} {c : Array Value} {e' fr}, w.heap[b]? = some (.cells c e' fr) → n = ns.length → Repx F w.heap Beta.none 1 c (ns.map fun n => D.lit (.int .u8 n)) off →
      (convert src dst (.slice (some ⟨b, off, none⟩) n cap)).run P w = .ok (.string ⟨(ns.map fun n => UInt8.ofNat n.toNat).toArray⟩) w := by
    intro b off cap n c e' fr hbk hn r
    subst hn
    exact run_convert_bytes_arg w src e hs he b off ns.length cap ns rfl (fun i hi => by
      simp only [World.cell?, hbk]
      exact byte_cells r i hi) dst hd
  unfold elemsD' at h
  split at h
  · rename_i t s' z xs
    split at h
    · rename_i hc
      simp only [Option.some.injEq] at h; subst h
      simp only [Rep] at rx
      rcases rx with ⟨hx, a, cap, rfl, _⟩ | ⟨b, off, cap, c, e', fr, rfl, hF, hbk, hcap, ht, hrow⟩
      · have : ns = [] := by simpa using hx
        subst this
        exact nil a cap
      · by_cases hx : ns = []
        · subst hx
          exact nil _ cap
        · have hss : s' = 1 := by
            simp only [Bool.or_eq_true, List.isEmpty_iff, beq_iff_eq, List.map_eq_nil_iff] at hc
            exact hc.resolve_left hx
          subst hss
          exact row hbk (by simp) hrow
    · simp at h
  · rename_i nm s0 o n
    split at h
    · rename_i s' z xs ht
      split at h
      · rename_i hss; subst hss
        simp only [Option.some.injEq] at h
        have hle : o + n ≤ xs.length := by
          have := hok; unfold elemsOk at this; simpa [ht] using this
        have hyl : ns.length = n := by have := congrArg List.length h; simp at this; omega
        obtain ⟨bo, cap, hβ, hbo, hcells⟩ := O.own nm _ ht
        simp only [Rep] at rx
        rcases rx with ⟨a, rfl, rfl⟩ | ⟨b, cap', hβ', rfl, hle'⟩
        · have : ns = [] := List.eq_nil_of_length_eq_zero hyl
          subst this
          exact nil a 0
        · rw [hβ] at hβ'
          simp only [Option.some.injEq, Prod.mk.injEq] at hβ'
          obtain ⟨rfl, rfl, rfl⟩ := hβ'
          obtain ⟨hnG, c, e', hbk, hcs, hcl, hrow⟩ := hcells b rfl
          have hrow' := hrow.take_drop o n
          rw [h] at hrow'
          simp only [Nat.zero_add, Bool.false_eq_true, if_false] at hrow'
          exact row hbk hyl.symm hrow'
      · simp at h
    · simp at h
  · simp at h
theorem byte_und {e : TypeId} {ei : TI} (he : ei.ok P e) (hb : ei.kind.isByte = true) : P.underlying e = some (.int .u8) := by
  have := he.kind
  unfold TK.isByte at hb
  split at hb
  · rename_i hk; rw [hk] at this; exact this
  · simp at hb
theorem conv_bytes {src dst e : TypeId} {s : ByteArray} {nm : Nm} {r : AR} (hs : P.underlying src = some .string) (hd : P.underlying dst = some (.slice e)) (he : P.underlying e = some (.int .u8))
    (O : Own W0 M0 F0 F β γ tab gen w) (hr : r = ⟨True, .sl false 1 (.lit (.int .u8 0)) (s.toList.map fun c => .lit (.int .u8 c.toNat)), .frz⟩) :
    Does W0 M0 F0 F β tab gen w nm r ((do pure (.value (← convert src dst (.string s))) : Sem Next).run P w) := by
  subst hr
  have hrun := run_bytes_of_string (P := P) w src dst e s hs hd he
  have hge := grownCap_ge w s.size 0 e
  have hl : s.size = (s.toList.map fun c => (D.lit (.int .u8 c.toNat) : D)).length := by rw [List.length_map, ByteArray.toList_eq]; exact Array.length_toList.symm
  refine ⟨w.drew.alloc (.cells (bytesRow s (grownCap w s.size 0 e)) e ((bytesRow s (grownCap w s.size 0 e)).size, (bytesRow s (grownCap w s.size 0 e)).size + 1)), fun b => F b ∨ b = w.heap.size, β, γ, _, _, val_run hrun, .inl rfl, ?_, fun b hb => ⟨.inl hb, heap_alloc_old w.drew _ b (O.Flt b hb)⟩, fun _ _ h => h, ?_⟩
  · simp only [applyE]
    refine O.frz (w' := w.drew.alloc _) (fun b hb => heap_alloc_old w.drew _ b hb) (by simp) rfl rfl rfl (F' := fun b => F b ∨ b = w.heap.size) (fun b hb => .inl hb) (fun b hb => by
      rcases hb with hb | hb
      · exact .inl hb
      · subst hb; exact .inr ⟨Nat.le_refl _, by simp⟩)
  · simp only [Rep]
    refine .inr ⟨w.heap.size, 0, _, _, _, _, by rw [← hl], .inr rfl, heap_alloc_new w.drew _, by rw [← hl]; exact hge, (fun h => by cases h), ?_⟩
    refine Repx.of_get fun i hi => ?_
    simp only [List.length_map] at hi
    refine ⟨.int .u8 (s.toList[i]).toNat, by simp [Rep], ⟨by simp [okD, oneD, Value.oneCell'], rfl⟩, fun j hj => ?_⟩
    have : j = 0 := by simp [Value.cells] at hj; exact hj
    subst this
    have hi2 : i < s.data.size := by rw [ByteArray.toList_eq] at hi; simpa using hi
    simp only [Nat.zero_add, Nat.mul_one, Nat.add_zero, bytesRow, ByteArray.toList_eq]
    rw [Array.getElem?_append_left (by simpa using hi2)]
    simp [Value.cells]
    exact ⟨_, Array.getElem?_eq_getElem hi2, rfl⟩

set_option maxHeartbeats 2000000 in
theorem aval_sound {m : Bool} {nm : Nm} {o : Oper} {ρ : Operand → D} {ρv : Operand → Value} {r : AR} (hρc : ∀ v, ρv (.const v) = v) (hΓ : Γ.ok P) (O : Own W0 M0 F0 F β γ tab gen w)
    (hn : r.eff = .none ∨ r.eff = .frz ∨ (∃ n o, r.eff = .set n o) ∨ (∃ d n o, r.eff = .put d n o) ∨ tab.get nm = none) (hg : nm.2 = gen)
    (hρ : ∀ x ∈ o.op.operands, Rep F w.heap β (ρ x) (ρv x)) (h : aval Γ m tab nm ρ o.op = some r) (hob : r.ob) :
    Does W0 M0 F0 F β tab gen w nm r ((execOp ρv o).run P w) := by
  have fin : ∀ {s : Sem Value}, (r.eff = .none ∧ ∃ v, s.run P w = .ok v w ∧ Rep F w.heap β r.d v) → Does W0 M0 F0 F β tab gen w nm r ((do pure (.value (← s)) : Sem Next).run P w) := by
    intro s ⟨h1, v, h2, h3⟩
    exact does_val O h1 (val_run h2) h3
  have fresh : ∀ {oo}, r.eff = .new oo → tab.get nm = none := by
    intro oo he
    rcases hn with h | h | ⟨_, _, h⟩ | ⟨_, _, _, h⟩ | h
    · rw [he] at h; cases h
    · rw [he] at h; cases h
    · rw [he] at h; cases h
    · rw [he] at h; cases h
    · exact h
  have fresha : ∀ {dd oo}, r.eff = .app dd oo → tab.get nm = none := by
    intro dd oo he
    rcases hn with h | h | ⟨_, _, h⟩ | ⟨_, _, _, h⟩ | h
    · rw [he] at h; cases h
    · rw [he] at h; cases h
    · rw [he] at h; cases h
    · rw [he] at h; cases h
    · exact h
  have boxe : ∀ {d r}, newBox nm d = some r → ∃ oo, r.eff = .new oo := by
    intro d r h; unfold newBox at h; split at h
    · simp only [Option.some.injEq] at h; subst h; exact ⟨_, rfl⟩
    · simp at h
  unfold execOp
  unfold aval at h
  split at h <;> first | (simp only [reduceCtorEq] at h; done) | (rename_i hop; rw [hop] at hρ; simp only [Op.operands] at hρ; simp only [hop])
  · obtain ⟨e1, e2⟩ := okR_some h
    exact does_val O e1 rfl (by rw [e2]; exact hρ _ (by simp))
  · obtain ⟨e1, e2⟩ := okR_some h
    exact does_val O e1 rfl (by rw [e2]; exact hρ _ (by simp))
  · unfold binE at h
    split at h
    · rename_i hy
      obtain ⟨i, j, rfl⟩ := isNilC_spec hy
      rw [hρc]
      exact fin (cmpNil_sound hΓ h (hρ _ (by simp)))
    · refine fin (binD_sound hΓ (fun hc => ?_) h hob (hρ _ (by simp)) (hρ _ (by simp)))
      rename_i b t x y yt _
      cases x <;> cases y <;> simp at hc ⊢
  · exact fin (unD_sound h hob (hρ _ (by simp)))
  · obtain ⟨oo, he⟩ := boxe h
    have := newBox_sound (e := by assumption) O (fresh he) hg h (hρ _ (by simp))
    exact this
  · split at h
    · rename_i ti hti
      obtain ⟨oo, he⟩ := boxe h
      have hto := Ctx.get_ok hΓ hti
      have := newBox_sound (e := by assumption) O (fresh he) hg h (hto.zok.2.2.2.2 F w.heap β)
      simpa [Instr.alloc, hto.run_zero, newVar, newRow] using this
    · simp at h
  · split at h
    · rename_i ti hti
      exact fin (buildD_sound (ρv := ρv) hΓ (Ctx.get_ok hΓ hti) h fun p hp => hρ _ (by simp; exact ⟨p.1, by simpa using hp⟩))
    · simp at h
  · split at h
    · rename_i ti hti
      exact fin (loadD_sound (nm := nm) (Ctx.get_ok hΓ hti) O h hob (hρ _ (by simp)))
    · simp at h
  · split at h
    · rename_i ti hti
      exact storeD_sound (Ctx.get_ok hΓ hti) O h hob (hρ _ (by simp)) (hρ _ (by simp))
    · simp at h
  · split at h
    · rename_i ti hti
      exact fin (fieldAddrD_sound hΓ (Ctx.get_ok hΓ hti) h (hρ _ (by simp)))
    · simp at h
  · split at h
    · rename_i ti hti
      exact fin (fieldD_sound hΓ (Ctx.get_ok hΓ hti) h (hρ _ (by simp)))
    · simp at h
  · rename_i x i
    split at h
    · rename_i ds hx
      split at h
      · rename_i d hd
        obtain ⟨e1, e2⟩ := okR_some h
        have rx := hρ x (by simp)
        rw [hx] at rx
        simp only [Rep] at rx
        obtain ⟨vs, hv, hr⟩ := rx
        obtain ⟨hlt, he⟩ := List.getElem?_eq_some_iff.1 hd
        obtain ⟨u, hu, ru⟩ := hr.get i hlt
        refine fin ⟨e1, u, ?_, by rw [e2, ← he]; exact ru⟩
        simp [Instr.extract, hv, hu]
      · simp at h
    · simp at h
  · split at h
    · rename_i ti hti
      exact fin (indexAddrD_sound hΓ (Ctx.get_ok hΓ hti) O h hob (hρ _ (by simp)) (hρ _ (by simp)))
    · simp at h
  · split at h
    · rename_i ti hti
      exact fin (indexD_sound hΓ (Ctx.get_ok hΓ hti) h hob (hρ _ (by simp)) (hρ _ (by simp)))
    · simp at h
  · split at h
    · rename_i src dst x _ _ si di hsi hdi
      have hdk := (Ctx.get_ok hΓ hdi).kind
      have hsk := (Ctx.get_ok hΓ hsi).kind
      unfold convD at h
      split at h
      · rename_i k hk
        split at h
        · rename_i k' n hx
          obtain ⟨e1, e2⟩ := intRes_sound h hob
          have rx := hρ x (by simp)
          rw [hx] at rx
          simp only [Rep] at rx
          have hud : P.underlying dst = some (.int k) := by rw [hk] at hdk; exact hdk
          obtain ⟨d, hd, _⟩ := und_any (Ctx.get_ok hΓ hsi)
          refine fin ⟨e1, .int k (k.wrap n), ?_, rep_of_lit e2⟩
          rw [rx]
          simp [convert, run_und hd, run_und hud, Conv.intToInt]
        · simp at h
      · rename_i hk
        rw [hk] at hdk
        split at h
        · rename_i e hks
          rw [hks] at hsk
          split at h
          · rename_i ei hei
            split at h
            · rename_i hbt
              split at h
              · rename_i ys hys
                split at h
                · rename_i l hl
                  simp only [Option.some.injEq] at h; subst h
                  exact fin ⟨rfl, _, conv_str hsk (byte_und (Ctx.get_ok hΓ hei) hbt) hdk O hys hl hob (hρ x (by simp)), by simp only [Rep]⟩
                · simp at h
              · simp at h
            · simp at h
          · simp at h
        · simp at h
      · rename_i e hk
        rw [hk] at hdk
        split at h
        · rename_i hks
          rw [hks] at hsk
          split at h
          · rename_i ei hei
            split at h
            · rename_i hbt
              split at h
              · rename_i s hx
                simp only [Option.some.injEq] at h
                have rx := hρ x (by simp)
                rw [hx] at rx
                simp only [Rep] at rx
                rw [rx]
                exact conv_bytes hsk hdk (byte_und (Ctx.get_ok hΓ hei) hbt) O h.symm
              · simp at h
            · simp at h
          · simp at h
        · simp at h
      · simp at h
    · simp at h
  · split at h
    · rename_i ti hti
      split at h
      · rename_i hc
        obtain ⟨e1, e2⟩ := okR_some h
        refine fin ⟨e1, _, run_makeInterface w _ _ (concrete_ok (Ctx.get_ok hΓ hti) hc), ?_⟩
        rw [e2]; simp only [Rep]; exact ⟨_, rfl, hρ _ (by simp)⟩
      · simp at h
    · simp at h
  · rename_i fn fs cs
    obtain ⟨e1, e2⟩ := okR_some h
    refine fin ⟨e1, .func fn (fs.map ρv) (cs.map ρv), by simp [Instr.makeFunc], ?_⟩
    rw [e2]; simp only [Rep]
    refine ⟨fs.toList.map ρv, cs.toList.map ρv, by simp [← Array.toList_map], Reps.map _ fun x hx => hρ x (by simp; left; simpa using hx), Reps.map _ fun x hx => hρ x (by simp; right; simpa using hx)⟩
  · split at h
    · rename_i ti hti
      split at h
      · rename_i e hk
        split at h
        · rename_i ei hei
          have hu := (Ctx.get_ok hΓ hti).kind
          rw [hk] at hu
          have hf : r.eff = .frz ∨ tab.get nm = none := by
            have h' := h
            unfold buildSliceD at h'
            split at h'
            · split at h'
              · split at h'
                · simp only [Option.some.injEq] at h'; subst h'; exact .inl rfl
                · simp only [Option.some.injEq] at h'; subst h'; exact .inr (fresh rfl)
              · simp only [Option.some.injEq] at h'; subst h'; exact .inl rfl
            · simp at h'
          exact buildSliceD_sound (ρv := ρv) hu (Ctx.get_ok hΓ hei) O hf hg h fun p hp => hρ _ (by simp; exact ⟨p.1, by simpa using hp⟩)
        · simp at h
      · simp at h
    · simp at h
  · split at h
    · rename_i ti hti
      split at h
      · rename_i e hk
        split at h
        · rename_i ei hei
          have hu := (Ctx.get_ok hΓ hti).kind
          rw [hk] at hu
          have he : ∃ oo, r.eff = .new oo := by
            have h' := h
            unfold makeSliceD at h'
            split at h'
            · split at h'
              · simp only [Option.some.injEq] at h'; subst h'; exact ⟨_, rfl⟩
              · simp at h'
            · simp at h'
          obtain ⟨oo, he⟩ := he
          exact makeSliceD_sound hu (Ctx.get_ok hΓ hei) O (fresh he) hg h hob (hρ _ (by simp)) (hρ _ (by simp))
        · simp at h
      · simp at h
    · simp at h
  · rename_i t x
    split at h
    · rename_i ti hti
      have he : ∃ oo, r.eff = .new oo := by
        have h' := h
        unfold makeMapD at h'
        repeat' first
          | (simp only [reduceCtorEq] at h'; done)
          | (simp only [Option.some.injEq] at h'; subst h'; exact ⟨_, rfl⟩)
          | split at h'
      obtain ⟨oo, he⟩ := he
      exact makeMapD_sound hΓ (Ctx.get_ok hΓ hti) O (fresh he) hg h (fun y hy => hρ y (by subst hy; simp))
    · simp at h
  · split at h
    · rename_i ti hti
      split at h
      · split at h
        · rename_i hok
          subst hok
          refine lookrD_sound hΓ (Ctx.get_ok hΓ hti) O ?_ hg h (hρ _ (by simp)) (hρ _ (by simp))
          rcases hn with h' | h' | ⟨_, _, h'⟩ | ⟨_, _, _, h'⟩ | h'
          · exact .inl h'
          · rcases lookrD_eff h with e | ⟨_, _, _, e⟩ <;> rw [e] at h' <;> cases h'
          · rcases lookrD_eff h with e | ⟨_, _, _, e⟩ <;> rw [e] at h' <;> cases h'
          · rcases lookrD_eff h with e | ⟨_, _, _, e⟩ <;> rw [e] at h' <;> cases h'
          · exact .inr h'
        · simp at h
      · exact fin (lookupD_sound hΓ (Ctx.get_ok hΓ hti) O h (hρ _ (by simp)) (hρ _ (by simp)))
    · simp at h
  · split at h
    · rename_i ti hti
      have he : ∃ oo, r.eff = .new oo := by
        have h' := h
        unfold rangeD at h'
        repeat' first
          | (simp only [reduceCtorEq] at h'; done)
          | (simp only [Option.some.injEq] at h'; subst h'; exact ⟨_, rfl⟩)
          | split at h'
      obtain ⟨oo, he⟩ := he
      exact rangeD_sound (Ctx.get_ok hΓ hti) O (fresh he) hg h (hρ _ (by simp))
    · simp at h
  · exact fin (entryD_sound O h hob (hρ _ (by simp)))
  · split at h
    · rename_i hs
      subst hs
      exact runeD_sound O h (hρ _ (by simp))
    · simp at h
  · split at h
    · rename_i ti hti
      exact mapUpdateD_sound hΓ (Ctx.get_ok hΓ hti) O h hob (hρ _ (by simp)) (hρ _ (by simp)) (hρ _ (by simp))
    · simp at h
  · split at h
    · rename_i t x lo hi mx ti hti
      refine fin (sliceD_sound hΓ (Ctx.get_ok hΓ hti) h hob (hρ _ (by simp)) (fun y hy => hρ y (by simp [hy])) (fun y hy => hρ y (by simp [hy])) (fun y hy => hρ y (by simp [hy])))
    · simp at h
  · split at h
    · rename_i ti hti
      split at h
      · rename_i hc
        exact fin (assertD_sound (Ctx.get_ok hΓ hti) hc h (hρ _ (by simp)))
      · simp at h
    · simp at h
  · rename_i x
    have rx := hρ x (by simp)
    split at h <;> first | (simp only [reduceCtorEq] at h; done) | skip
    · rename_i d hx
      obtain ⟨e1, e2⟩ := okR_some h
      rw [hx] at rx; have rx' := rx
      simp only [Rep] at rx
      obtain ⟨b, off, c, e, fr, u, hv, _⟩ := rx
      exact does_val O e1 (v := ρv x) (by rw [hv]; simp) (by rw [e2]; exact rx')
    · rename_i n of hx
      obtain ⟨e1, e2⟩ := okR_some h
      rw [hx] at rx; have rx' := rx
      simp only [Rep] at rx
      obtain ⟨b, s, cap, _, hv⟩ := rx
      exact does_val O e1 (v := ρv x) (by rw [hv]; simp) (by rw [e2]; exact rx')
    · rename_i n i of hx
      obtain ⟨e1, e2⟩ := okR_some h
      rw [hx] at rx; have rx' := rx
      simp only [Rep] at rx
      obtain ⟨b, s, cap, _, hv⟩ := rx
      exact does_val O e1 (v := ρv x) (by rw [hv]; simp) (by rw [e2]; exact rx')
    · rename_i f a b hx
      obtain ⟨e1, e2⟩ := okR_some h
      rw [hx] at rx; have rx' := rx
      simp only [Rep] at rx
      obtain ⟨vf, vc, hv, _⟩ := rx
      exact does_val O e1 (v := ρv x) (by rw [hv]; simp) (by rw [e2]; exact rx')
  · rename_i c
    split at h
    · rename_i hcal
      split at h
      · rename_i x t hargs htys
        have e1 : c.args = #[x] := by apply Array.ext'; simpa using hargs
        have e2 : c.argTypes = #[t] := by apply Array.ext'; simpa using htys
        have hl : r.eff = .none ∧ ∃ v, (Builtin.len_ #[t] o.type #[ρv x]).run P w = .ok v w ∧ Rep F w.heap β r.d v := by
          split at h
          · rename_i r' hr'
            simp only [Option.some.injEq] at h; subst h
            exact lenD_sound (P := P) (w := w) (ty := o.type) (vx := ρv x) hΓ hr' (hρ _ (by simp [Call.operands, e1]))
          · exact lenM_sound (P := P) (ty := o.type) hΓ O h (hρ _ (by simp [Call.operands, e1]))
        have := fin hl
        simpa [resolve, hcal, e1, e2, invoke, builtin] using this
      · simp at h
    · rename_i hcal
      split at h
      · rename_i x t hargs htys
        have e1 : c.args = #[x] := by apply Array.ext'; simpa using hargs
        have e2 : c.argTypes = #[t] := by apply Array.ext'; simpa using htys
        have hl := capD_sound (P := P) (w := w) (ty := o.type) (vx := ρv x) hΓ h (hρ _ (by simp [Call.operands, e1]))
        have := fin hl
        simpa [resolve, hcal, e1, e2, invoke, builtin] using this
      · simp at h
    · rename_i hcal
      split at h
      · rename_i x y t u hargs htys
        have e1 : c.args = #[x, y] := by apply Array.ext'; simpa using hargs
        have e2 : c.argTypes = #[t, u] := by apply Array.ext'; simpa using htys
        split at h
        · rename_i ti ui hti hui
          split at h
          · rename_i e uk hk huk
            split at h
            · rename_i ei hei
              have hu := (Ctx.get_ok hΓ hti).kind
              rw [hk] at hu
              have hku := (Ctx.get_ok hΓ hui).kind
              rw [huk] at hku
              have he : ∃ dd oo, r.eff = .app dd oo := by
                have h' := h
                unfold appendMakeD at h'
                repeat' first
                  | (simp only [reduceCtorEq] at h'; done)
                  | (simp only [Option.some.injEq] at h'; subst h'; exact ⟨_, _, rfl⟩)
                  | split at h'
              obtain ⟨dd, oo, he⟩ := he
              have := appendMakeD_sound (P := P) (ty := o.type) hu hku (Ctx.get_ok hΓ hei) O (fresha he) hg h hob (hρ x (by simp [Call.operands, e1])) (hρ y (by simp [Call.operands, e1]))
              simpa [resolve, hcal, e1, e2, invoke, builtin] using this
            · simp at h
          · rename_i e uk hk hni
            split at h
            · rename_i ei hei
              have hu := (Ctx.get_ok hΓ hti).kind
              rw [hk] at hu
              obtain ⟨d, hd, hdi⟩ := und_any (Ctx.get_ok hΓ hui)
              have he : ∃ dd oo, r.eff = .app dd oo := by
                have h' := h
                unfold appendD at h'
                repeat' first
                  | (simp only [reduceCtorEq] at h'; done)
                  | (simp only [Option.some.injEq] at h'; subst h'; exact ⟨_, _, rfl⟩)
                  | split at h'
              obtain ⟨dd, oo, he⟩ := he
              have := appendD_sound (P := P) (ty := o.type) hu hd (hdi fun k e => hni k e) (Ctx.get_ok hΓ hei) O (fresha he) hg h hob (hρ x (by simp [Call.operands, e1])) (hρ y (by simp [Call.operands, e1]))
              simpa [resolve, hcal, e1, e2, invoke, builtin] using this
            · simp at h
          · simp at h
        · simp at h
      · simp at h
    · rename_i hcal
      split at h
      · rename_i x y t u hargs htys
        have e1 : c.args = #[x, y] := by apply Array.ext'; simpa using hargs
        have e2 : c.argTypes = #[t, u] := by apply Array.ext'; simpa using htys
        split at h
        · rename_i ti hti
          split at h
          · rename_i e hk
            split at h
            · rename_i ei hei
              have hu := (Ctx.get_ok hΓ hti).kind
              rw [hk] at hu
              have := copyD_sound (P := P) (u := u) (ty := o.type) (nm := nm) hu (Ctx.get_ok hΓ hei) O h hob (hρ x (by simp [Call.operands, e1])) (hρ y (by simp [Call.operands, e1]))
              simpa [resolve, hcal, e1, e2, invoke, builtin] using this
            · simp at h
          · simp at h
        · simp at h
      · simp at h
    · rename_i hcal
      split at h
      · rename_i x t hargs htys
        have e1 : c.args = #[x] := by apply Array.ext'; simpa using hargs
        have e2 : c.argTypes = #[t] := by apply Array.ext'; simpa using htys
        split at h
        · rename_i ti hti
          split at h
          · rename_i e hk
            split at h
            · rename_i ei hei
              have hu := (Ctx.get_ok hΓ hti).kind
              rw [hk] at hu
              have := clearD_sound (P := P) (ty := o.type) (nm := nm) hu (Ctx.get_ok hΓ hei) O h hob (hρ x (by simp [Call.operands, e1]))
              simpa [resolve, hcal, e1, e2, invoke, builtin] using this
            · simp at h
          · simp at h
        · simp at h
      · simp at h
    · rename_i hcal
      split at h
      · rename_i x i t u hargs htys
        have e1 : c.args = #[x, i] := by apply Array.ext'; simpa using hargs
        have e2 : c.argTypes = #[t, u] := by apply Array.ext'; simpa using htys
        split at h
        · rename_i ti hti
          have := deleteD_sound (P := P) (ty := o.type) (ty2 := u) (nm := nm) hΓ (Ctx.get_ok hΓ hti) O h (hρ x (by simp [Call.operands, e1])) (hρ i (by simp [Call.operands, e1]))
          simpa [resolve, hcal, e1, e2, invoke, builtin] using this
        · simp at h
      · simp at h
    · simp at h
end
end Go.Eng
namespace Go.Eng
set_option linter.unusedVariables false
set_option linter.unusedSimpArgs false

/-! ### names -/
mutual
def namesD : D → List Nm
  | .ptr nm _ => [nm]
  | .elp nm _ _ => [nm]
  | .own nm _ _ _ => [nm]
  | .mp nm => [nm]
  | .it nm => [nm]
  | .agg cs => namesDs cs
  | .tup cs => namesDs cs
  | .sx _ xs => namesDs xs
  | .fn _ fs cs => namesDs fs ++ namesDs cs
  | .iface _ d => namesD d
  | .whn _ d => namesD d
  | .el d => namesD d
  | .lit _ => []
  | .any => []
  | .sl .. => []
  | .fm .. => []
def namesDs : List D → List Nm
  | [] => []
  | d :: ds => namesD d ++ namesDs ds
end
mutual
def renD (ρ : Nm → Nm) : D → D
  | .ptr nm o => .ptr (ρ nm) o
  | .elp nm i o => .elp (ρ nm) i o
  | .own nm s o n => .own (ρ nm) s o n
  | .mp nm => .mp (ρ nm)
  | .it nm => .it (ρ nm)
  | .agg cs => .agg (renDs ρ cs)
  | .tup cs => .tup (renDs ρ cs)
  | .sx s xs => .sx s (renDs ρ xs)
  | .fn f fs cs => .fn f (renDs ρ fs) (renDs ρ cs)
  | .iface t d => .iface t (renD ρ d)
  | .whn g d => .whn g (renD ρ d)
  | .el d => .el (renD ρ d)
  | .lit v => .lit v
  | .any => .any
  | .sl t s z xs => .sl t s z xs
  | .fm kk ks z vs => .fm kk ks z vs
def renDs (ρ : Nm → Nm) : List D → List D
  | [] => []
  | d :: ds => renD ρ d :: renDs ρ ds
end
theorem renDs_map (ρ : Nm → Nm) : ∀ ds, renDs ρ ds = ds.map (renD ρ)
  | [] => rfl
  | d :: ds => by simp only [renDs, List.map_cons, renDs_map ρ ds]
theorem oneD_ren (ρ : Nm → Nm) (d : D) : oneD (renD ρ d) = oneD d := by cases d <;> simp only [renD, oneD]
theorem okD_ren (ρ : Nm → Nm) (d : D) : okD (renD ρ d) = okD d := by
  cases d <;> simp only [renD, okD, oneD]
  case agg cs => rw [renDs_map, List.all_map]; congr 1; funext d; exact oneD_ren ρ d
mutual
theorem Rep.ren {F : Nat → Prop} {h : Array Obj} {β β' : Beta} {ρ : Nm → Nm} : ∀ (d : D) {v : Value}, (∀ nm ∈ namesD d, ∀ x, β nm = some x → β' (ρ nm) = some x) → Rep F h β d v → Rep F h β' (renD ρ d) v
  | .lit u, _, _, r => by simpa only [Rep, renD] using r
  | .any, _, _, r => by simp only [Rep, renD]
  | .agg cs, _, hn, r => by
    simp only [Rep, renD, namesD] at r hn ⊢
    obtain ⟨vs, e, r⟩ := r
    exact ⟨vs, e, Reps.ren cs hn r⟩
  | .tup cs, _, hn, r => by
    simp only [Rep, renD, namesD] at r hn ⊢
    obtain ⟨vs, e, r⟩ := r
    exact ⟨vs, e, Reps.ren cs hn r⟩
  | .sl .., _, _, r => by simpa only [Rep, renD] using r
  | .sx s xs, _, hn, r => by
    simp only [Rep, renD, namesD] at r hn ⊢
    have hl : (renDs ρ xs).length = xs.length := by rw [renDs_map, List.length_map]
    rcases r with ⟨rfl, a, e⟩ | ⟨b, off, c, e, fr, h1, h2, h3, h6⟩
    · exact .inl ⟨rfl, a, e⟩
    · exact .inr ⟨b, off, c, e, fr, by rw [hl]; exact h1, h2, h3, Repx.ren xs hn h6⟩
  | .el d, _, hn, r => by
    simp only [Rep, renD, namesD] at r hn ⊢
    obtain ⟨b, off, c, e, fr, u, h1, h2, h3, h4, h5⟩ := r
    exact ⟨b, off, c, e, fr, u, h1, h2, h3, Rep.ren d hn h4, h5⟩
  | .ptr nm o, _, hn, r => by
    simp only [Rep, renD, namesD] at r hn ⊢
    obtain ⟨b, s, cap, h1, h2⟩ := r
    exact ⟨b, s, cap, hn nm (by simp) _ h1, h2⟩
  | .elp nm i o, _, hn, r => by
    simp only [Rep, renD, namesD] at r hn ⊢
    obtain ⟨b, s, cap, h1, h2⟩ := r
    exact ⟨b, s, cap, hn nm (by simp) _ h1, h2⟩
  | .own nm s o n, _, hn, r => by
    simp only [Rep, renD, namesD] at r hn ⊢
    rcases r with r | ⟨b, cap, h1, h2⟩
    · exact .inl r
    · exact .inr ⟨b, cap, hn nm (by simp) _ h1, h2⟩
  | .mp nm, _, hn, r => by
    simp only [Rep, renD, namesD] at r hn ⊢
    obtain ⟨b, s, cap, h1, h2⟩ := r
    exact ⟨b, s, cap, hn nm (by simp) _ h1, h2⟩
  | .it nm, _, hn, r => by
    simp only [Rep, renD, namesD] at r hn ⊢
    obtain ⟨b, s, cap, h1, h2⟩ := r
    exact ⟨b, s, cap, hn nm (by simp) _ h1, h2⟩
  | .fm .., _, _, r => by simpa only [Rep, renD] using r
  | .fn f fs cs, _, hn, r => by
    simp only [Rep, renD, namesD] at r hn ⊢
    obtain ⟨vf, vc, e, r1, r2⟩ := r
    exact ⟨vf, vc, e, Reps.ren fs (fun nm hm => hn nm (by simp [hm])) r1, Reps.ren cs (fun nm hm => hn nm (by simp [hm])) r2⟩
  | .iface t d, _, hn, r => by
    simp only [Rep, renD, namesD] at r hn ⊢
    obtain ⟨u, e, r⟩ := r
    exact ⟨u, e, Rep.ren d hn r⟩
  | .whn g d, _, hn, r => by
    simp only [Rep, renD, namesD] at r hn ⊢
    exact ⟨fun hg => Rep.ren d hn (r.1 hg), r.2⟩
theorem Reps.ren {F : Nat → Prop} {h : Array Obj} {β β' : Beta} {ρ : Nm → Nm} : ∀ (ds : List D) {vs : List Value}, (∀ nm ∈ namesDs ds, ∀ x, β nm = some x → β' (ρ nm) = some x) → Reps F h β ds vs → Reps F h β' (renDs ρ ds) vs
  | [], _, _, r => by simpa only [Reps, renDs] using r
  | d :: ds, _, hn, r => by
    simp only [Reps, renDs, namesDs] at r hn ⊢
    obtain ⟨v, vs', e, r1, r2⟩ := r
    exact ⟨v, vs', e, Rep.ren d (fun nm hm => hn nm (by simp [hm])) r1, Reps.ren ds (fun nm hm => hn nm (by simp [hm])) r2⟩
theorem Repx.ren {F : Nat → Prop} {h : Array Obj} {β β' : Beta} {ρ : Nm → Nm} : ∀ (ds : List D) {s : Nat} {c : Array Value} {off : Nat}, (∀ nm ∈ namesDs ds, ∀ x, β nm = some x → β' (ρ nm) = some x) → Repx F h β s c ds off → Repx F h β' s c (renDs ρ ds) off
  | [], _, _, _, _, r => by simp only [Repx, renDs]
  | d :: ds, _, _, _, hn, r => by
    simp only [Repx, renDs, namesDs] at r hn ⊢
    obtain ⟨⟨u, r1, r2, r3⟩, r4⟩ := r
    exact ⟨⟨u, Rep.ren d (fun nm hm => hn nm (by simp [hm])) r1, ⟨by rw [okD_ren]; exact r2.1, r2.2⟩, r3⟩, Repx.ren ds (fun nm hm => hn nm (by simp [hm])) r4⟩
end
def namesO : OO → List Nm
  | .box d => namesD d
  | _ => []
def renO (ρ : Nm → Nm) : OO → OO
  | .box d => .box (renD ρ d)
  | o => o
theorem renO_dead {ρ : Nm → Nm} {o : OO} : renO ρ o = .dead ↔ o = .dead := by cases o <;> simp [renO]
theorem OwnOK.ren {F : Nat → Prop} {h : Array Obj} {β β' : Beta} {G : Nat → Prop} {ρ : Nm → Nm} {nm : Nm} {o : OO} (hn : ∀ n ∈ namesO o, ∀ x, β n = some x → β' (ρ n) = some x) (h0 : o ≠ .dead → ∀ x, β nm = some x → β' (ρ nm) = some x) (H : OwnOK F h β G nm o) :
    OwnOK F h β' G (ρ nm) (renO ρ o) := by
  cases o with
  | dead => exact True.intro
  | box d =>
    obtain ⟨b, s, cap, e, v, h1, h2, h3, h4⟩ := H
    exact ⟨b, s, cap, e, v, h0 (by simp) _ h1, h2, by rw [okD_ren]; exact h3, Rep.ren d hn h4⟩
  | arr p s z xs =>
    obtain ⟨bo, cap, h1, h2, h3⟩ := H
    exact ⟨bo, cap, h0 (by simp) _ h1, h2, h3⟩
  | map kk ks z vs =>
    obtain ⟨b, s, cap, es, cl, h1, h2, h3, h4⟩ := H
    exact ⟨b, s, cap, es, cl, h0 (by simp) _ h1, h2, h3, h4⟩
  | rmap kk ks s z rows hole =>
    obtain ⟨b, s', cap, es, cl, bl, h1, h2⟩ := H
    exact ⟨b, s', cap, es, cl, bl, h0 (by simp) _ h1, h2⟩
  | sit s pos =>
    obtain ⟨b, s', cap, h1, h2⟩ := H
    exact ⟨b, s', cap, h0 (by simp) _ h1, h2⟩
  | mit kk ks z vs seen =>
    obtain ⟨b, s, cap, h1, h2⟩ := H
    exact ⟨b, s, cap, h0 (by simp) _ h1, h2⟩

/-! ### what holds of any frozen memory -/
mutual
def flatD : D → Bool
  | .lit _ | .any | .ptr .. | .elp .. | .own .. | .mp _ | .it _ => true
  | .sl _ _ _ xs => xs.isEmpty
  | .sx _ xs => xs.isEmpty
  | .el _ | .fm .. => false
  | .agg cs => flatDs cs
  | .tup cs => flatDs cs
  | .fn _ fs cs => flatDs fs && flatDs cs
  | .iface _ d => flatD d
  | .whn _ d => flatD d
def flatDs : List D → Bool
  | [] => true
  | d :: ds => flatD d && flatDs ds
end
mutual
theorem Rep.flat {F F' : Nat → Prop} {h : Array Obj} {β : Beta} : ∀ (d : D) {v : Value}, flatD d = true → Rep F h β d v → Rep F' h β d v
  | .lit u, _, _, r => by simpa only [Rep] using r
  | .any, _, _, r => by simp only [Rep]
  | .agg cs, _, p, r => by
    simp only [Rep, flatD] at r p ⊢
    obtain ⟨vs, e, r⟩ := r
    exact ⟨vs, e, Reps.flat cs p r⟩
  | .tup cs, _, p, r => by
    simp only [Rep, flatD] at r p ⊢
    obtain ⟨vs, e, r⟩ := r
    exact ⟨vs, e, Reps.flat cs p r⟩
  | .sl t s z xs, _, p, r => by
    simp only [Rep, flatD, List.isEmpty_iff] at r p ⊢
    subst p
    rcases r with r | ⟨b, off, cap, c, e, fr, h1, h2, h3, h4, h5, h6⟩
    · exact .inl r
    · exact .inl ⟨rfl, _, _, h1, fun ht => h5 ht⟩
  | .sx s xs, _, p, r => by
    simp only [Rep, flatD, List.isEmpty_iff] at r p ⊢
    subst p
    rcases r with r | ⟨b, off, c, e, fr, h1, h2, h3, h6⟩
    · exact .inl r
    · exact .inl ⟨rfl, _, h1⟩
  | .el d, _, p, r => by simp [flatD] at p
  | .fm .., _, p, r => by simp [flatD] at p
  | .ptr .., _, _, r => by simpa only [Rep] using r
  | .elp .., _, _, r => by simpa only [Rep] using r
  | .own .., _, _, r => by simpa only [Rep] using r
  | .mp _, _, _, r => by simpa only [Rep] using r
  | .it _, _, _, r => by simpa only [Rep] using r
  | .fn f fs cs, _, p, r => by
    simp only [Rep, flatD, Bool.and_eq_true] at r p ⊢
    obtain ⟨vf, vc, e, r1, r2⟩ := r
    exact ⟨vf, vc, e, Reps.flat fs p.1 r1, Reps.flat cs p.2 r2⟩
  | .iface t d, _, p, r => by
    simp only [Rep, flatD] at r p ⊢
    obtain ⟨u, e, r⟩ := r
    exact ⟨u, e, Rep.flat d p r⟩
  | .whn g d, _, p, r => by
    simp only [Rep, flatD] at r p ⊢
    exact ⟨fun hg => Rep.flat d p (r.1 hg), r.2⟩
theorem Reps.flat {F F' : Nat → Prop} {h : Array Obj} {β : Beta} : ∀ (ds : List D) {vs : List Value}, flatDs ds = true → Reps F h β ds vs → Reps F' h β ds vs
  | [], _, _, r => by simpa only [Reps] using r
  | d :: ds, _, p, r => by
    simp only [Reps, flatDs, Bool.and_eq_true] at r p ⊢
    obtain ⟨v, vs', e, r1, r2⟩ := r
    exact ⟨v, vs', e, Rep.flat d p.1 r1, Reps.flat ds p.2 r2⟩
end
theorem Repx.flat {F F' : Nat → Prop} {h : Array Obj} {β : Beta} {s : Nat} {c : Array Value} : ∀ {ds : List D} {off : Nat}, flatDs ds = true → Repx F h β s c ds off → Repx F' h β s c ds off
  | [], _, _, r => by simp only [Repx]
  | d :: ds, _, p, r => by
    simp only [Repx, flatDs, Bool.and_eq_true] at r p ⊢
    obtain ⟨⟨u, r1, r2, r3⟩, r4⟩ := r
    exact ⟨⟨u, Rep.flat d p.1 r1, r2, r3⟩, Repx.flat p.2 r4⟩
def flatO : OO → Bool
  | .box d => flatD d
  | .arr p _ _ xs => p || flatDs xs
  | .map _ _ _ vs => flatDs vs
  | .rmap _ _ _ _ rows _ => rows.all flatDs
  | .sit .. => true
  | .mit .. => false
  | .dead => true
theorem OwnOK.flat {F F' : Nat → Prop} {h : Array Obj} {β : Beta} {G : Nat → Prop} {nm : Nm} {o : OO} (hf : flatO o = true) (H : OwnOK F h β G nm o) : OwnOK F' h β G nm o := by
  cases o with
  | dead => exact True.intro
  | box d =>
    obtain ⟨b, s, cap, e, v, h1, h2, h3, h4⟩ := H
    exact ⟨b, s, cap, e, v, h1, h2, h3, Rep.flat d hf h4⟩
  | arr p s z xs =>
    obtain ⟨bo, cap, h1, h2, h3⟩ := H
    refine ⟨bo, cap, h1, h2, fun b hb => ?_⟩
    obtain ⟨h0, c, e, h4, h5, h6, h7⟩ := h3 b hb
    refine ⟨h0, c, e, h4, h5, h6, ?_⟩
    cases p with
    | true => exact h7
    | false => exact Repx.flat (by simpa [flatO] using hf) h7
  | map kk ks z vs =>
    obtain ⟨b, s, cap, es, cl, h1, h2, h3, h4⟩ := H
    exact ⟨b, s, cap, es, cl, h1, h2, h3, Reps.flat vs hf h4⟩
  | rmap kk ks s z rows hole =>
    obtain ⟨b, s', cap, es, cl, bl, h1, h2, h3, h4, h5⟩ := H
    refine ⟨b, s', cap, es, cl, bl, h1, h2, h3, h4, h5.1, fun j row hj hh => ?_, h5.2.2⟩
    obtain ⟨v, hv, hr⟩ := h5.2.1 j row hj hh
    have hfr : flatDs row = true := by
      simp only [flatO, List.all_eq_true] at hf
      exact hf row (List.mem_of_getElem? hj)
    refine ⟨v, hv, ?_⟩
    rcases hr with hr | ⟨x, cp, c, e, g1, g2, g3, g4, g5, g6, g7⟩
    · exact .inl hr
    · exact .inr ⟨x, cp, c, e, g1, g2, g3, g4, g5, g6, Repx.flat hfr g7⟩
  | sit s pos => exact H
  | mit kk ks z vs seen => simp [flatO] at hf

/-! ### own memory, looked at while nobody writes it -/
def viewL (xs : List D) (o n : Nat) : List D := if o = 0 ∧ n = xs.length then xs else (xs.drop o).take n
def lendD (T : Tab) : Nat → D → D
  | 0, _ => .any
  | k + 1, d => match d with
    | .own nm s o n => match T.get nm with
      | some (.arr _ _ z xs) => .sl false s z (viewL xs o n)
      | _ => .any
    | .ptr nm off => match T.get nm with
      | some (.box d) => if off = 0 then .el (lendD T k d) else .any
      | _ => .any
    | .elp nm i off => match T.get nm with
      | some (.arr false _ z xs) => if off = 0 then .el (xs.getD i z) else .any
      | _ => .any
    | .mp nm => match T.get nm with
      | some (.map kk ks z vs) => .fm kk ks z vs
      | some (.rmap kk ks s z rows none) => .fm kk ks .any (rowsD s z rows)
      | _ => .any
    | .it _ => .any
    | .agg cs => .agg (cs.map (lendD T k))
    | .tup cs => .tup (cs.map (lendD T k))
    | .sx s xs => .sx s (xs.map (lendD T k))
    | .fn f fs cs => .fn f (fs.map (lendD T k)) (cs.map (lendD T k))
    | .iface t d => .iface t (lendD T k d)
    | .whn g d => .whn g (lendD T k d)
    | .el d => if pureD d then .el d else .el (lendD T k d)
    | .sl _ s z xs => .sl false s z xs
    | d => d
def lendOk (T : Tab) : Nat → D → Prop
  | 0, _ => True
  | k + 1, d => match d with
    | .own nm s o n => match T.get nm with
      | some (.arr p s' _ xs) => s' = s ∧ o + n ≤ xs.length ∧ (p = true → xs.all okS = true)
      | _ => True
    | .ptr nm _ => match T.get nm with
      | some (.box d) => lendOk T k d
      | _ => True
    | .elp nm i _ => match T.get nm with
      | some (.arr false _ _ xs) => i < xs.length
      | _ => True
    | .agg cs => lendOks T k cs
    | .tup cs => lendOks T k cs
    | .sx _ xs => lendOks T k xs ∧ (xs.map (lendD T k)).all okD = true
    | .fn _ fs cs => lendOks T k fs ∧ lendOks T k cs
    | .iface _ d => lendOk T k d
    | .whn _ d => lendOk T k d
    | .el d => if pureD d then True else lendOk T k d
    | _ => True
where lendOks (T : Tab) (k : Nat) : List D → Prop
  | [] => True
  | d :: ds => lendOk T k d ∧ lendOks T k ds
end Go.Eng
namespace Go.Eng
variable [HasG]
set_option linter.unusedSectionVars false
set_option linter.unusedVariables false
set_option linter.unusedSimpArgs false

/-- the memory of the objects of a table -/
def Mof (β : Beta) (γ : Nm → Nat → Prop) (T : Tab) (x : Nat) : Prop := ∃ nm o, T.get nm = some o ∧ o ≠ .dead ∧ fp β γ nm x

theorem viewL_eq {xs : List D} {o n : Nat} (h : o + n ≤ xs.length) : viewL xs o n = (xs.drop o).take n := by
  unfold viewL
  split
  · rename_i hc; obtain ⟨rfl, rfl⟩ := hc; simp
  · rfl
section
variable {F : Nat → Prop} {h : Array Obj} {β : Beta} {γ : Nm → Nat → Prop} {T : Tab}
theorem lend_rep (own : ∀ nm o, T.get nm = some o → OwnOK F h β (γ nm) nm o) : ∀ (k : Nat) (d : D) {v : Value}, lendOk T k d → Rep F h β d v → Rep (fun b => F b ∨ Mof β γ T b) h Beta.none (lendD T k d) v := by
  intro k
  induction k with
  | zero => intro d v _ _; simp only [lendD, Rep]
  | succ k ih =>
    have ihs : ∀ (ds : List D) {vs : List Value}, lendOk.lendOks T k ds → Reps F h β ds vs → Reps (fun b => F b ∨ Mof β γ T b) h Beta.none (ds.map (lendD T k)) vs := by
      intro ds
      induction ds with
      | nil => intro vs _ r; simpa only [Reps, List.map_nil] using r
      | cons d ds ihd =>
        intro vs ho r
        simp only [Reps, List.map_cons, lendOk.lendOks] at r ho ⊢
        obtain ⟨v, vs', e, r1, r2⟩ := r
        exact ⟨v, vs', e, ih d ho.1 r1, ihd ho.2 r2⟩
    have up : ∀ {d : D} {v : Value}, Rep F h Beta.none d v → Rep (fun b => F b ∨ Mof β γ T b) h Beta.none d v := fun r => Rep.mono (fun b hb => ⟨.inl hb, rfl⟩) _ (fun _ _ h => h) r
    intro d v ho r
    cases d with
    | lit u => simpa only [lendD, Rep] using r
    | any => simp only [lendD, Rep]
    | agg cs =>
      simp only [lendD, Rep, lendOk] at r ho ⊢
      obtain ⟨vs, e, r⟩ := r
      exact ⟨vs, e, ihs cs ho r⟩
    | tup cs =>
      simp only [lendD, Rep, lendOk] at r ho ⊢
      obtain ⟨vs, e, r⟩ := r
      exact ⟨vs, e, ihs cs ho r⟩
    | sl t s z xs =>
      simp only [lendD]
      have := Rep.rebeta (β' := Beta.none) _ (show pureD (.sl false s z xs) = true from rfl) r.loose
      exact up this
    | sx s xs =>
      simp only [lendD, Rep, lendOk, List.length_map] at r ho ⊢
      rcases r with ⟨rfl, a, e⟩ | ⟨b, off, c, e, fr, h1, h2, h3, h6⟩
      · exact .inl ⟨rfl, a, e⟩
      · refine .inr ⟨b, off, c, e, fr, h1, .inl h2, h3, Repx.of_get fun i hi => ?_⟩
        have hi' : i < xs.length := by simpa using hi
        obtain ⟨u, g1, g2, g3⟩ := h6.get i hi'
        have hok : ∀ (l : List D), lendOk.lendOks T k l → ∀ d ∈ l, lendOk T k d := by
          intro l
          induction l with
          | nil => intro _ d hd; simp at hd
          | cons y l ihl => intro hy d hd; simp only [lendOk.lendOks] at hy; rcases List.mem_cons.1 hd with rfl | hd; exact hy.1; exact ihl hy.2 d hd
        refine ⟨u, by rw [List.getElem_map]; exact ih _ (hok xs ho.1 _ (List.getElem_mem _)) g1, ⟨List.all_eq_true.1 ho.2 _ (List.getElem_mem _), g2.2⟩, g3⟩
    | el d =>
      simp only [lendD, lendOk] at ho ⊢
      split
      · rename_i hp
        exact up (Rep.rebeta _ hp r)
      · rename_i hp
        rw [if_neg hp] at ho
        simp only [Rep] at r ⊢
        obtain ⟨b, off, c, e, fr, u, h1, h2, h3, h4, h5⟩ := r
        exact ⟨b, off, c, e, fr, u, h1, .inl h2, h3, ih d ho h4, h5⟩
    | ptr nm off =>
      simp only [lendD, lendOk] at ho ⊢
      split
      · rename_i d hT
        rw [hT] at ho
        split
        · rename_i h0; subst h0
          simp only [Rep] at r ⊢
          obtain ⟨b, s, cap, hβ, rfl⟩ := r
          obtain ⟨b', s', cap', e, u, g1, g2, g3, g4⟩ := own nm _ hT
          rw [hβ] at g1
          simp only [Option.some.injEq, Prod.mk.injEq] at g1
          obtain ⟨rfl, rfl, rfl⟩ := g1
          exact ⟨b, 0, u.cells, e, (0, 0), u, rfl, .inr ⟨nm, _, hT, by simp, .inl ⟨_, _, hβ⟩⟩, g2, ih d ho g4, fun j _ => by simp⟩
        · simp only [Rep]
      · simp only [Rep]
    | elp nm i off =>
      simp only [lendD, lendOk] at ho ⊢
      split
      · rename_i s' z xs hT
        rw [hT] at ho
        split
        · rename_i h0; subst h0
          simp only [Rep] at r ⊢
          obtain ⟨b, s, cap, hβ, rfl⟩ := r
          obtain ⟨bo, cap', g1, g2, g3⟩ := own nm _ hT
          rw [hβ] at g1
          simp only [Option.some.injEq, Prod.mk.injEq] at g1
          obtain ⟨rfl, rfl, rfl⟩ := g1
          obtain ⟨hnG, c, e, hb, hcs, hcl, hrow⟩ := g3 b rfl
          simp only [RowP_false] at hrow
          obtain ⟨u, k1, k2, k3⟩ := hrow.getD z i ho
          refine ⟨b, i * s + 0, c, e, (0, 0), u, rfl, .inr ⟨nm, _, hT, by simp, .inl ⟨_, _, hβ⟩⟩, hb, ?_, by simpa using k3⟩
          exact up k1
        · simp only [Rep]
      · simp only [Rep]
    | own nm s o n =>
      simp only [lendD, lendOk] at ho ⊢
      split
      · rename_i p s' z xs hT
        rw [hT] at ho
        obtain ⟨rfl, hle, hsoft⟩ := ho
        rw [viewL_eq hle]
        have hlen : ((xs.drop o).take n).length = n := by simp; omega
        obtain ⟨bo, cap', g1, g2, g3⟩ := own nm _ hT
        simp only [Rep] at r ⊢
        rcases r with ⟨a, rfl, rfl⟩ | ⟨b, cap, hβ, rfl, hle'⟩
        · exact .inl ⟨by simp, a, 0, rfl, (fun h => by cases h)⟩
        · rw [hβ] at g1
          simp only [Option.some.injEq, Prod.mk.injEq] at g1
          obtain ⟨rfl, _, rfl⟩ := g1
          obtain ⟨hnG, c, e, hb, hcs, hcl, hrow⟩ := g3 b rfl
          refine .inr ⟨b, o * s', cap - o, c, e, (0, 0), by rw [hlen], .inr ⟨nm, _, hT, by simp, .inl ⟨_, _, hβ⟩⟩, hb, by rw [hlen]; omega, (fun h => by cases h), ?_⟩
          cases p with
          | false =>
            have hrow' := Repx.take_drop hrow o n
            rw [Nat.zero_add] at hrow'
            exact Repx.mono (fun x hx => ⟨.inl hx, rfl⟩) _ (fun _ _ h => h) hrow'
          | true =>
            have hrow' := (DeepOK.repx (hsoft rfl) hrow).take_drop o n
            rw [Nat.zero_add] at hrow'
            exact Repx.mono (fun x hx => ⟨.inr ⟨nm, _, hT, by simp, .inr hx⟩, rfl⟩) _ (fun _ _ h => h) hrow'
      · simp only [Rep]
    | mp nm =>
      simp only [lendD]
      split
      · rename_i kk ks z vs hT
        obtain ⟨b', s', cap', es, cl, g1, g2, g3, g4⟩ := own nm _ hT
        simp only [Rep] at r ⊢
        obtain ⟨b, s, cap, hβ, rfl⟩ := r
        rw [hβ] at g1
        simp only [Option.some.injEq, Prod.mk.injEq] at g1
        obtain ⟨rfl, rfl, rfl⟩ := g1
        exact .inr ⟨b, es, cl, rfl, .inr ⟨nm, _, hT, by simp, .inl ⟨_, _, hβ⟩⟩, g2, g3, Reps.mono (fun x hx => ⟨.inl hx, rfl⟩) _ (fun _ _ h => h) g4⟩
      · rename_i kk ks s0 z rows hT
        obtain ⟨b', s', cap', es, cl, bl, g1, g2, g3, _, g4⟩ := own nm _ hT
        simp only [Rep] at r ⊢
        obtain ⟨b, s, cap, hβ, rfl⟩ := r
        rw [hβ] at g1
        simp only [Option.some.injEq, Prod.mk.injEq] at g1
        obtain ⟨rfl, rfl, rfl⟩ := g1
        exact .inr ⟨b, es, cl, rfl, .inr ⟨nm, _, hT, by simp, .inl ⟨_, _, hβ⟩⟩, g2, g3, g4.reps (fun x hx => .inl hx) (fun x hx => .inr ⟨nm, _, hT, by simp, .inr hx⟩)⟩
      · simp only [Rep]
    | it nm => simp only [lendD, Rep]
    | fm kk ks z vs =>
      simp only [lendD]
      exact up (Rep.rebeta _ rfl r)
    | fn f fs cs =>
      simp only [lendD, Rep, lendOk] at r ho ⊢
      obtain ⟨vf, vc, e, r1, r2⟩ := r
      exact ⟨vf, vc, e, ihs fs ho.1 r1, ihs cs ho.2 r2⟩
    | iface t d =>
      simp only [lendD, Rep, lendOk] at r ho ⊢
      obtain ⟨u, e, r⟩ := r
      exact ⟨u, e, ih d ho r⟩
    | whn g d =>
      simp only [lendD, Rep, lendOk] at r ho ⊢
      exact ⟨fun hg => ih d ho (r.1 hg), r.2⟩
theorem lends_rep (own : ∀ nm o, T.get nm = some o → OwnOK F h β (γ nm) nm o) (k : Nat) : ∀ (ds : List D) {vs : List Value}, lendOk.lendOks T k ds → Reps F h β ds vs → Reps (fun b => F b ∨ Mof β γ T b) h Beta.none (ds.map (lendD T k)) vs
  | [], vs, _, r => by simpa only [Reps, List.map_nil] using r
  | d :: ds, vs, ho, r => by
    simp only [Reps, List.map_cons, lendOk.lendOks] at r ho ⊢
    obtain ⟨v, vs', e, r1, r2⟩ := r
    exact ⟨v, vs', e, lend_rep own k d ho.1 r1, lends_rep own k ds ho.2 r2⟩
end

/-! ### contracts -/
def Enters (P : Program) (f : FuncId) : Prop := ∃ fn, P.funcs[f]? = some fn ∧ (fn.name == "runtime.NumGoroutine") = false ∧ fn.body.isNone = false
theorem Enters.run {P : Program} {f : FuncId} (h : Enters P f) (args : Array Value) (w : World) : (callFunc f args).run P w = .ok (.enter f args) w := by
  obtain ⟨fn, h1, h2, h3⟩ := h
  simp only [callFunc, Sem.run_bind, run_program, Result.andThen_ok, h1, h2, h3, Bool.false_eq_true, if_false, Sem.run_pure]
/-- CALLED WITH VALUES THAT READ AS 'ds' BESIDE OBJECTS 'tin' OF THE CALLER'S OWN, A FUNCTION RETURNS ONE THAT READS AS 'r', AND LEAVES THE OBJECTS AS 'tout' -/
def PCo (P : Program) (f : FuncId) (ds : List D) (tin : Tab) (r : D) (tout : Tab) : Prop :=
  Enters P f ∧ ∀ (w : World) (F : Nat → Prop) (β : Beta) (γ : Nm → Nat → Prop) (vs : List Value), Own w (Mof β γ tin) F F β γ tin 1 w → GlobF F w.heap → Reps F w.heap β ds vs →
    Calls P f vs.toArray w fun e w' => ∃ v F' β' γ' g', e = .returned v ∧ Own w (Mof β γ tin) F F' β' γ' tout g' w' ∧ (∀ nm x, β nm = some x → β' nm = some x) ∧ Rep F' w'.heap β' r v
/-- the plain case: it takes data, and what it makes is new -/
def PC (P : Program) (f : FuncId) (ds : List D) (r : D) (news : List (Nm × OO)) : Prop := PCo P f ds Tab.nil r (Tab.of news)

theorem Mof_nil {β γ x} : ¬ Mof β γ Tab.nil x := fun ⟨nm, o, h, _⟩ => by cases h
/-- a table laid over another -/
def Tab.over (T T' : Tab) : Tab := fun n => match T n with | some o => some o | none => T' n

mutual
theorem renD_id : ∀ (d : D), renD (fun nm => nm) d = d
  | .ptr .. | .elp .. | .own .. | .mp _ | .it _ | .lit _ | .any | .sl .. | .fm .. => by simp only [renD]
  | .agg cs => by simp only [renD, renDs_id cs]
  | .tup cs => by simp only [renD, renDs_id cs]
  | .sx s xs => by simp only [renD, renDs_id xs]
  | .fn f fs cs => by simp only [renD, renDs_id fs, renDs_id cs]
  | .iface t d => by simp only [renD, renD_id d]
  | .whn g d => by simp only [renD, renD_id d]
  | .el d => by simp only [renD, renD_id d]
theorem renDs_id : ∀ (ds : List D), renDs (fun nm => nm) ds = ds
  | [] => by simp only [renDs]
  | d :: ds => by simp only [renDs, renD_id d, renDs_id ds]
end
theorem renO_id (o : OO) : renO (fun nm => nm) o = o := by cases o <;> simp only [renO, renD_id]
theorem Rep.rename {F : Nat → Prop} {h : Array Obj} {β β' : Beta} {d : D} {v : Value} (hn : ∀ nm ∈ namesD d, ∀ x, β nm = some x → β' nm = some x) (r : Rep F h β d v) : Rep F h β' d v := by
  have := Rep.ren (ρ := fun nm => nm) d hn r
  rwa [renD_id] at this
theorem OwnOK.rename {F : Nat → Prop} {h : Array Obj} {β β' : Beta} {G : Nat → Prop} {nm : Nm} {o : OO} (hn : ∀ n ∈ namesO o, ∀ x, β n = some x → β' n = some x) (h0 : o ≠ .dead → ∀ x, β nm = some x → β' nm = some x) (H : OwnOK F h β G nm o) : OwnOK F h β' G nm o := by
  have := OwnOK.ren (ρ := fun nm => nm) hn h0 H
  rwa [renO_id] at this
theorem Tab.of_mem {news : List (Nm × OO)} {nm : Nm} {o : OO} (h : (Tab.of news) nm = some o) : (nm, o) ∈ news := by
  induction news with
  | nil => cases h
  | cons p l ih =>
    obtain ⟨n, q⟩ := p
    simp only [Tab.of, Tab.set] at h
    split at h
    · rename_i e; cases h; subst e; simp
    · exact List.mem_cons_of_mem _ (ih h)

/-- WHAT NEEDS NO OWN MEMORY MAY BE CALLED WITH SOME: it is lent -/
theorem PC.lend {P : Program} {f : FuncId} {ds : List D} {k : Nat} {tin : Tab} {r : D} {news : List (Nm × OO)} (h : PC P f (ds.map (lendD tin k)) r news) (hok : lendOk.lendOks tin k ds) (hr : flatD r = true) (hn : ∀ p ∈ news, flatO p.2 = true ∧ p.1.2 = 1)
    (htin : ∀ nm o, tin nm = some o → nm.2 = 0) (hrn : ∀ nm ∈ namesD r, nm.2 = 1) (hnn : ∀ p ∈ news, ∀ nm ∈ namesO p.2, nm.2 = 1) : PCo P f ds tin r (Tab.over tin (Tab.of news)) := by
  refine ⟨h.1, fun w F β γ vs O G rs => ?_⟩
  have O1 : Own w (Mof Beta.none γ Tab.nil) (fun b => F b ∨ Mof β γ tin b) (fun b => F b ∨ Mof β γ tin b) Beta.none γ Tab.nil 1 w := by
    refine { F0F := fun b h => h, Fsrc := fun b h => .inl h, Flt := fun b hb => ?_, keep := fun _ _ _ => rfl, size := Nat.le_refl _, os := rfl, tp := rfl, out := rfl, gen := fun nm x h => (by cases h), own := fun nm o h => (by cases h), fps := fun nm o h => (by cases h), dis := fun nm nm' o o' h => (by cases h) }
    rcases hb with hb | ⟨nm, o, h1, h2, h3⟩
    · exact O.Flt b hb
    · exact (O.fps nm o h1 h2 b h3).2.1
  refine (h.2 w _ Beta.none γ vs O1 (G.mono fun b hb => ⟨.inl hb, rfl⟩) (lends_rep O.own k ds hok rs)).mono fun e w' ⟨v, F', β', γ', g', he, O', hβ, hv⟩ => ?_
  have hβ0 : ∀ nm x, β nm = some x → nm.2 = 0 := fun nm x hx => by
    rcases O.gen nm x hx with h | ⟨_, h⟩
    · omega
    · obtain ⟨o, ho⟩ := Option.isSome_iff_exists.1 h
      exact htin nm o ho
  let β2 : Beta := fun nm => if nm.2 = 0 then β nm else β' nm
  let γ2 : Nm → Nat → Prop := fun nm => if nm.2 = 0 then γ nm else γ' nm
  let F2 : Nat → Prop := fun b => F b ∨ (F' b ∧ w.heap.size ≤ b)
  have b1 : ∀ nm x, β nm = some x → β2 nm = some x := fun nm x hx => by simp only [β2, hβ0 nm x hx, if_true]; exact hx
  have b2 : ∀ nm : Nm, nm.2 = 1 → ∀ x, β' nm = some x → β2 nm = some x := fun nm h1 x hx => by simp only [β2, h1]; exact hx
  have old : ∀ b, b < w.heap.size → w'.heap[b]? = w.heap[b]? := fun b hb => O'.keep b hb Mof_nil
  have fp0 : ∀ nm : Nm, nm.2 = 0 → ∀ x, fp β2 γ2 nm x → fp β γ nm x := fun nm h0 x hx => by simp only [fp, β2, γ2, h0, if_true] at hx; exact hx
  have fp1 : ∀ nm : Nm, nm.2 = 1 → ∀ x, fp β2 γ2 nm x → fp β' γ' nm x := fun nm h0 x hx => by simp [fp, β2, γ2, h0] at hx; exact hx
  have ov : ∀ nm o, (Tab.over tin (Tab.of news)).get nm = some o → (tin nm = some o ∧ nm.2 = 0) ∨ (Tab.of news nm = some o ∧ (nm, o) ∈ news ∧ nm.2 = 1) := fun nm o ho => by
    simp only [Tab.get, Tab.over] at ho
    split at ho
    · rename_i o' e; cases ho; exact .inl ⟨e, htin nm o e⟩
    · have := Tab.of_mem ho; exact .inr ⟨ho, this, (hn _ this).2⟩
  have fps : ∀ nm o, (Tab.over tin (Tab.of news)).get nm = some o → o ≠ .dead → ∀ x, fp β2 γ2 nm x → ¬ F2 x ∧ x < w'.heap.size ∧ (Mof β γ tin x ∨ w.heap.size ≤ x) := fun nm o ho hd x hx => by
    rcases ov nm o ho with ⟨h1, h0⟩ | ⟨h1, _, h0⟩
    · have := O.fps nm o h1 hd x (fp0 nm h0 x hx)
      refine ⟨fun hf => hf.elim this.1 (fun hf => ?_), Nat.lt_of_lt_of_le this.2.1 O'.size, .inl ⟨nm, o, h1, hd, fp0 nm h0 x hx⟩⟩
      have := this.2.1; omega
    · have := O'.fps nm o h1 hd x (fp1 nm h0 x hx)
      have hge : w.heap.size ≤ x := this.2.2.resolve_left Mof_nil
      refine ⟨fun hf => hf.elim (fun hf => ?_) (fun hf => this.1 hf.1), this.2.1, .inr hge⟩
      have := O.Flt x hf; omega
  refine ⟨v, F2, β2, γ2, g' + 2, he, ?_, b1, Rep.rename (fun nm hm x hx => b2 nm (hrn nm hm) x hx) (Rep.flat r hr hv)⟩
  refine { F0F := fun b h => .inl h, Fsrc := fun b h => h.imp id fun h => .inr h.2, Flt := fun b hb => ?_, keep := fun b hb _ => old b hb, size := O'.size, os := O'.os, tp := O'.tp, out := O'.out,
           gen := fun nm x hx => .inl ?_, own := fun nm o ho => ?_, fps := fps, dis := fun nm nm' o o' ho ho' hd hd' hne x hx hx' => ?_ }
  · rcases hb with hb | hb
    · exact Nat.lt_of_lt_of_le (O.Flt b hb) O'.size
    · exact O'.Flt b hb.1
  · by_cases h0 : nm.2 = 0
    · omega
    · simp only [β2, if_neg h0] at hx
      rcases O'.gen nm x hx with h | h <;> omega
  · rcases ov nm o ho with ⟨h1, h0⟩ | ⟨h1, hm, h0⟩
    · have eγ : γ2 nm = γ nm := if_pos h0
      rw [eγ]
      by_cases hd : o = .dead
      · subst hd; exact True.intro
      · exact OwnOK.mono (fun b hb => ⟨.inl hb, old b (O.Flt b hb)⟩) b1 (fun b s c _ hb => old b (O.fps nm o h1 hd b (.inl ⟨s, c, hb⟩)).2.1) (fun b _ hg => old b (O.fps nm o h1 hd b (.inr hg)).2.1) (O.own nm o h1)
    · have eγ : γ2 nm = γ' nm := if_neg (by omega)
      rw [eγ]
      exact OwnOK.rename (fun n hn' x hx => b2 n (hnn _ hm n hn') x hx) (fun _ x hx => b2 nm h0 x hx) (OwnOK.flat (hn _ hm).1 (O'.own nm o h1))
  · rcases ov nm o ho with ⟨h1, h0⟩ | ⟨h1, _, h0⟩ <;> rcases ov nm' o' ho' with ⟨h1', h0'⟩ | ⟨h1', _, h0'⟩
    · exact O.dis nm nm' o o' h1 h1' hd hd' hne x (fp0 nm h0 x hx) (fp0 nm' h0' x hx')
    · have a1 := (O.fps nm o h1 hd x (fp0 nm h0 x hx)).2.1
      have a2 := (O'.fps nm' o' h1' hd' x (fp1 nm' h0' x hx')).2.2.resolve_left Mof_nil
      omega
    · have a1 := (O.fps nm' o' h1' hd' x (fp0 nm' h0' x hx')).2.1
      have a2 := (O'.fps nm o h1 hd x (fp1 nm h0 x hx)).2.2.resolve_left Mof_nil
      omega
    · exact O'.dis nm nm' o o' h1 h1' hd hd' hne x (fp1 nm h0 x hx) (fp1 nm' h0' x hx')
end Go.Eng
namespace Go.Eng
variable [HasG]
set_option linter.unusedSectionVars false
set_option linter.unusedVariables false
set_option linter.unusedSimpArgs false

/-! ### a call beside own memory -/
def idxNm : List Nm → Nm → Nat → Option Nat
  | [], _, _ => none
  | n :: r, nm, i => if n = nm then some i else idxNm r nm (i + 1)
def canonN (ns : List Nm) (nm : Nm) : Nm := match idxNm ns nm 0 with
  | some i => (i, 0)
  | none => (0, 99)
def canonT (tab : Tab) (ρ : Nm → Nm) : List Nm → Nat → Option (List (Nm × OO))
  | [], _ => some []
  | n :: r, i => match tab.get n with
    | some .dead => none
    | some o => match canonT tab ρ r (i + 1) with
      | some l => some (((i, 0), renO ρ o) :: l)
      | none => none
    | none => none
def backN (ns : List Nm) (k gen : Nat) (nm : Nm) : Nm := if nm.2 = 0 then ns.getD nm.1 (0, 0) else (k + 1000 * nm.1, gen)
def deadT (tab : Tab) : List Nm → Tab
  | [] => tab
  | n :: r => (deadT tab r).set n .dead
def backT (T : Tab) (ρ : Nm → Nm) : List (Nm × OO) → Tab
  | [] => T
  | (n, o) :: r => (backT T ρ r).set (ρ n) (renO ρ o)

theorem idxNm_some {ns : List Nm} {nm : Nm} : ∀ {j i : Nat}, idxNm ns nm j = some i → j ≤ i ∧ ns[i - j]? = some nm := by
  induction ns with
  | nil => intro j i h; simp [idxNm] at h
  | cons n r ih =>
    intro j i h
    simp only [idxNm] at h
    split at h
    · rename_i e; subst e; cases h; simp
    · obtain ⟨h1, h2⟩ := ih h
      refine ⟨by omega, ?_⟩
      rw [show i - j = (i - (j + 1)) + 1 by omega]; simpa using h2
theorem idxNm_mem {ns : List Nm} {nm : Nm} (hm : nm ∈ ns) : ∀ {j : Nat}, ∃ i, idxNm ns nm j = some i := by
  induction ns with
  | nil => simp at hm
  | cons n r ih =>
    intro j
    simp only [idxNm]
    split
    · exact ⟨j, rfl⟩
    · rename_i e
      rcases List.mem_cons.1 hm with rfl | hm
      · exact absurd rfl e
      · exact ih hm
theorem canonN_mem {ns : List Nm} {nm : Nm} (hm : nm ∈ ns) : ∃ i, canonN ns nm = (i, 0) ∧ ns[i]? = some nm := by
  obtain ⟨i, hi⟩ := idxNm_mem hm (j := 0)
  exact ⟨i, by unfold canonN; rw [hi], by have := (idxNm_some hi).2; simpa using this⟩
theorem canonT_get {tab : Tab} {ρ : Nm → Nm} : ∀ {ns : List Nm} {j : Nat} {l : List (Nm × OO)}, canonT tab ρ ns j = some l →
    (∀ nm o', (Tab.of l) nm = some o' → nm.2 = 0 ∧ ∃ i n o, nm.1 = j + i ∧ ns[i]? = some n ∧ tab.get n = some o ∧ o ≠ .dead ∧ o' = renO ρ o) ∧
    (∀ i n, ns[i]? = some n → ∃ o, tab.get n = some o ∧ o ≠ .dead ∧ (Tab.of l) (j + i, 0) = some (renO ρ o))
  | [], j, l, h => by
    simp only [canonT, Option.some.injEq] at h; subst h
    exact ⟨(fun nm o' h => by cases h), (fun i n h => by simp at h)⟩
  | n :: r, j, l, h => by
    simp only [canonT] at h
    split at h
    · simp at h
    · rename_i o hnd ho
      split at h
      · rename_i l' hl'
        simp only [Option.some.injEq] at h; subst h
        obtain ⟨h1, h2⟩ := canonT_get hl'
        refine ⟨fun nm o' hm => ?_, fun i n' hi => ?_⟩
        · simp only [Tab.of, Tab.set] at hm
          split at hm
          · rename_i e; cases hm; subst e
            exact ⟨rfl, 0, n, o, rfl, rfl, ho, (fun e => hnd (by rw [← e])), rfl⟩
          · obtain ⟨g0, i, n', o1, g1, g2, g3⟩ := h1 nm o' hm
            exact ⟨g0, i + 1, n', o1, by omega, by simpa using g2, g3⟩
        · cases i with
          | zero =>
            simp at hi; subst hi
            exact ⟨o, ho, (fun e => hnd (by rw [← e])), by simp [Tab.of, Tab.set]⟩
          | succ i =>
            obtain ⟨o1, g1, g2, g3⟩ := h2 i n' (by simpa using hi)
            refine ⟨o1, g1, g2, ?_⟩
            simp only [Tab.of, Tab.set]
            rw [if_neg (by simp), show j + (i + 1) = j + 1 + i by omega]
            exact g3
      · simp at h
    · simp at h
theorem deadT_get (tab : Tab) (nm : Nm) : ∀ (ns : List Nm), (deadT tab ns) nm = if nm ∈ ns then some .dead else tab nm
  | [] => by simp [deadT]
  | n :: r => by
    simp only [deadT, Tab.set, deadT_get tab nm r]
    by_cases e : n = nm
    · simp [e]
    · simp [e, Ne.symm e]

theorem backT_get {T : Tab} {ρ : Nm → Nm} {l : List (Nm × OO)} {nm : Nm} {o : OO} (h : backT T ρ l nm = some o) (hinj : ∀ a ∈ l, ∀ b ∈ l, ρ a.1 = ρ b.1 → a.1 = b.1) : (∃ n o', (Tab.of l) n = some o' ∧ nm = ρ n ∧ o = renO ρ o') ∨ (T nm = some o ∧ ∀ p ∈ l, ρ p.1 ≠ nm) := by
  induction l with
  | nil => exact .inr ⟨h, fun p hp => by simp at hp⟩
  | cons p l ih =>
    obtain ⟨n, q⟩ := p
    simp only [backT, Tab.set] at h
    split at h
    · rename_i e; cases h
      exact .inl ⟨n, q, by simp [Tab.of, Tab.set], e.symm, rfl⟩
    · rename_i e
      rcases ih h (fun a ha b hb => hinj a (by simp [ha]) b (by simp [hb])) with ⟨n', o', h1, h2, h3⟩ | ⟨h1, h2⟩
      · refine .inl ⟨n', o', ?_, h2, h3⟩
        simp only [Tab.of, Tab.set]
        rw [if_neg]
        · exact h1
        · rintro rfl; exact e h2.symm
      · exact .inr ⟨h1, fun p hp => by rcases List.mem_cons.1 hp with rfl | hp; exact e; exact h2 p hp⟩
theorem backT_none {T : Tab} {ρ : Nm → Nm} {l : List (Nm × OO)} {nm : Nm} (h : ∀ p ∈ l, ρ p.1 ≠ nm) : backT T ρ l nm = T nm := by
  induction l with
  | nil => rfl
  | cons p l ih =>
    obtain ⟨n, q⟩ := p
    simp only [backT, Tab.set]
    rw [if_neg (h (n, q) (by simp))]
    exact ih fun p hp => h p (by simp [hp])
theorem backT_isSome {T : Tab} {ρ : Nm → Nm} {l : List (Nm × OO)} {nm : Nm} (h : (T nm).isSome = true) : (backT T ρ l nm).isSome = true := by
  induction l with
  | nil => exact h
  | cons p l ih =>
    obtain ⟨n, q⟩ := p
    simp only [backT, Tab.set]
    split
    · rfl
    · exact ih

theorem backT_hit {T : Tab} {ρ : Nm → Nm} {l : List (Nm × OO)} {p : Nm × OO} (h : p ∈ l) : ((backT T ρ l).get (ρ p.1)).isSome = true := by
  induction l with
  | nil => simp at h
  | cons q l ih =>
    obtain ⟨n, o⟩ := q
    simp only [backT, Tab.get, Tab.set]
    split
    · rfl
    · rename_i e
      rcases List.mem_cons.1 h with rfl | h
      · exact absurd rfl e
      · exact ih h
mutual
theorem pure_name : ∀ {d : D}, pureD d = true → namesD d = []
  | .lit _, _ | .any, _ | .sl .., _ | .fm .., _ => by simp only [namesD]
  | .agg cs, h => by simp only [namesD, pureD] at h ⊢; exact pure_names h
  | .tup cs, h => by simp only [namesD, pureD] at h ⊢; exact pure_names h
  | .sx s xs, h => by simp only [namesD, pureD] at h ⊢; exact pure_names h
  | .fn f fs cs, h => by simp only [namesD, pureD, Bool.and_eq_true] at h ⊢; rw [pure_names h.1, pure_names h.2]; rfl
  | .iface t d, h => by simp only [namesD, pureD] at h ⊢; exact pure_name h
  | .whn g d, h => by simp only [namesD, pureD] at h ⊢; exact pure_name h
  | .el d, h => by simp only [namesD, pureD] at h ⊢; exact pure_name h
  | .ptr .., h | .elp .., h | .own .., h | .mp _, h | .it _, h => by simp [pureD] at h
theorem pure_names : ∀ {ds : List D}, puresD ds = true → namesDs ds = []
  | [], _ => by simp only [namesDs]
  | d :: ds, h => by simp only [namesDs, puresD, Bool.and_eq_true] at h ⊢; rw [pure_name h.1, pure_names h.2]; rfl
end
mutual
theorem pure_ren {ρ : Nm → Nm} : ∀ {d : D}, pureD d = true → renD ρ d = d
  | .lit _, _ | .any, _ | .sl .., _ | .fm .., _ => by simp only [renD]
  | .agg cs, h => by simp only [renD, pureD] at h ⊢; rw [pure_rens h]
  | .tup cs, h => by simp only [renD, pureD] at h ⊢; rw [pure_rens h]
  | .sx s xs, h => by simp only [renD, pureD] at h ⊢; rw [pure_rens h]
  | .fn f fs cs, h => by simp only [renD, pureD, Bool.and_eq_true] at h ⊢; rw [pure_rens h.1, pure_rens h.2]
  | .iface t d, h => by simp only [renD, pureD] at h ⊢; rw [pure_ren h]
  | .whn g d, h => by simp only [renD, pureD] at h ⊢; rw [pure_ren h]
  | .el d, h => by simp only [renD, pureD] at h ⊢; rw [pure_ren h]
  | .ptr .., h | .elp .., h | .own .., h | .mp _, h | .it _, h => by simp [pureD] at h
theorem pure_rens {ρ : Nm → Nm} : ∀ {ds : List D}, puresD ds = true → renDs ρ ds = ds
  | [], _ => by simp only [renDs]
  | d :: ds, h => by simp only [renDs, puresD, Bool.and_eq_true] at h ⊢; rw [pure_ren h.1, pure_rens h.2]
end
/-- what must be seen to of the names -/
structure NamesOk (tab : Tab) (ns : List Nm) (k gen : Nat) (ds : List D) (r : D) (tout : List (Nm × OO)) : Prop where
  nodup : ns.Nodup
  args : ∀ nm ∈ namesDs ds, nm ∈ ns
  objs : ∀ n ∈ ns, ∀ o, tab.get n = some o → ∀ nm ∈ namesO o, nm ∈ ns
  outs : ∀ p ∈ tout, (p.1.2 = 0 ∧ p.1.1 < ns.length) ∨ (p.1.2 = 1 ∧ tab.get (k + 1000 * p.1.1, gen) = none)
  res : ∀ nm ∈ namesD r, (nm.2 = 0 ∧ nm.1 < ns.length) ∨ (nm.2 = 1 ∧ nm ∈ tout.map (·.1))
  cont : ∀ p ∈ tout, ∀ nm ∈ namesO p.2, (nm.2 = 0 ∧ nm.1 < ns.length) ∨ (nm.2 = 1 ∧ nm ∈ tout.map (·.1))

section
variable {P : Program} {W0 : World} {M0 F0 F : Nat → Prop} {β : Beta} {γ : Nm → Nat → Prop} {tab : Tab} {gen : Nat} {w : World}
set_option maxHeartbeats 1000000 in
theorem PCo.calls {f : FuncId} {ns : List Nm} {k : Nat} {ds : List D} {tin tout : List (Nm × OO)} {r : D} {vs : List Value} (O : Own W0 M0 F0 F β γ tab gen w) (hc : canonT tab (canonN ns) ns 0 = some tin) (N : NamesOk tab ns k gen ds r tout)
    (G : GlobF F w.heap) (h : PCo P f (renDs (canonN ns) ds) (Tab.of tin) r (Tab.of tout)) (hr : Reps F w.heap β ds vs) :
    Calls P f vs.toArray w fun e w' => ∃ v F' β' γ', e = .returned v ∧ Own W0 M0 F0 F' β' γ' (backT (deadT tab ns) (backN ns k gen) tout) gen w' ∧ (∀ b, F b → F' b ∧ w'.heap[b]? = w.heap[b]?) ∧ (∀ n x, β n = some x → β' n = some x) ∧
      Rep F' w'.heap β' (renD (backN ns k gen) r) v := by
  obtain ⟨cg1, cg2⟩ := canonT_get hc
  let βc : Beta := fun nm => if nm.2 = 0 then (match ns[nm.1]? with | some n => β n | none => none) else none
  let γc : Nm → Nat → Prop := fun nm => if nm.2 = 0 then (match ns[nm.1]? with | some n => γ n | none => fun _ => False) else fun _ => False
  have bc : ∀ n ∈ ns, ∀ x, β n = some x → βc (canonN ns n) = some x := fun n hn x hx => by
    obtain ⟨i, h1, h2⟩ := canonN_mem hn
    simp only [βc, h1, h2, if_true]; exact hx
  have bci : ∀ (i : Nat) n, ns[i]? = some n → βc (i, 0) = β n := fun i n hi => by simp only [βc, hi, if_true]
  have gci : ∀ (i : Nat) n, ns[i]? = some n → γc (i, 0) = γ n := fun i n hi => by simp only [γc, hi, if_true]
  have fpi : ∀ (i : Nat) n, ns[i]? = some n → ∀ x, fp βc γc (i, 0) x ↔ fp β γ n x := fun i n hi x => by unfold fp; rw [bci i n hi, gci i n hi]
  have tinI : ∀ nm o', (Tab.of tin) nm = some o' → ∃ (i : Nat) (n : Nm) (o : OO), nm = (i, 0) ∧ ns[i]? = some n ∧ tab.get n = some o ∧ o ≠ .dead ∧ o' = renO (canonN ns) o := fun nm o' h => by
    obtain ⟨g0, i, n, o, g1, g2, g3, g4, g5⟩ := cg1 nm o' h
    refine ⟨i, n, o, ?_, g2, g3, g4, g5⟩
    obtain ⟨a, b⟩ := nm
    simp only at g0 g1; subst g0; simp [g1]
  have MtoO : ∀ x, Mof βc γc (Tab.of tin) x → ∃ n ∈ ns, ∃ o, tab.get n = some o ∧ o ≠ .dead ∧ fp β γ n x := fun x ⟨nm, o', h1, h2, h3⟩ => by
    obtain ⟨i, n, o, rfl, g2, g3, g4, _⟩ := tinI nm o' h1
    exact ⟨n, List.mem_of_getElem? g2, o, g3, g4, (fpi i n g2 x).1 h3⟩
  have OtoM : ∀ n ∈ ns, ∀ o, tab.get n = some o → o ≠ .dead → ∀ x, fp β γ n x → Mof βc γc (Tab.of tin) x := fun n hn o ho hd x hx => by
    obtain ⟨i, hi, hin⟩ := List.getElem_of_mem hn
    have hi' : ns[i]? = some n := by rw [List.getElem?_eq_getElem hi, hin]
    obtain ⟨o1, g1, g2, g3⟩ := cg2 i n hi'
    rw [Nat.zero_add] at g3
    exact ⟨(i, 0), _, g3, fun e => g2 (renO_dead.1 e), (fpi i n hi' x).2 hx⟩
  have Oc : Own w (Mof βc γc (Tab.of tin)) F F βc γc (Tab.of tin) 1 w := by
    refine { F0F := fun b h => h, Fsrc := fun b h => .inl h, Flt := O.Flt, keep := fun _ _ _ => rfl, size := Nat.le_refl _, os := rfl, tp := rfl, out := rfl, gen := fun nm x hx => ?_, own := fun nm o' ho => ?_, fps := fun nm o' ho hd x hx => ?_, dis := fun nm nm' o o' ho ho' hd hd' hne x hx hx' => ?_ }
    · left
      simp only [βc] at hx
      split at hx
      · omega
      · cases hx
    · obtain ⟨i, n, o, rfl, g2, g3, g4, rfl⟩ := tinI nm o' ho
      have hn : n ∈ ns := List.mem_of_getElem? g2
      rw [gci i n g2]
      have hcn : canonN ns n = (i, 0) := by
        obtain ⟨i', h1, h2⟩ := canonN_mem hn
        have : i' = i := by
          have l1 := (List.getElem?_eq_some_iff.1 h2).1
          have l2 := (List.getElem?_eq_some_iff.1 g2).1
          exact (List.getElem_inj (h₀ := l1) (h₁ := l2) N.nodup).1 ((List.getElem?_eq_some_iff.1 h2).2.trans (List.getElem?_eq_some_iff.1 g2).2.symm)
        rw [h1, this]
      rw [← hcn]
      exact OwnOK.ren (fun m hm x hx => bc m (N.objs n hn o g3 m hm) x hx) (fun _ x hx => bc n hn x hx) (O.own n o g3)
    · obtain ⟨i, n, o, rfl, g2, g3, g4, rfl⟩ := tinI nm o' ho
      have := O.fps n o g3 g4 x ((fpi i n g2 x).1 hx)
      exact ⟨this.1, this.2.1, .inl ⟨(i, 0), _, ho, hd, hx⟩⟩
    · obtain ⟨i, n, o1, rfl, g2, g3, g4, rfl⟩ := tinI nm o ho
      obtain ⟨i', n', o1', rfl, g2', g3', g4', rfl⟩ := tinI nm' o' ho'
      refine O.dis n n' o1 o1' g3 g3' g4 g4' (fun e => hne ?_) x ((fpi i n g2 x).1 hx) ((fpi i' n' g2' x).1 hx')
      subst e
      have l1 := (List.getElem?_eq_some_iff.1 g2).1
      have l2 := (List.getElem?_eq_some_iff.1 g2').1
      have : i = i' := (List.getElem_inj (h₀ := l1) (h₁ := l2) N.nodup).1 ((List.getElem?_eq_some_iff.1 g2).2.trans (List.getElem?_eq_some_iff.1 g2').2.symm)
      rw [this]
  have hrc : Reps F w.heap βc (renDs (canonN ns) ds) vs := Reps.ren ds (fun nm hm x hx => bc nm (N.args nm hm) x hx) hr
  refine (h.2 w F βc γc vs Oc G hrc).mono fun e w' ⟨v, F', β', γ', g', he, O', hβ, hv⟩ => ?_
  -- the names behind the call
  have backI : ∀ (i : Nat) n, ns[i]? = some n → backN ns k gen (i, 0) = n := fun i n hi => by simp [backN, List.getD, hi]
  have backJ : ∀ nm : Nm, nm.2 = 1 → backN ns k gen nm = (k + 1000 * nm.1, gen) := fun nm h1 => by simp [backN, h1]
  have nsSome : ∀ n ∈ ns, ∃ o, tab.get n = some o ∧ o ≠ .dead := fun n hn => by
    obtain ⟨i, hi, hin⟩ := List.getElem_of_mem hn
    obtain ⟨o1, g1, g2, _⟩ := cg2 i n (by rw [List.getElem?_eq_getElem hi, hin])
    exact ⟨o1, g1, g2⟩
  have βnone : ∀ nm : Nm, tab.get nm = none → nm.2 = gen → β nm = none := fun nm hn hg => by
    cases hb : β nm with
    | none => rfl
    | some x => rcases O.gen _ _ hb with h | ⟨_, h⟩
                · omega
                · simp [hn] at h
  -- fresh name (k + 1000 j, gen) ↦ (j, 1)
  let unb : Nm → Nm := fun nm => ((nm.1 - k) / 1000, 1)
  have unbJ : ∀ nm : Nm, nm.2 = 1 → unb (backN ns k gen nm) = nm := fun nm h1 => by
    rw [backJ nm h1]
    obtain ⟨a, b⟩ := nm
    simp only at h1; subst h1
    simp [unb]
  let isF : Nm → Prop := fun nm => nm.2 = gen ∧ tab.get nm = none ∧ backN ns k gen (unb nm) = nm ∧ ∃ p ∈ tout, p.1 = unb nm
  have decF : ∀ nm, Decidable (isF nm) := fun nm => Classical.propDecidable _
  let β2 : Beta := fun nm => if nm ∈ ns then β nm else if @decide _ (decF nm) then β' (unb nm) else β nm
  let γ2 : Nm → Nat → Prop := fun nm => match idxNm ns nm 0 with | some i => γ' (i, 0) | none => if @decide _ (decF nm) then γ' (unb nm) else γ nm
  have b1 : ∀ nm x, β nm = some x → β2 nm = some x := fun nm x hx => by
    simp only [β2]
    split
    · exact hx
    · split
      · rename_i hd
        have hd := of_decide_eq_true hd
        rw [βnone nm hd.2.1 hd.1] at hx; cases hx
      · exact hx
  have notF : ∀ nm o, tab.get nm = some o → ¬ isF nm := fun nm o ho hf => by rw [hf.2.1] at ho; cases ho
  have bI : ∀ (i : Nat) n, ns[i]? = some n → ∀ x, β' (i, 0) = some x → β2 n = some x := fun i n hi x hx => by
    have hn := List.mem_of_getElem? hi
    simp only [β2, hn, if_true]
    obtain ⟨o, ho, hd⟩ := nsSome n hn
    -- an object has a place; it keeps it
    have hplace : ∃ y, β n = some y := by
      have := O.own n o ho
      cases o with
      | dead => exact absurd rfl hd
      | box d => obtain ⟨_, _, _, _, _, h1, _⟩ := this; exact ⟨_, h1⟩
      | arr p s z xs => obtain ⟨_, _, h1, _⟩ := this; exact ⟨_, h1⟩
      | map kk ks z vs => obtain ⟨_, _, _, _, _, h1, _⟩ := this; exact ⟨_, h1⟩
      | rmap kk ks s z rows hole => obtain ⟨_, _, _, _, _, _, h1, _⟩ := this; exact ⟨_, h1⟩
      | sit s pos => obtain ⟨_, _, _, h1, _⟩ := this; exact ⟨_, h1⟩
      | mit kk ks z vs seen => obtain ⟨_, _, _, h1, _⟩ := this; exact ⟨_, h1⟩
    obtain ⟨y, hy⟩ := hplace
    have := hβ (i, 0) y (by rw [bci i n hi]; exact hy)
    rw [hx] at this
    rw [hy]; exact this.symm
  have fresh : ∀ p ∈ tout, p.1.2 = 1 → isF (backN ns k gen p.1) ∧ backN ns k gen p.1 ∉ ns := fun p hp h1 => by
    have hnone : tab.get (backN ns k gen p.1) = none := by
      rw [backJ p.1 h1]
      rcases N.outs p hp with h | h
      · omega
      · exact h.2
    refine ⟨⟨by rw [backJ p.1 h1], hnone, by rw [unbJ p.1 h1], p, hp, (unbJ p.1 h1).symm⟩, fun hm => ?_⟩
    obtain ⟨o, ho, _⟩ := nsSome _ hm
    rw [hnone] at ho; cases ho
  have bJ : ∀ p ∈ tout, p.1.2 = 1 → ∀ x, β' p.1 = some x → β2 (backN ns k gen p.1) = some x := fun p hp h1 x hx => by
    obtain ⟨hf, hm⟩ := fresh p hp h1
    simp only [β2, hm, if_false]
    rw [if_pos (decide_eq_true hf), unbJ p.1 h1]; exact hx
  have bN : ∀ nm : Nm, (nm.2 = 0 ∧ nm.1 < ns.length) ∨ (nm.2 = 1 ∧ nm ∈ tout.map (·.1)) → ∀ x, β' nm = some x → β2 (backN ns k gen nm) = some x := fun nm h x hx => by
    rcases h with ⟨h0, hl⟩ | ⟨h1, hm⟩
    · obtain ⟨a, b⟩ := nm
      simp only at h0 hl; subst h0
      have hi : ns[a]? = some ns[a] := List.getElem?_eq_getElem hl
      rw [backI a _ hi]
      exact bI a _ hi x hx
    · obtain ⟨p, hp, rfl⟩ := List.mem_map.1 hm
      exact bJ p hp h1 x hx
  have gI : ∀ (i : Nat) n, ns[i]? = some n → γ2 n = γ' (i, 0) := fun i n hi => by
    have hn := List.mem_of_getElem? hi
    obtain ⟨i', hi'⟩ := idxNm_mem hn (j := 0)
    have h2 := (idxNm_some hi').2
    simp only [Nat.sub_zero] at h2
    have l1 := (List.getElem?_eq_some_iff.1 h2).1
    have l2 := (List.getElem?_eq_some_iff.1 hi).1
    have : i' = i := (List.getElem_inj (h₀ := l1) (h₁ := l2) N.nodup).1 ((List.getElem?_eq_some_iff.1 h2).2.trans (List.getElem?_eq_some_iff.1 hi).2.symm)
    simp only [γ2, hi', this]
  have idxNone : ∀ nm, nm ∉ ns → idxNm ns nm 0 = none := fun nm hn => by
    cases he : idxNm ns nm 0 with
    | none => rfl
    | some i => exact absurd (List.mem_of_getElem? (idxNm_some he).2) hn
  have gJ : ∀ p ∈ tout, p.1.2 = 1 → γ2 (backN ns k gen p.1) = γ' p.1 := fun p hp h1 => by
    obtain ⟨hf, hm⟩ := fresh p hp h1
    simp only [γ2, idxNone _ hm]
    rw [if_pos (decide_eq_true hf), unbJ p.1 h1]
  have bO : ∀ nm o, nm ∉ ns → tab.get nm = some o → β2 nm = β nm ∧ γ2 nm = γ nm := fun nm o hn ho => by
    refine ⟨?_, ?_⟩
    · simp only [β2, hn, if_false]; rw [if_neg (by simpa using notF nm o ho)]
    · simp only [γ2, idxNone _ hn]; rw [if_neg (by simpa using notF nm o ho)]
  -- each entry of the table behind the call
  have inj : ∀ a ∈ tout, ∀ b ∈ tout, backN ns k gen a.1 = backN ns k gen b.1 → a.1 = b.1 := fun a ha b hb e => by
    have cls : ∀ p ∈ tout, (∃ i n, p.1 = (i, 0) ∧ ns[i]? = some n) ∨ p.1.2 = 1 := fun p hp => by
      rcases N.outs p hp with ⟨h0, hl⟩ | ⟨h1, _⟩
      · left
        refine ⟨p.1.1, ns[p.1.1], ?_, List.getElem?_eq_getElem hl⟩
        obtain ⟨⟨a, b⟩, o⟩ := p
        simp only at h0; subst h0; rfl
      · exact .inr h1
    rcases cls a ha with ⟨i, n, e1, h1⟩ | h1 <;> rcases cls b hb with ⟨i', n', e1', h1'⟩ | h1'
    · rw [e1, e1', backI i n h1, backI i' n' h1'] at e
      subst e
      have l1 := (List.getElem?_eq_some_iff.1 h1).1
      have l2 := (List.getElem?_eq_some_iff.1 h1').1
      have : i = i' := (List.getElem_inj (h₀ := l1) (h₁ := l2) N.nodup).1 ((List.getElem?_eq_some_iff.1 h1).2.trans (List.getElem?_eq_some_iff.1 h1').2.symm)
      rw [e1, e1', this]
    · rw [e1, backI i n h1] at e
      exact absurd (e ▸ List.mem_of_getElem? h1) (fresh b hb h1').2
    · rw [e1', backI i' n' h1'] at e
      exact absurd (e ▸ List.mem_of_getElem? h1') (fresh a ha h1).2
    · rw [← unbJ a.1 h1, ← unbJ b.1 h1', e]
  have cls : ∀ nm o, (backT (deadT tab ns) (backN ns k gen) tout).get nm = some o → o ≠ .dead →
      (∃ n o', (Tab.of tout) n = some o' ∧ nm = backN ns k gen n ∧ o = renO (backN ns k gen) o' ∧ β2 nm = β' n ∧ γ2 nm = γ' n ∧ (∃ q, (n, q) ∈ tout)) ∨ (tab.get nm = some o ∧ nm ∉ ns ∧ β2 nm = β nm ∧ γ2 nm = γ nm) := fun nm o ho hd => by
    rcases backT_get ho inj with ⟨n, o', h1, h2, h3⟩ | ⟨h1, h2⟩
    · left
      have hm := Tab.of_mem h1
      refine ⟨n, o', h1, h2, h3, ?_, ?_, _, hm⟩
      · have hne : o' ≠ .dead := fun e => hd (by rw [h3, e]; rfl)
        have hpl : ∃ y, β' n = some y := by
          have := O'.own n o' h1
          cases o' with
          | dead => exact absurd rfl hne
          | box d => obtain ⟨_, _, _, _, _, h1, _⟩ := this; exact ⟨_, h1⟩
          | arr p s z xs => obtain ⟨_, _, h1, _⟩ := this; exact ⟨_, h1⟩
          | map kk ks z vs => obtain ⟨_, _, _, _, _, h1, _⟩ := this; exact ⟨_, h1⟩
          | rmap kk ks s z rows hole => obtain ⟨_, _, _, _, _, _, h1, _⟩ := this; exact ⟨_, h1⟩
          | sit s pos => obtain ⟨_, _, _, h1, _⟩ := this; exact ⟨_, h1⟩
          | mit kk ks z vs seen => obtain ⟨_, _, _, h1, _⟩ := this; exact ⟨_, h1⟩
        obtain ⟨y, hy⟩ := hpl
        rw [h2, hy]
        refine bN n ?_ y hy
        rcases N.outs _ hm with h | h
        · exact .inl h
        · exact .inr ⟨h.1, List.mem_map.2 ⟨_, hm, rfl⟩⟩
      · rw [h2]
        rcases N.outs _ hm with ⟨h0, hl⟩ | ⟨h0, _⟩
        · obtain ⟨a, b⟩ := n
          simp only at h0 hl; subst h0
          have hi : ns[a]? = some ns[a] := List.getElem?_eq_getElem hl
          rw [backI a _ hi]
          exact gI a _ hi
        · exact gJ _ hm h0
    · right
      rw [deadT_get] at h1
      split at h1
      · cases h1; exact absurd rfl hd
      · rename_i hn
        exact ⟨h1, hn, (bO nm o hn h1).1, (bO nm o hn h1).2⟩
  have old : ∀ b, b < w.heap.size → ¬ Mof βc γc (Tab.of tin) b → w'.heap[b]? = w.heap[b]? := fun b hb hm => O'.keep b hb hm
  have MF : ∀ x, Mof βc γc (Tab.of tin) x → ¬ F x ∧ x < w.heap.size ∧ (M0 x ∨ W0.heap.size ≤ x) := fun x hx => by
    obtain ⟨n, hn, o, h1, h2, h3⟩ := MtoO x hx
    exact O.fps n o h1 h2 x h3
  have hFs : ∀ b, F b → F' b ∧ w'.heap[b]? = w.heap[b]? := fun b hb => ⟨O'.F0F b hb, old b (O.Flt b hb) fun hm => (MF b hm).1 hb⟩
  -- what is not touched lies apart
  have apart : ∀ nm o, tab.get nm = some o → o ≠ .dead → nm ∉ ns → ∀ x, fp β γ nm x → ¬ Mof βc γc (Tab.of tin) x := fun nm o ho hd hn x hx hm => by
    obtain ⟨n, hn', o1, h1, h2, h3⟩ := MtoO x hm
    exact O.dis nm n o o1 ho h1 hd h2 (fun e => hn (e ▸ hn')) x hx h3
  refine ⟨v, F', β2, γ2, he, ?_, hFs, b1, Rep.ren r (fun nm hm x hx => bN nm (N.res nm hm) x hx) hv⟩
  have fpc : ∀ nm o, (backT (deadT tab ns) (backN ns k gen) tout).get nm = some o → o ≠ .dead → ∀ x, fp β2 γ2 nm x → ¬ F' x ∧ x < w'.heap.size ∧ (M0 x ∨ W0.heap.size ≤ x) := fun nm o ho hd x hx => by
    rcases cls nm o ho hd with ⟨n, o', h1, h2, h3, hb, hg, _⟩ | ⟨h1, hn, hb, hg⟩
    · have hx' : fp β' γ' n x := by unfold fp at hx ⊢; rw [hb, hg] at hx; exact hx
      have := O'.fps n o' h1 (fun e => hd (by rw [h3, e]; rfl)) x hx'
      refine ⟨this.1, this.2.1, ?_⟩
      rcases this.2.2 with hm | hm
      · exact (MF x hm).2.2
      · exact .inr (Nat.le_trans O.size hm)
    · have hx' : fp β γ nm x := by unfold fp at hx ⊢; rw [hb, hg] at hx; exact hx
      have := O.fps nm o h1 hd x hx'
      refine ⟨fun hf => ?_, Nat.lt_of_lt_of_le this.2.1 O'.size, this.2.2⟩
      rcases O'.Fsrc x hf with hf | hf | hf
      · exact this.1 hf
      · exact apart nm o h1 hd hn x hx' hf
      · have := this.2.1; omega
  refine { F0F := fun b h => (hFs b (O.F0F b h)).1, Fsrc := fun b h => ?_, Flt := O'.Flt, keep := fun b hb hm => ?_, size := Nat.le_trans O.size O'.size, os := O'.os.trans O.os, tp := O'.tp.trans O.tp, out := O'.out.trans O.out,
           gen := fun nm x hx => ?_, own := fun nm o ho => ?_, fps := fpc, dis := fun nm nm' o o' ho ho' hd hd' hne x hx hx' => ?_ }
  · rcases O'.Fsrc b h with h | h | h
    · exact O.Fsrc b h
    · exact .inr (MF b h).2.2
    · exact .inr (.inr (Nat.le_trans O.size h))
  · rw [old b (Nat.lt_of_lt_of_le hb O.size) fun hx => ?_]
    · exact O.keep b hb hm
    · rcases (MF b hx).2.2 with h | h
      · exact hm h
      · omega
  · have hback : ∀ o, tab.get nm = some o → ((backT (deadT tab ns) (backN ns k gen) tout).get nm).isSome = true := fun o ho => backT_isSome (by
      rw [deadT_get]
      split
      · rfl
      · have : tab nm = some o := ho
        rw [this]; rfl)
    by_cases hβn : ∃ y, β nm = some y
    · obtain ⟨y, hy⟩ := hβn
      rcases O.gen nm y hy with h | ⟨h, hs⟩
      · exact .inl h
      · obtain ⟨o, ho⟩ := Option.isSome_iff_exists.1 hs
        exact .inr ⟨h, hback o ho⟩
    · simp only [β2] at hx
      split at hx
      · exact absurd ⟨x, hx⟩ hβn
      · split at hx
        · rename_i hdec
          have hd := of_decide_eq_true hdec
          -- a fresh name
          obtain ⟨p, hp, e⟩ := hd.2.2.2
          refine .inr ⟨hd.1, ?_⟩
          have : backN ns k gen p.1 = nm := by rw [e]; exact hd.2.2.1
          rw [← this]
          exact backT_hit hp
        · exact absurd ⟨x, hx⟩ hβn
  · by_cases hd : o = .dead
    · subst hd; exact True.intro
    · rcases cls nm o ho hd with ⟨n, o', h1, h2, h3, hb, hg, q, hq⟩ | ⟨h1, hn, hb, hg⟩
      · rw [h3, h2, ← h2, hg]
        subst h2
        refine OwnOK.ren (fun m hm x hx => bN m ?_ x hx) (fun _ x hx => by rw [hb]; exact hx) (O'.own n o' h1)
        exact N.cont _ (Tab.of_mem h1) m hm
      · rw [hg]
        exact OwnOK.mono hFs b1 (fun b s c _ hb' => old b (O.blk_lt h1 hd (.inl ⟨s, c, hb'⟩)) (apart nm o h1 hd hn b (.inl ⟨s, c, hb'⟩))) (fun b _ hg' => old b (O.blk_lt h1 hd (.inr hg')) (apart nm o h1 hd hn b (.inr hg'))) (O.own nm o h1)
  · rcases cls nm o ho hd with ⟨n, o1, h1, h2, h3, hb, hg, _⟩ | ⟨h1, hn, hb, hg⟩ <;> rcases cls nm' o' ho' hd' with ⟨n', o1', h1', h2', h3', hb', hg', _⟩ | ⟨h1', hn', hb', hg'⟩
    · have k1 : fp β' γ' n x := by unfold fp at hx ⊢; rw [hb, hg] at hx; exact hx
      have k2 : fp β' γ' n' x := by unfold fp at hx' ⊢; rw [hb', hg'] at hx'; exact hx'
      exact O'.dis n n' o1 o1' h1 h1' (fun e => hd (by rw [h3, e]; rfl)) (fun e => hd' (by rw [h3', e]; rfl)) (fun e => hne (by rw [h2, h2', e])) x k1 k2
    · have k1 : fp β' γ' n x := by unfold fp at hx ⊢; rw [hb, hg] at hx; exact hx
      have k2 : fp β γ nm' x := by unfold fp at hx' ⊢; rw [hb', hg'] at hx'; exact hx'
      rcases (O'.fps n o1 h1 (fun e => hd (by rw [h3, e]; rfl)) x k1).2.2 with hm | hm
      · exact apart nm' o' h1' hd' hn' x k2 hm
      · have := (O.fps nm' o' h1' hd' x k2).2.1; omega
    · have k1 : fp β γ nm x := by unfold fp at hx ⊢; rw [hb, hg] at hx; exact hx
      have k2 : fp β' γ' n' x := by unfold fp at hx' ⊢; rw [hb', hg'] at hx'; exact hx'
      rcases (O'.fps n' o1' h1' (fun e => hd' (by rw [h3', e]; rfl)) x k2).2.2 with hm | hm
      · exact apart nm o h1 hd hn x k1 hm
      · have := (O.fps nm o h1 hd x k1).2.1; omega
    · have k1 : fp β γ nm x := by unfold fp at hx ⊢; rw [hb, hg] at hx; exact hx
      have k2 : fp β γ nm' x := by unfold fp at hx' ⊢; rw [hb', hg'] at hx'; exact hx'
      exact O.dis nm nm' o o' h1 h1' hd hd' hne x k1 k2
end
end Go.Eng
namespace Go.Eng
variable [HasG]
set_option linter.unusedSectionVars false
set_option linter.unusedVariables false
set_option linter.unusedSimpArgs false

/-! ### a call that only looks at own memory -/
mutual
theorem namesD_ren {ρ : Nm → Nm} {m : Nm} : ∀ {d : D}, m ∈ namesD (renD ρ d) → ∃ m0 ∈ namesD d, m = ρ m0
  | .ptr .., h | .elp .., h | .own .., h | .mp _, h | .it _, h => by simp only [renD, namesD, List.mem_singleton] at h ⊢; exact ⟨_, rfl, h⟩
  | .lit _, h | .any, h | .sl .., h | .fm .., h => by simp [renD, namesD] at h
  | .agg cs, h | .tup cs, h | .sx _ cs, h => by simp only [renD, namesD] at h ⊢; exact namesDs_ren h
  | .fn f fs cs, h => by
    simp only [renD, namesD, List.mem_append] at h ⊢
    rcases h with h | h
    · obtain ⟨m0, h1, h2⟩ := namesDs_ren h; exact ⟨m0, .inl h1, h2⟩
    · obtain ⟨m0, h1, h2⟩ := namesDs_ren h; exact ⟨m0, .inr h1, h2⟩
  | .iface t d, h | .whn _ d, h | .el d, h => by simp only [renD, namesD] at h ⊢; exact namesD_ren h
theorem namesDs_ren {ρ : Nm → Nm} {m : Nm} : ∀ {ds : List D}, m ∈ namesDs (renDs ρ ds) → ∃ m0 ∈ namesDs ds, m = ρ m0
  | [], h => by simp [renDs, namesDs] at h
  | d :: ds, h => by
    simp only [renDs, namesDs, List.mem_append] at h ⊢
    rcases h with h | h
    · obtain ⟨m0, h1, h2⟩ := namesD_ren h; exact ⟨m0, .inl h1, h2⟩
    · obtain ⟨m0, h1, h2⟩ := namesDs_ren h; exact ⟨m0, .inr h1, h2⟩
end
theorem namesO_ren {ρ : Nm → Nm} {m : Nm} {o : OO} (h : m ∈ namesO (renO ρ o)) : ∃ m0 ∈ namesO o, m = ρ m0 := by
  cases o <;> simp only [renO, namesO] at h ⊢
  case box d => exact namesD_ren h
  all_goals simp at h
mutual
theorem flatD_ren {ρ : Nm → Nm} : ∀ {d : D}, flatD (renD ρ d) = flatD d
  | .ptr .. | .elp .. | .own .. | .mp _ | .it _ | .lit _ | .any | .sl .. | .fm .. => by simp only [renD, flatD]
  | .agg cs | .tup cs => by simp only [renD, flatD]; exact flatDs_ren
  | .sx s cs => by simp only [renD, flatD]; cases cs <;> simp [renDs]
  | .fn f fs cs => by simp only [renD, flatD]; rw [flatDs_ren, flatDs_ren]
  | .iface t d | .whn _ d => by simp only [renD, flatD]; exact flatD_ren
  | .el d => by simp only [renD, flatD]
theorem flatDs_ren {ρ : Nm → Nm} : ∀ {ds : List D}, flatDs (renDs ρ ds) = flatDs ds
  | [] => by simp only [renDs]
  | d :: ds => by simp only [renDs, flatDs, flatD_ren (d := d), flatDs_ren (ds := ds)]
end
theorem flatO_ren {ρ : Nm → Nm} {o : OO} : flatO (renO ρ o) = flatO o := by
  cases o <;> simp only [renO, flatO, flatD_ren]
section
variable {P : Program} {W0 : World} {M0 F0 F : Nat → Prop} {β : Beta} {γ : Nm → Nat → Prop} {tab : Tab} {gen : Nat} {w : World}
structure LendOk (tab : Tab) (k gen fuel : Nat) (ds : List D) (r : D) (news : List (Nm × OO)) : Prop where
  lend : lendOk.lendOks tab fuel ds
  pure : puresD (ds.map (lendD tab fuel)) = true
  flat : flatD r = true
  flats : ∀ p ∈ news, flatO p.2 = true
  res : ∀ nm ∈ namesD r, nm ∈ news.map (·.1)
  outs : ∀ p ∈ news, p.1.2 = 1 ∧ tab.get (k + 1000 * p.1.1, gen) = none
  cont : ∀ p ∈ news, ∀ nm ∈ namesO p.2, nm ∈ news.map (·.1)
theorem backT_over {T : Tab} {ρ : Nm → Nm} {l : List (Nm × OO)} : backT T ρ l = fun n => match backT Tab.nil ρ l n with | some o => some o | none => T n := by
  induction l with
  | nil => funext n; rfl
  | cons p l ih =>
    obtain ⟨n, o⟩ := p
    funext x
    simp only [backT, Tab.set]
    split
    · rfl
    · rw [ih]
theorem backT_src {ρ : Nm → Nm} {l : List (Nm × OO)} {nm : Nm} {o : OO} (h : backT Tab.nil ρ l nm = some o) : ∃ p ∈ l, nm = ρ p.1 := by
  induction l with
  | nil => cases h
  | cons p l ih =>
    obtain ⟨n, q⟩ := p
    simp only [backT, Tab.set] at h
    split at h
    · rename_i e; exact ⟨(n, q), by simp, e.symm⟩
    · obtain ⟨p, hp, e⟩ := ih h; exact ⟨p, by simp [hp], e⟩
set_option maxHeartbeats 1000000 in
theorem PC.calls {f : FuncId} {k fuel : Nat} {ds : List D} {r : D} {news : List (Nm × OO)} {vs : List Value} (O : Own W0 M0 F0 F β γ tab gen w) (L : LendOk tab k gen fuel ds r news) (G : GlobF F w.heap) (h : PC P f (ds.map (lendD tab fuel)) r news) (hr : Reps F w.heap β ds vs) :
    Calls P f vs.toArray w fun e w' => ∃ v F' β' γ', e = .returned v ∧ Own W0 M0 F0 F' β' γ' (backT tab (backN [] k gen) news) gen w' ∧ (∀ b, F b → F' b ∧ w'.heap[b]? = w.heap[b]?) ∧ (∀ n x, β n = some x → β' n = some x) ∧
      Rep F' w'.heap β' (renD (backN [] k gen) r) v := by
  let F1 : Nat → Prop := fun b => F b ∨ Mof β γ tab b
  have F1lt : ∀ b, F1 b → b < w.heap.size := fun b hb => by
    rcases hb with hb | ⟨nm, o, h1, h2, h3⟩
    · exact O.Flt b hb
    · exact (O.fps nm o h1 h2 b h3).2.1
  have O1 : Own w (fun _ => False) F1 F1 Beta.none γ Tab.nil gen w := by
    refine { F0F := fun b h => h, Fsrc := fun b h => .inl h, Flt := F1lt, keep := fun _ _ _ => rfl, size := Nat.le_refl _, os := rfl, tp := rfl, out := rfl, gen := fun nm x h => (by cases h), own := fun nm o h => (by cases h), fps := fun nm o h => (by cases h), dis := fun nm nm' o o' h => (by cases h) }
  have hc : canonT Tab.nil (canonN []) [] 0 = some [] := rfl
  have e1 : renDs (canonN []) (ds.map (lendD tab fuel)) = ds.map (lendD tab fuel) := pure_rens L.pure
  have hmem : ∀ nm, nm ∈ news.map (·.1) → nm.2 = 1 ∧ nm ∈ news.map (·.1) := fun nm hm => by
    obtain ⟨p, hp, rfl⟩ := List.mem_map.1 hm
    exact ⟨(L.outs p hp).1, hm⟩
  have N : NamesOk Tab.nil [] k gen (ds.map (lendD tab fuel)) r news := ⟨by simp, by rw [pure_names L.pure]; simp, by simp, fun p hp => .inr ⟨(L.outs p hp).1, rfl⟩, fun nm hm => .inr (hmem _ (L.res nm hm)), fun p hp nm hm => .inr (hmem _ (L.cont p hp nm hm))⟩
  refine (PCo.calls (γ := γ) O1 hc N (G.mono fun b hb => ⟨.inl hb, rfl⟩) (by rw [e1]; exact h) (lends_rep O.own fuel ds L.lend hr)).mono fun e w' ⟨v, F', β', γ', he, O', hF, hβ, hv⟩ => ?_
  have old : ∀ b, b < w.heap.size → w'.heap[b]? = w.heap[b]? := fun b hb => O'.keep b hb id
  let N' : Tab := backT Tab.nil (backN [] k gen) news
  have fresh : ∀ nm o, N' nm = some o → tab.get nm = none ∧ β nm = none := fun nm o ho => by
    obtain ⟨p, hp, rfl⟩ := backT_src ho
    obtain ⟨h1, h2⟩ := L.outs p hp
    have e : backN [] k gen p.1 = (k + 1000 * p.1.1, gen) := by unfold backN; rw [if_neg (by omega)]
    rw [e]
    refine ⟨h2, ?_⟩
    cases hb : β (k + 1000 * p.1.1, gen) with
    | none => rfl
    | some x =>
      rcases O.gen _ x hb with h | ⟨_, h⟩
      · simp at h
      · rw [h2] at h; cases h
  let β2 : Beta := fun nm => match N' nm with | some _ => β' nm | none => β nm
  let γ2 : Nm → Nat → Prop := fun nm => match N' nm with | some _ => γ' nm | none => γ nm
  let F2 : Nat → Prop := fun b => F b ∨ (F' b ∧ w.heap.size ≤ b)
  have b1 : ∀ nm x, β nm = some x → β2 nm = some x := fun nm x hx => by
    simp only [β2]
    split
    · rename_i o ho; rw [(fresh nm o ho).2] at hx; cases hx
    · exact hx
  have isN : ∀ nm, nm ∈ news.map (·.1) → (N' (backN [] k gen nm)).isSome = true := fun nm hm => by
    obtain ⟨p, hp, rfl⟩ := List.mem_map.1 hm
    exact backT_hit hp
  have b2 : ∀ nm, (N' nm).isSome = true → ∀ x, β' nm = some x → β2 nm = some x := fun nm h1 x hx => by
    obtain ⟨o, ho⟩ := Option.isSome_iff_exists.1 h1
    simp only [β2, ho]; exact hx
  have fpN : ∀ nm o, N' nm = some o → ∀ x, fp β2 γ2 nm x → fp β' γ' nm x := fun nm o ho x hx => by simpa only [fp, β2, γ2, ho] using hx
  have fpO : ∀ nm, N' nm = none → ∀ x, fp β2 γ2 nm x → fp β γ nm x := fun nm ho x hx => by simpa only [fp, β2, γ2, ho] using hx
  have ov : ∀ nm o, (backT tab (backN [] k gen) news).get nm = some o → N' nm = some o ∨ (N' nm = none ∧ tab.get nm = some o) := fun nm o ho => by
    rw [backT_over] at ho
    simp only [Tab.get] at ho
    split at ho
    · rename_i o' e; cases ho; exact .inl e
    · rename_i e; exact .inr ⟨e, ho⟩
  have newblk : ∀ nm o, N' nm = some o → o ≠ .dead → ∀ x, fp β' γ' nm x → ¬ F' x ∧ x < w'.heap.size ∧ w.heap.size ≤ x := fun nm o ho hd x hx => by
    have := O'.fps nm o ho hd x hx
    exact ⟨this.1, this.2.1, this.2.2.resolve_left id⟩
  have flatN : ∀ nm o, N' nm = some o → flatO o = true ∧ ∀ n ∈ namesO o, (N' n).isSome = true := by
    have key : ∀ (l : List (Nm × OO)), (∀ p ∈ l, flatO p.2 = true ∧ ∀ nm ∈ namesO p.2, nm ∈ news.map (·.1)) → ∀ nm o, backT Tab.nil (backN [] k gen) l nm = some o → flatO o = true ∧ ∀ n ∈ namesO o, (N' n).isSome = true := by
      intro l
      induction l with
      | nil => intro _ nm o h; cases h
      | cons p l ih =>
        obtain ⟨n, q⟩ := p
        intro hl nm o h
        simp only [backT, Tab.set] at h
        split at h
        · simp only [Option.some.injEq] at h; subst h
          have hq := hl (n, q) (by simp)
          refine ⟨by rw [flatO_ren]; exact hq.1, fun m hm => ?_⟩
          obtain ⟨m0, h0, rfl⟩ := namesO_ren hm
          exact isN m0 (hq.2 m0 h0)
        · exact ih (fun p hp => hl p (by simp [hp])) nm o h
    exact key news fun p hp => ⟨L.flats p hp, L.cont p hp⟩
  have fps : ∀ nm o, (backT tab (backN [] k gen) news).get nm = some o → o ≠ .dead → ∀ x, fp β2 γ2 nm x → ¬ F2 x ∧ x < w'.heap.size ∧ (M0 x ∨ W0.heap.size ≤ x) := fun nm o ho hd x hx => by
    rcases ov nm o ho with h1 | ⟨h0, h1⟩
    · have := newblk nm o h1 hd x (fpN nm o h1 x hx)
      refine ⟨fun hf => hf.elim (fun hf => ?_) (fun hf => this.1 hf.1), this.2.1, .inr (Nat.le_trans O.size this.2.2)⟩
      have := O.Flt x hf; omega
    · have := O.fps nm o h1 hd x (fpO nm h0 x hx)
      refine ⟨fun hf => hf.elim this.1 (fun hf => ?_), Nat.lt_of_lt_of_le this.2.1 O'.size, this.2.2⟩
      have := this.2.1; omega
  have resN : ∀ nm ∈ namesD (renD (backN [] k gen) r), ∀ x, β' nm = some x → β2 nm = some x := fun nm hm => by
    obtain ⟨m0, h0, rfl⟩ := namesD_ren hm
    exact b2 _ (isN m0 (L.res m0 h0))
  refine ⟨v, F2, β2, γ2, he, ?_, fun b hb => ⟨.inl hb, old b (O.Flt b hb)⟩, b1, Rep.rename resN (Rep.flat _ (by rw [flatD_ren]; exact L.flat) hv)⟩
  refine { F0F := fun b h => .inl (O.F0F b h), Fsrc := fun b h => ?_, Flt := fun b hb => ?_, keep := fun b hb hm => (old b (Nat.lt_of_lt_of_le hb O.size)).trans (O.keep b hb hm), size := Nat.le_trans O.size O'.size, os := O'.os.trans O.os, tp := O'.tp.trans O.tp, out := O'.out.trans O.out,
           gen := fun nm x hx => ?_, own := fun nm o ho => ?_, fps := fps, dis := fun nm nm' o o' ho ho' hd hd' hne x hx hx' => ?_ }
  · rcases h with h | h
    · exact O.Fsrc b h
    · exact .inr (.inr (Nat.le_trans O.size h.2))
  · rcases hb with hb | hb
    · exact Nat.lt_of_lt_of_le (O.Flt b hb) O'.size
    · exact O'.Flt b hb.1
  · simp only [β2] at hx
    split at hx
    · rename_i o ho
      rcases O'.gen nm x hx with h | ⟨h, _⟩
      · exact .inl h
      · refine .inr ⟨h, ?_⟩
        rw [backT_over]; simp only [Tab.get]
        rw [show backT Tab.nil (backN [] k gen) news nm = some o from ho]; rfl
    · rename_i ho
      rcases O.gen nm x hx with h | ⟨h, h2⟩
      · exact .inl h
      · refine .inr ⟨h, ?_⟩
        exact backT_isSome h2
  · rcases ov nm o ho with h1 | ⟨h0, h1⟩
    · have eγ : γ2 nm = γ' nm := by simp only [γ2, h1]
      rw [eγ]
      have hfl := flatN nm o h1
      exact OwnOK.rename (fun n hn' x hx => b2 n (hfl.2 n hn') x hx) (fun _ x hx => b2 nm (by rw [h1]; rfl) x hx) (OwnOK.flat hfl.1 (O'.own nm o h1))
    · have eγ : γ2 nm = γ nm := by simp only [γ2, h0]
      rw [eγ]
      by_cases hd : o = .dead
      · subst hd; exact True.intro
      · exact OwnOK.mono (fun b hb => ⟨.inl hb, old b (O.Flt b hb)⟩) b1 (fun b s c _ hb => old b (O.fps nm o h1 hd b (.inl ⟨s, c, hb⟩)).2.1) (fun b _ hg => old b (O.fps nm o h1 hd b (.inr hg)).2.1) (O.own nm o h1)
  · rcases ov nm o ho with h1 | ⟨h0, h1⟩ <;> rcases ov nm' o' ho' with h1' | ⟨h0', h1'⟩
    · exact O'.dis nm nm' o o' h1 h1' hd hd' hne x (fpN nm o h1 x hx) (fpN nm' o' h1' x hx')
    · have a1 := (newblk nm o h1 hd x (fpN nm o h1 x hx)).2.2
      have a2 := (O.fps nm' o' h1' hd' x (fpO nm' h0' x hx')).2.1
      omega
    · have a1 := (newblk nm' o' h1' hd' x (fpN nm' o' h1' x hx')).2.2
      have a2 := (O.fps nm o h1 hd x (fpO nm h0 x hx)).2.1
      omega
    · exact O.dis nm nm' o o' h1 h1' hd hd' hne x (fpO nm h0 x hx) (fpO nm' h0' x hx')
end
end Go.Eng
namespace Go.Eng
variable [HasG]
set_option linter.unusedSectionVars false
set_option linter.unusedVariables false
set_option linter.unusedSimpArgs false

/-- a method by value of the type 't' is the function 'f' -/
def Meth (P : Program) (t : TypeId) (name : String) (f : FuncId) : Prop := ∀ v w, (method (P.types.size + Made.depth) t v name).run P w = .ok (f, v) w
def strip : D → D
  | .whn _ d => d
  | d => d
def scond (g : Bool) : D → Prop
  | .whn g' _ => g = true → g' = true
  | _ => True
def sconds (g : Bool) (ts : Ts) : List Operand → Prop
  | [] => True
  | x :: r => scond g (opd ts x) ∧ sconds g ts r
theorem rep_strip {F h β} {g : Bool} {d : D} {v : Value} (hg : g = true) (hs : scond g d) (r : Rep F h β d v) : Rep F h β (strip d) v := by
  cases d <;> try exact r
  case whn g' d =>
    simp only [Rep] at r
    exact r.1 (hs hg)
theorem sconds_mem {g : Bool} {ts : Ts} : ∀ {l : List Operand}, sconds g ts l → ∀ x ∈ l, scond g (opd ts x)
  | [], _, _, h => by simp at h
  | y :: l, h, x, hx => by
    rcases List.mem_cons.1 hx with rfl | hx
    · exact h.1
    · exact sconds_mem h.2 x hx

def gdD (ops : Array Oper) (o : Oper) (ts : Ts) : Option Bool :=
  match o.guard with
  | none => some true
  | some (j, want) => match (ops[j]?).bind (·.dst) with
    | none => none
    | some t => match tget ts t with
      | .lit (.bool b) => some (b == want)
      | .whn g (.lit (.bool b)) => some (g && (b == want))
      | _ => none
theorem yielded_at {ops : Array Oper} {j t : Nat} {tmps : Array Value} (ht : (ops[j]?).bind (·.dst) = some t) :
    yielded ops tmps j = match tmps.getD t undef with | .bool b => some b | _ => none := by
  unfold yielded
  rw [ht]
  cases h : tmps[t]? with
  | none => simp [h, undef]
  | some v => cases v <;> simp [h]
theorem gdD_sound {F h β} {ops : Array Oper} {o : Oper} {ts : Ts} {a : Act} {g : Bool} (r : ∀ t, Rep F h β (tget ts t) (a.tmps.getD t undef)) (hg : gdD ops o ts = some g) :
    Region.wanted o (yielded ops a.tmps) = g := by
  unfold gdD at hg
  unfold Region.wanted
  split at hg
  · rename_i h0; simp only [Option.some.injEq] at hg; subst hg; simp [h0]
  · rename_i j want h0
    simp only [h0]
    split at hg
    · simp at hg
    · rename_i t ht
      have hr := r t
      split at hg
      · rename_i b hb
        simp only [Option.some.injEq] at hg; subst hg
        rw [hb] at hr; simp only [Rep] at hr
        rw [yielded_at ht, hr]
        cases b <;> cases want <;> rfl
      · rename_i g' b hb
        simp only [Option.some.injEq] at hg; subst hg
        rw [hb] at hr; simp only [Rep] at hr
        cases g' with
        | true => rw [yielded_at ht, hr.1 rfl]; cases b <;> cases want <;> rfl
        | false => rw [yielded_at ht, hr.2 rfl]; rfl
      · simp at hg

def pickD (x : Bool) (a b : D) : Option D :=
  match a, b with
  | .any, b => bif x then none else some b
  | a, .any => bif x then some a else none
  | .lit (.bool p), .lit (.bool q) => some (.lit (.bool (bif x then p else q)))
  | .lit (.int k p), .lit (.int k' q) => if k = k' then some (.lit (.int k (bif x then p else q))) else none
  | .lit (.string p), .lit (.string q) => some (.lit (.string (bif x then p else q)))
  | _, _ => none
theorem pickD_sound {F h β} {x : Bool} {a b d : D} {va vb : Value} (hp : pickD x a b = some d) (ra : x = true → Rep F h β a va) (rb : x = false → Rep F h β b vb) :
    Rep F h β d (if x then va else vb) := by
  unfold pickD at hp
  split at hp
  · cases x with
    | true => simp at hp
    | false => simp only [cond_false, Option.some.injEq] at hp; subst hp; simpa using rb rfl
  · cases x with
    | false => simp at hp
    | true => simp only [cond_true, Option.some.injEq] at hp; subst hp; simpa using ra rfl
  · simp only [Option.some.injEq] at hp; subst hp
    cases x <;> simp_all [Rep]
  · split at hp
    · rename_i hk; subst hk
      simp only [Option.some.injEq] at hp; subst hp
      cases x <;> simp_all [Rep]
    · simp at hp
  · simp only [Option.some.injEq] at hp; subst hp
    cases x <;> simp_all [Rep]
  · simp at hp

def mkwhn (gd : Option (Nat × Bool)) (g : Bool) (d : D) : D :=
  match gd with
  | none => d
  | some _ => .whn g d
def nmOf (base : Nat) (o : Oper) : Nat := base + (o.dst.getD 0)

def addLT (T : Tab) : List (Nm × OO) → Tab
  | [] => T
  | (n, o) :: r => (addLT T r).set n o
/-- what an operation does to the store -/
inductive TE where
  | none
  | op (e : Eff)
  | tab (T : Tab)
  | add (L : List (Nm × OO))
  | upd (ns : List Nm) (L : List (Nm × OO))
def S.eff (σ : S) (k : Nat) : TE → S
  | .none => σ
  | .op e => { σ with tab := applyE σ.tab (k, σ.gen) e }
  | .tab T => { σ with tab := T }
  | .add L => { σ with tab := addLT σ.tab L }
  | .upd ns L => { σ with tab := addLT (deadT σ.tab ns) L }

/-- the function that a call enters, with what it is given -/
def CallTo (P : Program) (ts : Ts) (c : Call) (fid : FuncId) (ds : List D) : Prop :=
  match c.callee with
  | .value f => match strip (opd ts f) with
    | .fn (.func fid') fs cs => fid' = fid ∧ ds = fs ++ (c.args.toList.map fun x => strip (opd ts x)) ++ cs
    | _ => False
  | .invoke x name => match strip (opd ts x) with
    | .iface t d => Meth P t name fid ∧ ds = d :: (c.args.toList.map fun x => strip (opd ts x))
    | _ => False
  | _ => False
/-- a method of what a pointer of the type 't' points to (of the type 'e') is the function 'f' -/
def MethD (P : Program) (t : TypeId) (name : String) (f : FuncId) (e : TypeId) : Prop := ∀ a w, (method (P.types.size + Made.depth) t (.pointer (some a)) name).run P w = (do let u ← loadVar e a; pure (f, u) : Sem (FuncId × Value)).run P w
/-- a call of such a method: what the box holds is handed over -/
def CallTD (Γ : Ctx) (P : Program) (ts : Ts) (tab : Tab) (c : Call) (fid : FuncId) (ds : List D) : Prop :=
  ∃ x name t nm off e ti r, c.callee = .invoke x name ∧ strip (opd ts x) = .iface t (.ptr nm off) ∧ MethD P t name fid e ∧ Γ.get e = some ti ∧ loadD ti tab (.ptr nm off) = some r ∧ ds = r.d :: (c.args.toList.map fun x => strip (opd ts x))
def CallT2 (Γ : Ctx) (P : Program) (ts : Ts) (tab : Tab) (c : Call) (fid : FuncId) (ds : List D) : Prop := CallTo P ts c fid ds ∨ CallTD Γ P ts tab c fid ds
def CallP (P : Program) (g : Bool) (ts : Ts) (c : Call) (r : D) : Prop :=
  ∃ fid ds, CallTo P ts c fid ds ∧ sconds g ts c.operands.toList ∧ puresD ds = true ∧ pureD r = true ∧ (g = true → PCo P fid ds Tab.nil r Tab.nil)
def CallE (Γ : Ctx) (P : Program) (ts : Ts) (tab : Tab) (k gen : Nat) (c : Call) (r : D) (T : Tab) : Prop :=
  ∃ fid ds, CallT2 Γ P ts tab c fid ds ∧ sconds true ts c.operands.toList ∧
    ((∃ ns tin tout r0, canonT tab (canonN ns) ns 0 = some tin ∧ NamesOk tab ns k gen ds r0 tout ∧ PCo P fid (renDs (canonN ns) ds) (Tab.of tin) r0 (Tab.of tout) ∧ T = backT (deadT tab ns) (backN ns k gen) tout ∧ r = renD (backN ns k gen) r0) ∨
     (∃ fuel news r0, LendOk tab k gen fuel ds r0 news ∧ PC P fid (ds.map (lendD tab fuel)) r0 news ∧ T = backT tab (backN [] k gen) news ∧ r = renD (backN [] k gen) r0))

/-- rows of one's own are lent, and nothing is kept: also where it is not sure that the call is made -/
def CallL (Γ : Ctx) (P : Program) (g : Bool) (ts : Ts) (tab : Tab) (k gen : Nat) (c : Call) (r : D) : Prop :=
  ∃ fid ds fuel, CallT2 Γ P ts tab c fid ds ∧ sconds g ts c.operands.toList ∧ pureD r = true ∧ (g = true → LendOk tab k gen fuel ds r [] ∧ PC P fid (ds.map (lendD tab fuel)) r [])

def isGoCall : Op → Bool
  | .call ⟨.value _, _, _⟩ => true
  | .call ⟨.invoke _ _, _, _⟩ => true
  | _ => false
def freshE (tab : Tab) (nm : Nm) : Eff → Prop
  | .new _ => tab.get nm = none
  | .app _ _ => tab.get nm = none
  | .split _ _ _ => tab.get nm = none
  | _ => True
def Eff.still : Eff → Bool
  | .none => true
  | .frz => true
  | _ => false

/-- plain data are handed over, and there may be new memory -/
def CallD (P : Program) (ts : Ts) (tab : Tab) (k gen : Nat) (c : Call) (r : D) (L : List (Nm × OO)) : Prop :=
  ∃ fid ds r0 news, CallTo P ts c fid ds ∧ sconds true ts c.operands.toList ∧ NamesOk tab [] k gen ds r0 news ∧ (∀ p ∈ news, p.1.2 = 1) ∧ PCo P fid (renDs (canonN []) ds) (Tab.of []) r0 (Tab.of news) ∧
    L = (news.map fun p => (backN [] k gen p.1, renO (backN [] k gen) p.2)) ∧ r = renD (backN [] k gen) r0
def isAppend : Op → Bool
  | .call q => match q.callee with
    | .builtin .append => true
    | _ => false
  | _ => false
/-- how the calls of a region are: any of 'pl' leaves own memory alone; all do; all are given plain data, and may make new memory -/
inductive Md where
  | any (pl : List Nat)
  | pure
  | news (xl : List Nat)
  | frz (pl : List Nat)
  | lent (ll : List Nat)
def Md.pureCall (c : Md) (q : Call) : Bool := match c with
  | .pure => true
  | .frz pl => match q.callee with
    | .value (.func f) => pl.contains (f + 1000000)
    | _ => false
  | .lent _ => false
  | .any pl => match q.callee with
    | .value (.func f) => pl.contains (f + 1000000)
    | _ => false
  | .news _ => false
def Md.isNews : Md → Bool
  | .news _ => true
  | _ => false
/-- a call that is lent own memory and changes nothing, in a region of such a way -/
def Md.lentCall (c : Md) (q : Call) : Bool := match c with
  | .lent ll => match q.callee with
    | .value (.func f) => ll.contains (f + 4000000)
    | _ => false
  | _ => false
/-- the loads of such a region are of frozen data -/
def Md.isFrz : Md → Bool
  | .frz _ => true
  | _ => false
/-- a call that is given plain data only: it goes with what else makes memory -/
def Md.freeCall (c : Md) (q : Call) : Bool := match c with
  | .news xl => match q.callee with
    | .value (.func f) => !xl.contains (f + 2000000) && !xl.contains (f + 8000000) && !xl.contains (f + 9000000)
    | _ => true
  | _ => false
/-- a call that is lent older own memory and may make new memory, in a region of the way 'news': 'f + 8000000' -/
def Md.barCall (c : Md) (q : Call) : Bool := match c with
  | .news xl => match q.callee with
    | .value (.func f) => xl.contains (f + 8000000)
    | _ => false
  | _ => false
/-- a call that changes older memory of one's own, in a region of the way 'news' whose loads are of other boxes: 'f + 9000000' -/
def Md.apCall (c : Md) (q : Call) : Bool := match c with
  | .news xl => match q.callee with
    | .value (.func f) => xl.contains (f + 9000000)
    | _ => false
  | _ => false
/-- the names that such calls may touch: 'n + 10000000' -/
def Md.hot (c : Md) (n : Nat) : Bool := match c with
  | .news xl => xl.contains (n + 10000000)
  | _ => false
theorem Md.ap_free {c : Md} {q : Call} (h : c.apCall q = true) : c.freeCall q = false := by
  cases c <;> simp only [Md.apCall, Bool.false_eq_true] at h
  simp only [Md.freeCall]
  split at h
  · rw [h]; simp
  · cases h
theorem Md.ap_news {c : Md} {q : Call} (h : c.apCall q = true) : c.isNews = true := by
  cases c <;> simp only [Md.apCall, Bool.false_eq_true] at h
  rfl
theorem Md.bar_free {c : Md} {q : Call} (h : c.barCall q = true) : c.freeCall q = false := by
  cases c <;> simp only [Md.barCall, Bool.false_eq_true] at h
  simp only [Md.freeCall]
  split at h
  · rw [h]; simp
  · cases h
theorem Md.bar_news {c : Md} {q : Call} (h : c.barCall q = true) : c.isNews = true := by
  cases c <;> simp only [Md.barCall, Bool.false_eq_true] at h
  rfl
/-- whatever is looked at while a row is lent is older than this region -/
def oldD (T : Tab) (gen : Nat) : Nat → D → Bool
  | 0, _ => true
  | k + 1, d => match d with
    | .own nm _ _ _ => decide (nm.2 ≠ gen)
    | .ptr nm _ => decide (nm.2 ≠ gen) && (match T.get nm with
      | some (.box d) => oldD T gen k d
      | _ => true)
    | .elp nm _ _ => decide (nm.2 ≠ gen)
    | .mp nm => decide (nm.2 ≠ gen)
    | .agg cs => oldDs T gen k cs
    | .tup cs => oldDs T gen k cs
    | .sx _ xs => oldDs T gen k xs
    | .fn _ fs cs => oldDs T gen k fs && oldDs T gen k cs
    | .iface _ d => oldD T gen k d
    | .whn _ d => oldD T gen k d
    | .el d => oldD T gen k d
    | _ => true
where oldDs (T : Tab) (gen k : Nat) : List D → Bool
  | [] => true
  | d :: ds => oldD T gen k d && oldDs T gen k ds
theorem oldD_eq {T T' : Tab} {gen : Nat} (hT : ∀ nm : Nm, nm.2 ≠ gen → T'.get nm = T.get nm) : ∀ (k : Nat) (d : D), oldD T gen k d = true → lendD T' k d = lendD T k d ∧ (lendOk T k d → lendOk T' k d) ∧ oldD T' gen k d = true
  | 0, d, _ => ⟨by simp only [lendD], by simp only [lendOk]; exact id, by simp only [oldD]⟩
  | k + 1, d, h => by
    have ihs : ∀ ds : List D, oldD.oldDs T gen k ds = true → ds.map (lendD T' k) = ds.map (lendD T k) ∧ (lendOk.lendOks T k ds → lendOk.lendOks T' k ds) ∧ oldD.oldDs T' gen k ds = true := by
      intro ds
      induction ds with
      | nil => intro _; exact ⟨rfl, by simp only [lendOk.lendOks]; exact id, by simp only [oldD.oldDs]⟩
      | cons d ds ih =>
        intro h
        simp only [oldD.oldDs, Bool.and_eq_true] at h
        obtain ⟨a1, a2, a3⟩ := oldD_eq hT k d h.1
        obtain ⟨b1, b2, b3⟩ := ih h.2
        refine ⟨by simp only [List.map_cons, a1, b1], ?_, by simp only [oldD.oldDs, a3, b3, Bool.and_self]⟩
        simp only [lendOk.lendOks]
        exact fun ⟨x, y⟩ => ⟨a2 x, b2 y⟩
    cases d with
    | own nm s o n =>
      simp only [oldD, decide_eq_true_eq] at h
      have e := hT nm h
      simp only [lendD, lendOk, oldD, e, decide_eq_true_eq]
      exact ⟨trivial, id, h⟩
    | ptr nm off =>
      simp only [oldD, Bool.and_eq_true, decide_eq_true_eq] at h
      have e := hT nm h.1
      simp only [lendD, lendOk, oldD, e, Bool.and_eq_true, decide_eq_true_eq]
      cases hg : T.get nm with
      | none => exact ⟨rfl, id, h.1, rfl⟩
      | some o =>
        cases o with
        | box d =>
          have h2 := h.2
          simp only [hg] at h2
          obtain ⟨a1, a2, a3⟩ := oldD_eq hT k d h2
          exact ⟨by simp only [a1], a2, h.1, a3⟩
        | _ => exact ⟨rfl, id, h.1, rfl⟩
    | elp nm i off =>
      simp only [oldD, decide_eq_true_eq] at h
      have e := hT nm h
      simp only [lendD, lendOk, oldD, e, decide_eq_true_eq]
      exact ⟨trivial, id, h⟩
    | mp nm =>
      simp only [oldD, decide_eq_true_eq] at h
      have e := hT nm h
      simp only [lendD, lendOk, oldD, e, decide_eq_true_eq]
      exact ⟨trivial, id, h⟩
    | agg cs =>
      simp only [oldD] at h
      obtain ⟨a1, a2, a3⟩ := ihs cs h
      simp only [lendD, lendOk, oldD, a1]
      exact ⟨trivial, a2, a3⟩
    | tup cs =>
      simp only [oldD] at h
      obtain ⟨a1, a2, a3⟩ := ihs cs h
      simp only [lendD, lendOk, oldD, a1]
      exact ⟨trivial, a2, a3⟩
    | sx s xs =>
      simp only [oldD] at h
      obtain ⟨a1, a2, a3⟩ := ihs xs h
      simp only [lendD, lendOk, oldD, a1]
      exact ⟨trivial, fun ⟨x, y⟩ => ⟨a2 x, y⟩, a3⟩
    | fn f fs cs =>
      simp only [oldD, Bool.and_eq_true] at h
      obtain ⟨a1, a2, a3⟩ := ihs fs h.1
      obtain ⟨b1, b2, b3⟩ := ihs cs h.2
      simp only [lendD, lendOk, oldD, a1, b1, a3, b3]
      exact ⟨trivial, fun ⟨x, y⟩ => ⟨a2 x, b2 y⟩, rfl⟩
    | iface t d =>
      simp only [oldD] at h
      obtain ⟨a1, a2, a3⟩ := oldD_eq hT k d h
      simp only [lendD, lendOk, oldD, a1]
      exact ⟨trivial, a2, a3⟩
    | whn g d =>
      simp only [oldD] at h
      obtain ⟨a1, a2, a3⟩ := oldD_eq hT k d h
      simp only [lendD, lendOk, oldD, a1]
      exact ⟨trivial, a2, a3⟩
    | el d =>
      simp only [oldD] at h
      obtain ⟨a1, a2, a3⟩ := oldD_eq hT k d h
      simp only [lendD, lendOk, oldD, a1]
      refine ⟨trivial, ?_, a3⟩
      split
      · exact id
      · exact a2
    | lit v => exact ⟨by simp only [lendD], by simp only [lendOk]; exact id, by simp only [oldD]⟩
    | any => exact ⟨by simp only [lendD], by simp only [lendOk]; exact id, by simp only [oldD]⟩
    | sl t s z xs => exact ⟨by simp only [lendD], by simp only [lendOk]; exact id, by simp only [oldD]⟩
    | it nm => exact ⟨by simp only [lendD], by simp only [lendOk]; exact id, by simp only [oldD]⟩
    | fm kk ks z vs => exact ⟨by simp only [lendD], by simp only [lendOk]; exact id, by simp only [oldD]⟩
theorem oldDs_eq {T T' : Tab} {gen : Nat} (hT : ∀ nm : Nm, nm.2 ≠ gen → T'.get nm = T.get nm) (k : Nat) : ∀ (ds : List D), oldD.oldDs T gen k ds = true → ds.map (lendD T' k) = ds.map (lendD T k) ∧ (lendOk.lendOks T k ds → lendOk.lendOks T' k ds) ∧ oldD.oldDs T' gen k ds = true
  | [], _ => ⟨rfl, by simp only [lendOk.lendOks]; exact id, by simp only [oldD.oldDs]⟩
  | d :: ds, h => by
    simp only [oldD.oldDs, Bool.and_eq_true] at h
    obtain ⟨a1, a2, a3⟩ := oldD_eq hT k d h.1
    obtain ⟨b1, b2, b3⟩ := oldDs_eq hT k ds h.2
    refine ⟨by simp only [List.map_cons, a1, b1], ?_, by simp only [oldD.oldDs, a3, b3, Bool.and_self]⟩
    simp only [lendOk.lendOks]
    exact fun ⟨x, y⟩ => ⟨a2 x, b2 y⟩
/-- older memory of one's own, of names that no load of this region reads, is changed -/
def CallA (P : Program) (hot : Nat → Bool) (ts : Ts) (tab : Tab) (k gen : Nat) (c : Call) (r : D) (ns : List Nm) (L : List (Nm × OO)) : Prop :=
  ∃ fid ds tin tout r0, CallTo P ts c fid ds ∧ sconds true ts c.operands.toList ∧ (∀ n ∈ ns, n.2 ≠ gen ∧ hot n.1 = true) ∧ canonT tab (canonN ns) ns 0 = some tin ∧ NamesOk tab ns k gen ds r0 tout ∧
    PCo P fid (renDs (canonN ns) ds) (Tab.of tin) r0 (Tab.of tout) ∧ L = (tout.map fun p => (backN ns k gen p.1, renO (backN ns k gen) p.2)) ∧ r = renD (backN ns k gen) r0
theorem canonT_congr {T T' : Tab} {ρ : Nm → Nm} : ∀ (ns : List Nm) (i : Nat), (∀ n ∈ ns, T'.get n = T.get n) → canonT T' ρ ns i = canonT T ρ ns i
  | [], _, _ => rfl
  | n :: r, i, h => by
    simp only [canonT]
    rw [h n (by simp), canonT_congr r (i + 1) fun n hn => h n (by simp [hn])]
theorem canonT_some {T : Tab} {ρ : Nm → Nm} : ∀ (ns : List Nm) (i : Nat) {l : List (Nm × OO)}, canonT T ρ ns i = some l → ∀ n ∈ ns, T.get n ≠ none
  | [], _, _, _, n, hn => by simp at hn
  | m :: r, i, l, h, n, hn => by
    simp only [canonT] at h
    split at h
    · cases h
    · rename_i o hne ho
      split at h
      · rename_i l' hl
        rcases List.mem_cons.1 hn with rfl | hn
        · rw [ho]; simp
        · exact canonT_some r (i + 1) hl n hn
      · cases h
    · cases h
theorem deadT_at {T : Tab} : ∀ (ns : List Nm) (n : Nm), (deadT T ns).get n = if n ∈ ns then some .dead else T.get n
  | [], n => by simp [deadT]
  | m :: r, n => by
    simp only [deadT, Tab.get_set, deadT_at r n, List.mem_cons]
    by_cases h : m = n
    · subst h; simp
    · rw [if_neg h]
      by_cases h2 : n ∈ r
      · simp [h2]
      · rw [if_neg h2, if_neg (by rintro (e | e); exact h e.symm; exact h2 e)]
/-- older own memory is lent, and there may be new memory -/
def CallN (P : Program) (ts : Ts) (tab : Tab) (k gen : Nat) (c : Call) (r : D) (L : List (Nm × OO)) : Prop :=
  ∃ fid ds fuel r0 news, CallTo P ts c fid ds ∧ sconds true ts c.operands.toList ∧ oldD.oldDs tab gen fuel ds = true ∧ LendOk tab k gen fuel ds r0 news ∧ PC P fid (ds.map (lendD tab fuel)) r0 news ∧
    L = (news.map fun p => (backN [] k gen p.1, renO (backN [] k gen) p.2)) ∧ r = renD (backN [] k gen) r0
/-- a region's way: 'id' stands for 'pure', 'id + 1000' for 'news'; 'f + 1000000' names a function whose calls leave own memory alone, 'f + 2000000' one that may be lent own memory in a region of the way 'news' -/
def mdOf (fl : List Nat) (id : Nat) : Md := if fl.contains id then .pure else if fl.contains (id + 1000) then .news fl else if fl.contains (id + 3000) then .frz fl else if fl.contains (id + 5000) then .lent fl else .any fl
/-- a region whose loads are of older boxes only -/
def cApp (c : Md) (ops : Array Oper) : Bool := c.isNews
theorem cApp_any (pl : List Nat) (ops : Array Oper) : cApp (.any pl) ops = false := rfl
theorem cApp_lent (pl : List Nat) (ops : Array Oper) : cApp (.lent pl) ops = false := rfl
theorem cApp_frz (pl : List Nat) (ops : Array Oper) : cApp (.frz pl) ops = false := rfl
theorem cApp_pure (ops : Array Oper) : cApp .pure ops = false := rfl
theorem cApp_news (xl : List Nat) (ops : Array Oper) : cApp (.news xl) ops = true := rfl
/-- new objects are added to a table -/
abbrev addL := addLT
def findL : List (Nm × OO) → Nm → Option OO
  | [], _ => none
  | (a, o) :: r, n => if a = n then some o else findL r n
theorem addL_get (T : Tab) (n : Nm) : ∀ (L : List (Nm × OO)), (addL T L).get n = match findL L n with | some o => some o | none => T.get n
  | [] => rfl
  | (a, o) :: r => by
    have := addL_get T n r
    simp only [addL, addLT, findL, Tab.get_set]
    split
    · rfl
    · exact this
theorem findL_mem {n : Nm} {o : OO} : ∀ {L : List (Nm × OO)}, findL L n = some o → ∃ p ∈ L, p.1 = n
  | (a, q) :: r, h => by
    simp only [findL] at h
    split at h
    · rename_i e; exact ⟨(a, q), by simp, e⟩
    · obtain ⟨p, hp, e⟩ := findL_mem h; exact ⟨p, by simp [hp], e⟩
theorem findL_of {n : Nm} : ∀ {L : List (Nm × OO)}, (∃ p ∈ L, p.1 = n) → ∃ o, findL L n = some o
  | [], h => by obtain ⟨p, hp, _⟩ := h; cases hp
  | (a, q) :: r, h => by
    simp only [findL]
    split
    · exact ⟨_, rfl⟩
    · rename_i hne
      obtain ⟨p, hp, e⟩ := h
      rcases List.mem_cons.1 hp with rfl | hp
      · exact absurd e hne
      · exact findL_of ⟨p, hp, e⟩
theorem tab_ext {T T' : Tab} (h : ∀ n, T.get n = T'.get n) : T = T' := funext h
theorem addL_swap {T : Tab} {L1 L2 : List (Nm × OO)} (hd : ∀ p ∈ L1, ∀ q ∈ L2, p.1 ≠ q.1) : addL (addL T L1) L2 = addL (addL T L2) L1 := by
  refine tab_ext fun n => ?_
  simp only [addL_get]
  cases h1 : findL L1 n with
  | none => cases findL L2 n <;> rfl
  | some o1 =>
    cases h2 : findL L2 n with
    | none => rfl
    | some o2 =>
      obtain ⟨p, hp, e⟩ := findL_mem h1
      obtain ⟨q, hq, e'⟩ := findL_mem h2
      exact absurd (e.trans e'.symm) (hd p hp q hq)
theorem backT_addL (T : Tab) (ρ : Nm → Nm) : ∀ (l : List (Nm × OO)), backT T ρ l = addL T (l.map fun p => (ρ p.1, renO ρ p.2))
  | [] => rfl
  | (n, o) :: r => by simp only [backT, addL, addLT, List.map_cons, backT_addL T ρ r]
def noElp (gen : Nat) : D → Bool
  | .elp .. => false
  | .ptr nm _ => decide (nm.2 ≠ gen)
  | _ => true
def oldMap (gen : Nat) : D → Bool
  | .mp nm => decide (nm.2 ≠ gen)
  | _ => true
def boxLoad (ts : Ts) (gen : Nat) : Op → Bool
  | .load _ a => noElp gen (strip (opd ts a))
  | .lookup _ x _ _ => oldMap gen (strip (opd ts x))
  | _ => true
def coolLoad (hot : Nat → Bool) (ts : Ts) : Op → Bool
  | .load _ a => match strip (opd ts a) with
    | .ptr nm _ => !hot nm.1
    | _ => true
  | _ => true
def isElD : D → Bool
  | .el _ => true
  | _ => false
def frzLoad (ts : Ts) : Op → Bool
  | .load _ a => isElD (strip (opd ts a))
  | _ => true
/-- what yields nothing is not looked at where its guard says no -/
def skipOp : Op → Bool
  | .nilCheck _ | .fieldAddr .. | .field .. | .load .. | .binOp .. | .unOp .. | .move _ | .indexAddr .. | .index .. | .extract .. => true
  | _ => false
/-- what makes memory, or a call: nothing happens where its guard says no -/
def idleOp : Op → Bool
  | .box .. | .alloc .. | .buildSlice .. | .makeSlice .. | .makeMap .. => true
  | .call ⟨.builtin .append, _, _⟩ => true
  | .call ⟨.value _, _, _⟩ => true
  | .call ⟨.invoke _ _, _, _⟩ => true
  | _ => false
/-- ONE OPERATION, ON DATA: what it yields, what it does to the store. c: no call of this region touches own memory -/
inductive YA (P : Program) (Γ : Ctx) (m : Bool) (base : Nat) (c : Md) (ops : Array Oper) (o : Oper) (σ : S) : D → TE → Prop
  | pick {g q x y b d} (hg : gdD ops o σ.ts = some g) (ho : o.op = .pick q x y) (hc : strip (opd σ.ts q) = .lit (.bool b)) (hd : pickD b (strip (opd σ.ts x)) (strip (opd σ.ts y)) = some d)
      (h : scond g (opd σ.ts q) ∧ scond (g && b) (opd σ.ts x) ∧ scond (g && !b) (opd σ.ts y)) : YA P Γ m base c ops o σ (mkwhn o.guard g d) .none
  | skip {g} (hg : gdD ops o σ.ts = some g) (h0 : g = false) (hs : skipOp o.op = true) : YA P Γ m base c ops o σ (mkwhn o.guard g .any) .none
  | idle {g} (hn : c.isNews = false) (hg : gdD ops o σ.ts = some g) (h0 : g = false) (hi : idleOp o.op = true) (hq : ∀ q, o.op = .call q → isGoCall o.op = true → c.pureCall q = false) : YA P Γ m base c ops o σ (mkwhn o.guard g .any) (.op .frz)
  | callP {g q r} (hg : gdD ops o σ.ts = some g) (ho : o.op = .call q) (hgo : isGoCall o.op = true) (h : CallP P g σ.ts q r) : YA P Γ m base c ops o σ (mkwhn o.guard g r) .none
  | callE {q r T} (hc : c.pureCall q = false) (hn : c.freeCall q = false) (hg : gdD ops o σ.ts = some true) (ho : o.op = .call q) (hgo : isGoCall o.op = true) (h : CallE Γ P σ.ts σ.tab (nmOf base o) σ.gen q r T) (hl : c.lentCall q = false) (hb : c.barCall q = false) (ha : c.apCall q = false) : YA P Γ m base c ops o σ (mkwhn o.guard true r) (.tab T)
  | callL {g q r} (hc : c.pureCall q = false) (hn : c.freeCall q = false) (hg : gdD ops o σ.ts = some g) (ho : o.op = .call q) (hgo : isGoCall o.op = true) (h : CallL Γ P g σ.ts σ.tab (nmOf base o) σ.gen q r) (hb : c.barCall q = false) (ha : c.apCall q = false) : YA P Γ m base c ops o σ (mkwhn o.guard g r) (.tab σ.tab)
  | callD {q r L} (hn : c.isNews = true) (hg : o.guard = none) (ho : o.op = .call q) (hgo : isGoCall o.op = true) (h : CallD P σ.ts σ.tab (nmOf base o) σ.gen q r L) : YA P Γ m base c ops o σ r (.add L)
  | callN {q r L} (hb : c.barCall q = true) (hg : o.guard = none) (ho : o.op = .call q) (hgo : isGoCall o.op = true) (h : CallN P σ.ts σ.tab (nmOf base o) σ.gen q r L) (ha : c.apCall q = false) : YA P Γ m base c ops o σ r (.add L)
  | callA {q r ns L} (ha : c.apCall q = true) (hg : o.guard = none) (ho : o.op = .call q) (hgo : isGoCall o.op = true) (h : CallA P c.hot σ.ts σ.tab (nmOf base o) σ.gen q r ns L) : YA P Γ m base c ops o σ r (.upd ns L)
  | op {g r} (hg : gdD ops o σ.ts = some g) (hc : isGoCall o.op = false) (h : aval Γ m σ.tab (nmOf base o, σ.gen) (fun x => strip (opd σ.ts x)) o.op = some r)
      (hs : sconds g σ.ts o.op.operands.toList) (hob : g = true → r.ob) (he : r.eff.still = true ∨ g = true) (hf : freshE σ.tab (nmOf base o, σ.gen) r.eff) (hb : (cApp c ops = true → boxLoad σ.ts σ.gen o.op = true) ∧ ((c.isFrz = true → frzLoad σ.ts o.op = true) ∧ coolLoad c.hot σ.ts o.op = true)) : YA P Γ m base c ops o σ (mkwhn o.guard g r.d) (.op r.eff)

section
variable {P : Program} {Γ : Ctx} {m : Bool} {base : Nat} {c : Md} {ops : Array Oper} {W0 : World} {M0 F0 F : Nat → Prop} {β : Beta} {γ : Nm → Nat → Prop} {σ : S} {a : Act} {w : World}

theorem tget_up (ts : Ts) (t u : Nat) (d : D) : tget (ts.up t d) u = if t = u then d else tget ts u := rfl
theorem Cpl.step (C : Cpl W0 M0 F0 F β γ σ a w) {F' : Nat → Prop} {β' : Beta} {γ' : Nm → Nat → Prop} {w' : World} {σ' : S} (hts : σ'.ts = σ.ts) (hg : σ'.gen = σ.gen) (O : Own W0 M0 F0 F' β' γ' σ'.tab σ.gen w')
    (hF : ∀ b, F b → F' b ∧ w'.heap[b]? = w.heap[b]?) (hβ : ∀ n x, β n = some x → β' n = some x) (dst : Option Tmp) {d : D} {v : Value} (hd : ∀ t, dst = some t → t < a.tmps.size) (rd : Rep F' w'.heap β' d v) :
    Cpl W0 M0 F0 F' β' γ' (σ'.put dst d) (a.put dst v) w' := by
  have hr : ∀ t, Rep F' w'.heap β' (tget σ'.ts t) (a.tmps.getD t undef) := fun t => by rw [hts]; exact Rep.mono hF _ hβ (C.reps t)
  cases dst with
  | none => exact ⟨by simp only [S.put]; rw [hg]; exact O, hr, C.defers, C.glob⟩
  | some t =>
    have hlt := hd t rfl
    refine ⟨by simp only [S.put]; rw [hg]; exact O, fun u => ?_, C.defers, C.glob⟩
    simp only [S.put, tget_up, Act.put]
    by_cases e : t = u
    · subst e; rw [if_pos rfl]; simpa [hlt] using rd
    · rw [if_neg e]
      have : (a.tmps.setIfInBounds t v).getD u undef = a.tmps.getD u undef := by simp [Array.getElem?_setIfInBounds, e]
      rw [this]; exact hr u
theorem Cpl.bump (C : Cpl W0 M0 F0 F β γ σ a w) : Cpl W0 M0 F0 F β γ { σ with gen := σ.gen + 1 } a w :=
  ⟨{ C.mem with gen := fun nm x h => .inl (by rcases C.mem.gen nm x h with h | h <;> simp <;> omega) }, C.reps, C.defers, C.glob⟩

theorem callTo_enter {q : Call} {fid : FuncId} {ds : List D} {o : Oper} (C : Cpl W0 M0 F0 F β γ σ a w) (ho : o.op = .call q) (h : CallTo P σ.ts q fid ds) (hs : sconds true σ.ts q.operands.toList) (he : Enters P fid) :
    ∃ vs : List Value, (execOp a.eval o).run P w = .ok (.enter fid vs.toArray) w ∧ Reps F w.heap β ds vs := by
  obtain ⟨cal, args, tys⟩ := q
  unfold CallTo at h
  cases cal with
  | builtin b => exact h.elim
  | value f =>
    simp only at h
    split at h
    · rename_i fid' fs cs hf
      obtain ⟨rfl, rfl⟩ := h
      have rf := rep_strip rfl (sconds_mem hs f (by simp [Call.operands])) (rep_opd (C.mem.globF C.glob) C.reps f)
      rw [hf] at rf; simp only [Rep] at rf
      obtain ⟨vf, vc, hfv, rf1, rf2⟩ := rf
      have ra : Reps F w.heap β (args.toList.map fun x => strip (opd σ.ts x)) (args.toList.map a.eval) :=
        Reps.map _ fun x hx => rep_strip rfl (sconds_mem hs x (by simp [Call.operands]; exact .inr (by simpa using hx))) (rep_opd (C.mem.globF C.glob) C.reps x)
      refine ⟨vf ++ args.toList.map a.eval ++ vc, ?_, (rf1.append ra).append rf2⟩
      unfold execOp
      have e1 : (vf.toArray ++ args.map a.eval ++ vc.toArray) = (vf ++ args.toList.map a.eval ++ vc).toArray := by
        apply Array.ext'; simp
      simp only [ho, resolve, hfv, Deferred.ofValue, Sem.run_bind, Sem.run_pure, Result.andThen_ok, invoke, e1, he.run]
    · exact h.elim
  | invoke x name =>
    simp only at h
    split at h
    · rename_i t d hx
      obtain ⟨hm, rfl⟩ := h
      have rx := rep_strip rfl (sconds_mem hs x (by simp [Call.operands])) (rep_opd (C.mem.globF C.glob) C.reps x)
      rw [hx] at rx; simp only [Rep] at rx
      obtain ⟨u, hxv, ru⟩ := rx
      have ra : Reps F w.heap β (args.toList.map fun x => strip (opd σ.ts x)) (args.toList.map a.eval) :=
        Reps.map _ fun x hx => rep_strip rfl (sconds_mem hs x (by simp [Call.operands]; exact .inr (by simpa using hx))) (rep_opd (C.mem.globF C.glob) C.reps x)
      refine ⟨u :: args.toList.map a.eval, ?_, by simp only [Reps]; exact ⟨u, _, rfl, ru, ra⟩⟩
      unfold execOp
      have e1 : (#[u] ++ (#[Value.iface t u] ++ args.map a.eval).extract 1 (#[Value.iface t u] ++ args.map a.eval).size) = (u :: args.toList.map a.eval).toArray := by
        apply Array.ext'; simp
        exact List.take_of_length_le (by simp)
      simp only [ho, resolve, hxv, Sem.run_bind, Sem.run_pure, Result.andThen_ok, invoke]
      have e2 : (#[Value.iface t u] ++ args.map a.eval)[0]? = some (Value.iface t u) := by rw [Array.getElem?_append_left (by simp)]; rfl
      split
      · rename_i recv hrec
        have hr2 : some (Value.iface t u) = some recv := e2.symm.trans hrec
        cases hr2
        simp only [callMethod, Sem.run_bind, run_program, Result.andThen_ok, hm u w, e1, he.run]
      · rename_i hno
        exact absurd e2 (hno _)
    · exact h.elim

theorem loadP_ob' {ti : TI} {tab : Tab} {nm : Nm} {off : Nat} {r : AR} (h : loadD ti tab (.ptr nm off) = some r) : r.ob := by
  simp only [loadD, okR] at h
  repeat' first
    | (simp only [Option.some.injEq] at h; subst h; exact True.intro)
    | (simp only [reduceCtorEq] at h; done)
    | split at h
theorem callTD_enter (hΓ : Γ.ok P) {q : Call} {fid : FuncId} {ds : List D} {o : Oper} (C : Cpl W0 M0 F0 F β γ σ a w) (ho : o.op = .call q) (h : CallTD Γ P σ.ts σ.tab q fid ds) (hs : sconds true σ.ts q.operands.toList) (he : Enters P fid) :
    ∃ vs : List Value, (execOp a.eval o).run P w = .ok (.enter fid vs.toArray) w ∧ Reps F w.heap β ds vs := by
  obtain ⟨cal, args, tys⟩ := q
  obtain ⟨x, name, t, nm, off, e, ti, r, hcal, hx, hm, hti, hl, rfl⟩ := h
  simp only at hcal
  subst hcal
  have rx := rep_strip rfl (sconds_mem hs x (by simp [Call.operands])) (rep_opd (C.mem.globF C.glob) C.reps x)
  rw [hx] at rx; simp only [Rep] at rx
  obtain ⟨u, hxv, ru⟩ := rx
  obtain ⟨_, v, h3, h4⟩ := loadD_sound (nm := (0, 0)) (Ctx.get_ok hΓ hti) C.mem hl (loadP_ob' hl) ru
  have ra : Reps F w.heap β (args.toList.map fun x => strip (opd σ.ts x)) (args.toList.map a.eval) :=
    Reps.map _ fun x hx => rep_strip rfl (sconds_mem hs x (by simp [Call.operands]; exact .inr (by simpa using hx))) (rep_opd (C.mem.globF C.glob) C.reps x)
  have h5 : ∃ ad, u = .pointer (some ad) ∧ (loadVar e ad).run P w = .ok v w := by
    simp only [Instr.loadAt] at h3
    cases u with
    | pointer p => cases p <;> simp_all [Instr.sureAddr]
    | _ => simp [Instr.sureAddr] at h3
  obtain ⟨ad, rfl, h5⟩ := h5
  refine ⟨v :: args.toList.map a.eval, ?_, by simp only [Reps]; exact ⟨v, _, rfl, h4, ra⟩⟩
  unfold execOp
  have e1 : (#[v] ++ (#[Value.iface t (.pointer (some ad))] ++ args.map a.eval).extract 1 (#[Value.iface t (.pointer (some ad))] ++ args.map a.eval).size) = (v :: args.toList.map a.eval).toArray := by
    apply Array.ext'; simp
    exact List.take_of_length_le (by simp)
  simp only [ho, resolve, hxv, Sem.run_bind, Sem.run_pure, Result.andThen_ok, invoke]
  have e2 : (#[Value.iface t (.pointer (some ad))] ++ args.map a.eval)[0]? = some (Value.iface t (.pointer (some ad))) := by rw [Array.getElem?_append_left (by simp)]; rfl
  split
  · rename_i recv hrec
    have hr2 : some (Value.iface t (.pointer (some ad))) = some recv := e2.symm.trans hrec
    cases hr2
    simp only [callMethod, Sem.run_bind, run_program, Result.andThen_ok, hm ad w, h5, Sem.run_pure, e1, he.run]
  · rename_i hno
    exact absurd e2 (hno _)
theorem callT2_enter (hΓ : Γ.ok P) {q : Call} {fid : FuncId} {ds : List D} {o : Oper} (C : Cpl W0 M0 F0 F β γ σ a w) (ho : o.op = .call q) (h : CallT2 Γ P σ.ts σ.tab q fid ds) (hs : sconds true σ.ts q.operands.toList) (he : Enters P fid) :
    ∃ vs : List Value, (execOp a.eval o).run P w = .ok (.enter fid vs.toArray) w ∧ Reps F w.heap β ds vs := by
  rcases h with h | h
  · exact callTo_enter C ho h hs he
  · exact callTD_enter hΓ C ho h hs he

set_option maxHeartbeats 1000000 in
theorem ya_sound {o : Oper} {i : Nat} {d : D} {t : TE} {Q : Exit → Act → World → Prop} {K : Act → World → Prop} (hΓ : Γ.ok P) (C : Cpl W0 M0 F0 F β γ σ a w) (hi : ops[i]? = some o) (hdst : ∀ t, o.dst = some t → t < a.tmps.size) (Y : YA P Γ m base c ops o σ d t)
    (hK : ∀ F' β' γ' a' w', a'.tmps.size = a.tmps.size → (∀ n x, β n = some x → β' n = some x) → Cpl W0 M0 F0 F' β' γ' ((σ.eff (nmOf base o) t).put o.dst d) a' w' → K a' w') : wpOp P ops Q i K a w := by
  have hput : ∀ v, (a.put o.dst v).tmps.size = a.tmps.size := fun v => by cases o.dst <;> simp [Act.put]
  -- not wanted: nothing happens
  have idle : ∀ {d0 : D} {g : Bool}, gdD ops o σ.ts = some g → g = false → d = mkwhn o.guard g d0 → (σ.eff (nmOf base o) t).tab = σ.tab → (σ.eff (nmOf base o) t).ts = σ.ts → (σ.eff (nmOf base o) t).gen = σ.gen → wpOp P ops Q i K a w := by
    intro d0 g hg hgf hd e1 e2 e3
    have hw := gdD_sound C.reps hg
    unfold wpOp
    simp only [hi, hw]
    subst hgf
    simp only [Bool.false_eq_true, if_false]
    refine hK F β γ _ _ (hput _) (fun _ _ h => h) (C.step e2 e3 (by rw [e1]; exact C.mem) (fun b hb => ⟨hb, rfl⟩) (fun _ _ h => h) o.dst hdst ?_)
    rw [hd]; unfold mkwhn
    split
    · rename_i h0; unfold gdD at hg; rw [h0] at hg; simp at hg
    · simp only [Rep]; exact ⟨by simp, by simp⟩
  have whn : ∀ {d0 : D} {g : Bool} {F' : Nat → Prop} {h' : Array Obj} {β' : Beta} {v : Value}, g = true → Rep F' h' β' d0 v → Rep F' h' β' (mkwhn o.guard g d0) v := by
    intro d0 g F' h' β' v hg r
    subst hg
    unfold mkwhn
    split
    · exact r
    · simp only [Rep]; exact ⟨fun _ => r, by simp⟩
  cases Y with
  | @skip g hg h0 hs => exact idle hg h0 rfl rfl rfl rfl
  | @idle g hn hg h0 hi hq => exact idle hg h0 rfl rfl rfl rfl
  | @pick g q x y b d0 hg ho hc hd h =>
    cases hgt : g with
    | false => exact idle hg hgt rfl rfl rfl rfl
    | true =>
      have hw := gdD_sound C.reps hg
      unfold wpOp
      simp only [hi, hw, hgt, if_true]
      refine .inl ?_
      unfold Oper.wp
      have rc := rep_strip hgt h.1 (rep_opd (C.mem.globF C.glob) C.reps q)
      rw [hc] at rc; simp only [Rep] at rc
      have hrun : (execOp a.eval o).run P w = .ok (.value (if b then a.eval x else a.eval y)) w := by
        unfold execOp
        simp only [ho, rc, asBool, Sem.run_bind, Sem.run_pure, Result.andThen_ok]
      rw [hrun]
      simp only [Oper.upon]
      refine hK F β γ _ _ (hput _) (fun _ _ h => h) (C.step rfl rfl C.mem (fun b hb => ⟨hb, rfl⟩) (fun _ _ h => h) o.dst hdst (whn hgt ?_))
      exact pickD_sound hd (fun hb => rep_strip rfl (by simpa [hgt, hb] using h.2.1) (rep_opd (C.mem.globF C.glob) C.reps x)) (fun hb => rep_strip rfl (by simpa [hgt, hb] using h.2.2) (rep_opd (C.mem.globF C.glob) C.reps y))
  | @callP g q r hg ho hgo h =>
    obtain ⟨fid, ds, hto, hs, hp, hpr, hpc⟩ := h
    cases hgt : g with
    | false => exact idle hg hgt rfl rfl rfl rfl
    | true =>
      have hw := gdD_sound C.reps hg
      have hpc := hpc hgt
      unfold wpOp
      simp only [hi, hw, hgt, if_true]
      refine .inl ?_
      obtain ⟨vs, hrun, hrs⟩ := callTo_enter C ho hto (by rw [← hgt]; exact hs) hpc.1
      unfold Oper.wp
      rw [hrun]
      simp only [Oper.upon]
      have hc : canonT σ.tab (canonN []) [] 0 = some [] := rfl
      have hds : namesDs ds = [] := pure_names hp
      have N : NamesOk σ.tab [] 0 σ.gen ds r [] := ⟨by simp, by rw [hds]; simp, by simp, by simp, by rw [pure_name hpr]; simp, by simp⟩
      have e1 : renDs (canonN []) ds = ds := pure_rens hp
      have e2 : renD (backN [] 0 σ.gen) r = r := pure_ren hpr
      refine (PCo.calls C.mem hc N (C.mem.globF C.glob) (by rw [e1]; exact hpc) hrs).mono fun e w' ⟨v, F', β', γ', he, O', hF, hβ, hv⟩ => ?_
      subst he
      rw [e2] at hv
      exact hK F' β' γ' _ _ (hput _) hβ (C.step rfl rfl O' hF hβ o.dst hdst (whn hgt hv))
  | @callE q r T hc hn hg ho hgo h =>
    obtain ⟨fid, ds, hto, hs, h⟩ := h
    have hw := gdD_sound C.reps hg
    unfold wpOp
    simp only [hi, hw, if_true]
    refine .inl ?_
    rcases h with ⟨ns, tin, tout, r0, hcan, N, hpc, rfl, rfl⟩ | ⟨fuel, news, r0, L, hpc, rfl, rfl⟩
    · obtain ⟨vs, hrun, hrs⟩ := callT2_enter hΓ C ho hto hs hpc.1
      unfold Oper.wp
      rw [hrun]
      simp only [Oper.upon]
      refine (PCo.calls C.mem hcan N (C.mem.globF C.glob) hpc hrs).mono fun e w' ⟨v, F', β', γ', he, O', hF, hβ, hv⟩ => ?_
      subst he
      exact hK F' β' γ' _ _ (hput _) hβ (C.step (σ' := σ.eff (nmOf base o) (.tab (backT (deadT σ.tab ns) (backN ns (nmOf base o) σ.gen) tout))) rfl rfl O' hF hβ o.dst hdst (whn rfl hv))
    · obtain ⟨vs, hrun, hrs⟩ := callT2_enter hΓ C ho hto hs hpc.1
      unfold Oper.wp
      rw [hrun]
      simp only [Oper.upon]
      refine (PC.calls C.mem L (C.mem.globF C.glob) hpc hrs).mono fun e w' ⟨v, F', β', γ', he, O', hF, hβ, hv⟩ => ?_
      subst he
      exact hK F' β' γ' _ _ (hput _) hβ (C.step (σ' := σ.eff (nmOf base o) (.tab (backT σ.tab (backN [] (nmOf base o) σ.gen) news))) rfl rfl O' hF hβ o.dst hdst (whn rfl hv))
  | @callL g q r hc hn hg ho hgo h =>
    obtain ⟨fid, ds, fuel, hto, hs, hpr, h⟩ := h
    cases hgt : g with
    | false => exact idle hg hgt rfl rfl rfl rfl
    | true =>
      have hw := gdD_sound C.reps hg
      obtain ⟨L, hpc⟩ := h hgt
      unfold wpOp
      simp only [hi, hw, hgt, if_true]
      refine .inl ?_
      obtain ⟨vs, hrun, hrs⟩ := callT2_enter hΓ C ho hto (by rw [← hgt]; exact hs) hpc.1
      unfold Oper.wp
      rw [hrun]
      simp only [Oper.upon]
      refine (PC.calls C.mem L (C.mem.globF C.glob) hpc hrs).mono fun e w' ⟨v, F', β', γ', he, O', hF, hβ, hv⟩ => ?_
      subst he
      rw [pure_ren hpr] at hv
      exact hK F' β' γ' _ _ (hput _) hβ (C.step (σ' := σ.eff (nmOf base o) (.tab σ.tab)) rfl rfl O' hF hβ o.dst hdst (whn hgt hv))
  | @callD q r L hn hg ho hgo h =>
    obtain ⟨fid, ds, r0, news, hto, hs, N, _, hpc, rfl, rfl⟩ := h
    have hw := gdD_sound (ops := ops) (o := o) (g := true) C.reps (by unfold gdD; rw [hg])
    unfold wpOp
    simp only [hi, hw, if_true]
    refine .inl ?_
    obtain ⟨vs, hrun, hrs⟩ := callTo_enter C ho hto hs hpc.1
    unfold Oper.wp
    rw [hrun]
    simp only [Oper.upon]
    refine (PCo.calls C.mem (show canonT σ.tab (canonN []) [] 0 = some [] from rfl) N (C.mem.globF C.glob) hpc hrs).mono fun e w' ⟨v, F', β', γ', he, O', hF, hβ, hv⟩ => ?_
    subst he
    have O2 : Own W0 M0 F0 F' β' γ' (addL σ.tab (news.map fun p => (backN [] (nmOf base o) σ.gen p.1, renO (backN [] (nmOf base o) σ.gen) p.2))) σ.gen w' := by rw [← backT_addL]; exact O'
    exact hK F' β' γ' _ _ (hput _) hβ (C.step (σ' := σ.eff (nmOf base o) (.add (news.map fun p => (backN [] (nmOf base o) σ.gen p.1, renO (backN [] (nmOf base o) σ.gen) p.2)))) rfl rfl O2 hF hβ o.dst hdst hv)
  | @callA q r ns L ha hg ho hgo h =>
    obtain ⟨fid, ds, tin, tout, r0, hto, hs, _, hcan, N, hpc, rfl, rfl⟩ := h
    have hw := gdD_sound (ops := ops) (o := o) (g := true) C.reps (by unfold gdD; rw [hg])
    unfold wpOp
    simp only [hi, hw, if_true]
    refine .inl ?_
    obtain ⟨vs, hrun, hrs⟩ := callTo_enter C ho hto hs hpc.1
    unfold Oper.wp
    rw [hrun]
    simp only [Oper.upon]
    refine (PCo.calls C.mem hcan N (C.mem.globF C.glob) hpc hrs).mono fun e w' ⟨v, F', β', γ', he, O', hF, hβ, hv⟩ => ?_
    subst he
    have O2 : Own W0 M0 F0 F' β' γ' (addL (deadT σ.tab ns) (tout.map fun p => (backN ns (nmOf base o) σ.gen p.1, renO (backN ns (nmOf base o) σ.gen) p.2))) σ.gen w' := by rw [← backT_addL]; exact O'
    exact hK F' β' γ' _ _ (hput _) hβ (C.step (σ' := σ.eff (nmOf base o) (.upd ns (tout.map fun p => (backN ns (nmOf base o) σ.gen p.1, renO (backN ns (nmOf base o) σ.gen) p.2)))) rfl rfl O2 hF hβ o.dst hdst hv)
  | @callN q r L hb hg ho hgo h =>
    obtain ⟨fid, ds, fuel, r0, news, hto, hs, _, L, hpc, rfl, rfl⟩ := h
    have hw := gdD_sound (ops := ops) (o := o) (g := true) C.reps (by unfold gdD; rw [hg])
    unfold wpOp
    simp only [hi, hw, if_true]
    refine .inl ?_
    obtain ⟨vs, hrun, hrs⟩ := callTo_enter C ho hto hs hpc.1
    unfold Oper.wp
    rw [hrun]
    simp only [Oper.upon]
    refine (PC.calls C.mem L (C.mem.globF C.glob) hpc hrs).mono fun e w' ⟨v, F', β', γ', he, O', hF, hβ, hv⟩ => ?_
    subst he
    have O2 : Own W0 M0 F0 F' β' γ' (addL σ.tab (news.map fun p => (backN [] (nmOf base o) σ.gen p.1, renO (backN [] (nmOf base o) σ.gen) p.2))) σ.gen w' := by rw [← backT_addL]; exact O'
    exact hK F' β' γ' _ _ (hput _) hβ (C.step (σ' := σ.eff (nmOf base o) (.add (news.map fun p => (backN [] (nmOf base o) σ.gen p.1, renO (backN [] (nmOf base o) σ.gen) p.2)))) rfl rfl O2 hF hβ o.dst hdst hv)
  | @op g r hg hcl h hs hob he hf hb =>
    cases hgt : g with
    | false =>
      refine idle hg hgt rfl ?_ rfl rfl
      rcases he with he | he
      · simp only [S.eff]
        cases hr : r.eff <;> simp [hr, Eff.still] at he <;> rfl
      · rw [hgt] at he; cases he
    | true =>
      have hw := gdD_sound C.reps hg
      have hD := aval_sound (P := P) (ρv := a.eval) (o := o) (fun _ => rfl) hΓ C.mem (by
        cases hr : r.eff with
        | none => exact .inl rfl
        | frz => exact .inr (.inl rfl)
        | new o => rw [hr] at hf; exact .inr (.inr (.inr (.inr hf)))
        | set n o => exact .inr (.inr (.inl ⟨_, _, rfl⟩))
        | put d n o => exact .inr (.inr (.inr (.inl ⟨_, _, _, rfl⟩)))
        | split n o o' => rw [hr] at hf; exact .inr (.inr (.inr (.inr hf)))
        | app d o => rw [hr] at hf; exact .inr (.inr (.inr (.inr hf)))) rfl (fun x hx => rep_strip hgt (sconds_mem hs x (by simpa using hx)) (rep_opd (C.mem.globF C.glob) C.reps x)) h (hob hgt)
      obtain ⟨w', F', β', γ', nx, v, hrun, hnx, O', hF, hβ, hv⟩ := hD
      unfold wpOp
      simp only [hi, hw, hgt, if_true]
      refine .inl ?_
      unfold Oper.wp
      rw [hrun]
      have := hK F' β' γ' _ _ (hput v) hβ (C.step (σ' := σ.eff (nmOf base o) (.op r.eff)) rfl rfl O' hF hβ o.dst hdst (whn hgt hv))
      rcases hnx with rfl | ⟨rfl, rfl⟩
      · simp only [Oper.upon]; exact this
      · simp only [Oper.upon]; exact this
end
end Go.Eng
