/- Contracts of the functions that the laws run. -/
import Derived.Test.Ytnghehfdclhfdaach21s
import Derived.Test.Ytnghehfdclhfdaasorti
import Derived.Test.YtnghehfdclhfdaaShelfG
import Derived.Test.YtnghehfdclhfdaaEngB
namespace Go.Proofs.Ytnghehfdclhfdaa
open Go Go.Eng
set_option linter.unusedSimpArgs false
set_option linter.unusedVariables false
set_option maxRecDepth 10000
set_option maxHeartbeats 1000000
open Go.RowKit in
/-- a function of plain data whose result is a new row of whole numbers -/
theorem pco_newrow {P : Program} {f : FuncId} {ds : List D} {l : List Int} {z : D} {te : Nat} (hE : Go.Eng.Enters P f) (hp : puresD ds = true)
    (h : ∀ (w : World) (F : Nat → Prop) (vs : List Value), (∀ b, F b → b < w.heap.size) → Reps F w.heap Beta.none ds vs → Calls P f vs.toArray w fun e w' => ∃ v, e = .returned v ∧ w'.ownsRow w.heap.size te 1 v l.length (l.map (Value.int .i64)) ∧ Below w.heap.size w w') :
    PCo P f ds Tab.nil (.own (0, 1) 1 0 l.length) (Tab.of [((0, 1), .arr false 1 z (ML dI l))]) := by
  refine ⟨hE, fun w F β γ vs O G hr => (h w F vs O.Flt (reps_none hp hr)).mono fun e w' ⟨v, he, hrow, hB⟩ => ?_⟩
  have g := grown_below hB
  have h01 : β (0, 1) = none := by
    cases hb : β (0, 1) with
    | none => rfl
    | some x =>
      rcases O.gen _ _ hb with h1 | ⟨_, h1⟩
      · simp at h1
      · simp [Tab.nil, Tab.get] at h1
  have hT : ∀ nm o, (Tab.of [((0, 1), OO.arr false 1 z (ML dI l))]).get nm = some o → nm = (0, 1) := by
    intro nm o h
    simp only [Tab.of, Tab.get, Tab.set] at h
    split at h
    · rename_i e; exact e.symm
    · simp [Tab.nil] at h
  have hlen : (ML dI l).length = l.length := by simp [ML]
  -- the row's block, if it has one
  have key : ∃ (bo : Option Nat) (cap : Nat), (bo = none → l = [] ∧ cap = 0) ∧ (∀ b, bo = some b → w.heap.size ≤ b ∧ b < w'.heap.size ∧ ∃ c e, w'.heap[b]? = some (.cells c e (0, 0)) ∧ c.size = cap * 1 ∧ l.length ≤ cap ∧ Repx F w'.heap Beta.none 1 c (ML dI l) 0) ∧ ((∃ a, l.length = 0 ∧ v = .slice a 0 0) ∨ ∃ b, bo = some b ∧ v = .slice (some ⟨b, 0, none⟩) l.length cap ∧ l.length ≤ cap) := by
    rcases hrow.2 with ⟨hv, h0⟩ | ⟨b, cap, cur, hv, hb, hh, hcap, hmax, hcs, hcur⟩
    · exact ⟨none, 0, fun _ => ⟨List.eq_nil_of_length_eq_zero h0, rfl⟩, fun b hb => (by cases hb), .inl ⟨none, h0, hv⟩⟩
    · refine ⟨some b, cap, fun h => (by cases h), fun b' hb' => ?_, .inr ⟨b, rfl, hv, hcap⟩⟩
      cases hb'
      refine ⟨hb, (Array.getElem?_eq_some_iff.1 hh).1, cur, te, hh, hcs, hcap, Repx.of_get fun i hi => ?_⟩
      have hi' : i < l.length := by rw [← hlen]; exact hi
      refine ⟨.int .i64 l[i], by simp [ML, Rep], ⟨by simp [ML, okD, oneD, Value.oneCell'], rfl⟩, fun j hj => ?_⟩
      have hj0 : j = 0 := by simpa [Value.cells] using hj
      subst hj0
      have h2 : (cur.toList.take (l.length * 1))[i]? = some (.int .i64 l[i]) := by rw [hcur]; simp [hi']
      rw [List.getElem?_take] at h2
      simp only [Nat.mul_one, hi', if_true, Array.getElem?_toList] at h2
      simpa [Value.cells] using h2
  obtain ⟨bo, cap, k1, k2, k3⟩ := key
  refine ⟨v, F, fun nm => if nm = (0, 1) then some (bo, 1, cap) else β nm, fun nm => if nm = (0, 1) then fun _ => False else γ nm, 1, he, ?_, fun nm x hx => ?_, ?_⟩
  · have O2 := O.one (w' := w') (F' := F) (β' := fun nm => if nm = (0, 1) then some (bo, 1, cap) else β nm) (γ' := fun nm => if nm = (0, 1) then fun _ => False else γ nm) (tab' := Tab.of [((0, 1), OO.arr false 1 z (ML dI l))]) (0, 1) (.arr false 1 z (ML dI l))
      (fun nm hne => .inl (by simp [Tab.of, Tab.get, Tab.set, Tab.nil, Ne.symm hne])) (by simp [Tab.of, Tab.get, Tab.set]) (by decide)
      (fun nm x hx => by by_cases e : nm = (0, 1) <;> simp_all) (fun nm hne => by simp [hne]) (fun nm hne => by simp [hne])
      (fun _ => False) (fun b hb _ => g.old b hb) (fun b hb => hb.elim) (fun nm o hne h' => absurd (hT nm o h') hne) (fun b hb => hb.elim) g.size g.os g.tp g.out (fun _ => Iff.rfl)
      (by
        refine ⟨bo, cap, by simp, fun h => ⟨by rw [(k1 h).1]; rfl, (k1 h).2⟩, fun b hb => ⟨by simp, ?_⟩⟩
        obtain ⟨_, _, c, e, h1, h2, h3, h4⟩ := k2 b hb
        exact ⟨c, e, h1, h2, by rw [hlen]; exact h3, h4⟩)
      (fun _ x hx => by
        rcases hx with ⟨s, cap', hx⟩ | hx
        · simp only [if_true, Option.some.injEq, Prod.mk.injEq] at hx
          have := k2 x hx.1
          exact .inl ⟨this.1, this.2.1⟩
        · simp at hx)
    exact O2
  · by_cases e : nm = (0, 1) <;> simp_all
  · simp only [Rep]
    rcases k3 with ⟨a, h0, hv⟩ | ⟨b, hb, hv, hle⟩
    · exact .inl ⟨a, h0, hv⟩
    · exact .inr ⟨b, cap, by simp [hb], by simpa using hv, by omega⟩
def fitI (s : List Int) : Prop := ∀ k ∈ s, -9223372036854775808 ≤ k ∧ k ≤ 9223372036854775807
/-- slices.Sort's two contracts -/
theorem sorts_in (m : Nat) : Go.Proofs.AnyZI.SortsIn Try.prog Try.sortedA_ren Fence.wide m :=
  ⟨fun blk off cap ss W hH hblk hsz => callsIn_wide.2 (Try.slices_Sort_int blk off cap ss W hH hblk hsz),
   fun p cap W => callsIn_wide.2 (Try.slices_Sort_int_none p cap W)⟩
open Go.RowKit Go.Maps Go.Sort Go.Shelf in
theorem asc_at {H : Type} (b nn : Nat) (D0 : DataW H) (R : Value → Option (DataW H × List MemPlace)) (w : World) (hown : w.ownsMap Try.prog 3 R b nn D0) (hmax : Maps.size D0 ≤ maxLen) (hbytes : Maps.size D0 * 8 ≤ 140737488355328) :
    Calls Try.prog 78 #[.map (some b)] w fun e w' => ∃ (v : Value) (ss : List Int), e = .returned v ∧ ss.Perm (intKeys D0) ∧
      w'.ownsRow w.heap.size 3 1 v ss.length ((ss.mergeSort (fun x y => decide (x ≤ y))).map encZ) ∧ (v = .slice none 0 0 ↔ ss = []) ∧ Below w.heap.size w w' := by
  refine (callsIn_wide (n := 6)).1 ?_
  have hbl := hown.lt
  have hseq : SeqGives Fence.wide 2 Try.prog 140 #[.pointer (some ⟨w.heap.size, 0, none⟩)] encZ (fun ss => ss.Perm (intKeys D0)) (Maps.size D0) (w.alloc (.cells #[.map (some b)] 112)) :=
    Go.Proofs.AnyZI.keys_gives (ρ := Try.keysA_ren) { Try.keysA with } Fence.wide _ trivial rfl (by omega) w.heap.size b nn D0 _ (by simp) (by simp) (by
      obtain ⟨es, clock, hb, Ft, hs, hD⟩ := hown
      exact ⟨es, clock, (Below.heap_alloc _ _ b hbl).trans hb, Ft, hs, hD⟩)
  have cK : ∀ mb W, CallsIn Fence.wide 5 Try.prog 109 #[.map mb] W fun e w' => e = .returned (.func (.func 140) #[] #[.pointer (some ⟨W.heap.size, 0, none⟩)]) ∧ w' = W.alloc (.cells #[.map mb] 112) := fun mb W => Go.Proofs.AnyZI.keys_in Try.keysA Fence.wide 5 trivial rfl mb W
  have cS := Go.Proofs.AnyZI.sorted_in Try.sortedA Fence.wide 5 trivial trivial trivial trivial rfl (by omega) (sorts_in _) (enters_of Try.func120 (by kernel_rfl) rfl) 140 #[.pointer (some ⟨w.heap.size, 0, none⟩)] trivial (enters_of Try.func140 (by kernel_rfl) rfl) _ _ hmax hbytes _ hseq
  change CallsIn _ _ Try.prog 108 _ _ _ at cS
  have hfK : Fence.wide.fn 109 := trivial
  have hfS : Fence.wide.fn 108 := trivial
  refine callsIn_of_wp Try.func78 rfl trivial ?_ rfl
  simp only [Try.ntmps78, List.size_toArray, List.length_cons, List.length_nil, Nat.reduceAdd, Nat.reduceSub, Array.replicate_succ, Array.replicate_zero, List.push_toArray, List.append_toArray, List.nil_append, List.cons_append]
  gi_wp2_with (first
    | (gi_at_call 109; refine (cK _ _).mono ?_; rintro e w' ⟨rfl, rfl⟩)
    | (gi_at_call 108; refine cS.mono ?_; rintro e w' ⟨v, ss, rfl, hS, hrow, hnil, hb⟩))
  go_ret
  exact ⟨v, ss, rfl, hS, ownsRow_base_a hrow (by simp), hnil, ((Below.refl _ w).alloc (Nat.le_refl _) _).trans (hb.mono (by simp))⟩
open Go.RowKit Go.Maps Go.Sort Go.Shelf in
theorem asc_nil (w : World) : Calls Try.prog 78 #[.map none] w fun e w' => e = .returned (.slice none 0 0) ∧ Below w.heap.size w w' := by
  refine (callsIn_wide (n := 6)).1 ?_
  have hseq : SeqGives Fence.wide 2 Try.prog 140 #[.pointer (some ⟨w.heap.size, 0, none⟩)] encZ (fun ss : List Int => ss = []) 0 (w.alloc (.cells #[.map none] 112)) :=
    Go.Proofs.AnyZI.keys_gives_nil (ρ := Try.keysA_ren) { Try.keysA with } Fence.wide _ trivial rfl w.heap.size _ (by simp) (by simp)
  have cK : ∀ mb W, CallsIn Fence.wide 5 Try.prog 109 #[.map mb] W fun e w' => e = .returned (.func (.func 140) #[] #[.pointer (some ⟨W.heap.size, 0, none⟩)]) ∧ w' = W.alloc (.cells #[.map mb] 112) := fun mb W => Go.Proofs.AnyZI.keys_in Try.keysA Fence.wide 5 trivial rfl mb W
  have cS := Go.Proofs.AnyZI.sorted_in Try.sortedA Fence.wide 5 trivial trivial trivial trivial rfl (by omega) (sorts_in _) (enters_of Try.func120 (by kernel_rfl) rfl) 140 #[.pointer (some ⟨w.heap.size, 0, none⟩)] trivial (enters_of Try.func140 (by kernel_rfl) rfl) _ 0 (Nat.zero_le _) (by omega) _ hseq
  change CallsIn _ _ Try.prog 108 _ _ _ at cS
  have hfK : Fence.wide.fn 109 := trivial
  have hfS : Fence.wide.fn 108 := trivial
  refine callsIn_of_wp Try.func78 rfl trivial ?_ rfl
  simp only [Try.ntmps78, List.size_toArray, List.length_cons, List.length_nil, Nat.reduceAdd, Nat.reduceSub, Array.replicate_succ, Array.replicate_zero, List.push_toArray, List.append_toArray, List.nil_append, List.cons_append]
  gi_wp2_with (first
    | (gi_at_call 109; refine (cK _ _).mono ?_; rintro e w' ⟨rfl, rfl⟩)
    | (gi_at_call 108; refine cS.mono ?_; rintro e w' ⟨v, ss, rfl, rfl, hrow, hnil, hb⟩; obtain rfl : v = .slice none 0 0 := hnil.2 rfl))
  go_ret
  exact ⟨rfl, ((Below.refl _ w).alloc (Nat.le_refl _) _).trans (hb.mono (by simp))⟩
open Go.RowKit Go.Maps in
theorem fm_owns {w : World} {b clock : Nat} {es : Array MapEntry} {s : List Int} (hb : w.heap[b]? = some (.map es clock)) (ok : MapOk 0 (keysI s) es clock) (hf : fitI s) (hl : s.length ≤ maxLen) :
    ∃ D0 : DataW Unit, w.ownsMap Try.prog 3 (fun _ => some (.nil, [])) b es.size D0 ∧ (intKeys D0).Perm s ∧ Maps.size D0 = s.length := by
  obtain ⟨hk, _, hnd, hborn, hpw⟩ := ok
  have hk2 : es.toList.map (·.key) = s.map (Value.int .i64) := by rw [hk]; simp [keysI, kval, Function.comp_def]
  have hle : es.toList.length = s.length := by have := congrArg List.length hk2; simpa using this
  have hrd : ∀ x ∈ es.toList, ∃ k, x.key = .int .i64 k ∧ k ∈ s := fun x hx => by
    have : x.key ∈ s.map (Value.int .i64) := by rw [← hk2]; exact List.mem_map_of_mem hx
    obtain ⟨k, h1, h2⟩ := List.mem_map.1 this
    exact ⟨k, h2.symm, h1⟩
  have hro : ∀ x ∈ es.toList, ∀ k, x.key = .int .i64 k → k ∈ s → Go.WideElems.rd (H := Unit) Try.prog 3 (fun _ => some (.nil, [])) x = some (.int .i64 k, .nil) := fun x hx k e hks => by
    have hw : (Lit.int .i64 k).wf = true := by
      have := hf k hks
      have e1 : IntKind.min .i64 = -9223372036854775808 := by decide
      have e2 : IntKind.max .i64 = 9223372036854775807 := by decide
      simp only [Lit.wf, e1, e2, Bool.and_eq_true, decide_eq_true_eq]
      exact this
    simp [Go.WideElems.rd, keyOf, mapKey, Try.underlying3, e, hw]
  have hrg : es.toList.map (Go.WideElems.rg (H := Unit) Try.prog 3 (fun _ => some (.nil, []))) = s.map fun k => (Lit.int .i64 k, DataW.nil) := by
    have e : s.map (fun k => (Lit.int .i64 k, (DataW.nil : DataW Unit))) = (s.map (Value.int .i64)).map fun v => (match v with | .int _ k => Lit.int .i64 k | _ => Lit.bool false, DataW.nil) := by rw [List.map_map]; rfl
    rw [e, ← hk2, List.map_map]
    refine List.map_congr_left fun x hx => ?_
    obtain ⟨k, h1, h2⟩ := hrd x hx
    rw [Go.WideElems.rg_of (hro x hx k h1 h2)]
    simp [h1]
  have hsort := Go.WideShapes.sorted_perm (s.map fun k => (Lit.int .i64 k, (DataW.nil : DataW Unit)))
  refine ⟨.map ((es.toList.map (Go.WideElems.rg Try.prog 3 (fun _ => some (.nil, [])))).foldr DataW.insert []), ⟨es, clock, hb, ⟨?_, ⟨hborn, ?_, ?_⟩, fun x hx => ?_⟩, Nat.le_refl _, rfl⟩, ?_, ?_⟩
  · have : es.size = es.toList.length := by simp
    omega
  · exact hpw.imp fun h => by omega
  · rw [hk2]
    have h3 : (s.map fun k => [k]).Nodup := hnd
    exact List.pairwise_map.2 ((List.pairwise_map.1 h3).imp fun h e => h (by cases e; rfl))
  · obtain ⟨k, h1, h2⟩ := hrd x hx
    exact ⟨_, hro x hx k h1 h2⟩
  · rw [hrg]
    have := hsort.map fun p => Go.intOf p.1
    rw [List.map_map] at this
    have e : s.map ((fun p : Lit × DataW Unit => Go.intOf p.1) ∘ fun k => (Lit.int .i64 k, DataW.nil)) = s := by
      conv => rhs; rw [← List.map_id s]
      rfl
    rw [e] at this
    exact this
  · rw [hrg]
    simp only [Maps.size]
    have := hsort.length_eq
    rw [List.length_map] at this
    exact this
theorem mSort_of_perm {a b : List Int} (h : a.Perm b) : mSort a = mSort b := mergeSort_of_perm_i h
/-- (loop.example/g03007/impl.numberSet).ascending -/
noncomputable def c78 : Con := mkCon 78 false (α := (List Int)) (fun x => (fun (s : List Int) => ([.fm 0 (keysI s) (dB false) (allT s)] : List D)) x) (fun x => (fun (s : List Int) => ([] : List (Nm × OO))) x) (fun x => (fun (s : List Int) => s.length ≤ 1073741823 ∧ fitI s) x) (fun x => (fun (s : List Int) => (.own (0, 1) 1 0 s.length : D)) x) (fun x => (fun (s : List Int) => ([((0, 1), .arr false 1 (dI 0) (ML dI (mSort s)))] : List (Nm × OO))) x)
@[simp] theorem c78_f : c78.f = 78 := rfl
@[simp] theorem c78_own : c78.own = false := rfl
theorem c78_inj : ∀ u_ v_ : (List Int), ((fun x => (fun (s : List Int) => ([.fm 0 (keysI s) (dB false) (allT s)] : List D)) x) u_).map nz = ((fun x => (fun (s : List Int) => ([.fm 0 (keysI s) (dB false) (allT s)] : List D)) x) v_).map nz → (fun x => (fun (s : List Int) => ([] : List (Nm × OO))) x) u_ = (fun x => (fun (s : List Int) => ([] : List (Nm × OO))) x) v_ → u_ = v_ := by
  intro u_ v_ h h2_
  obtain s := u_
  obtain s' := v_
  simp [nz_lit, nz1_lit, nz_agg, nz_sl, nz1_sl, nz_sx, nz_el, nz1_el, nz_own, nz1_own, nz_ptr, nz_fn, nz_iface] at h h2_
  first | (simp [h, h2_]; done) | (obtain ⟨h3_, h4_⟩ := List.append_inj h2_ h.1; simp_all; done) | simp_all | grind
@[simp] theorem c78_fn (s : List Int) : c78.fn ([.fm 0 (keysI s) (dB false) (allT s)]) ([]) = some (s.length ≤ 1073741823 ∧ fitI s, .own (0, 1) 1 0 s.length, [((0, 1), .arr false 1 (dI 0) (ML dI (mSort s)))]) :=
  mkCon_fn c78_inj (s : (List Int)) rfl rfl
theorem c78_pc (s : List Int) (hpre : s.length ≤ 1073741823 ∧ fitI s) : PCo Try.prog 78 ([.fm 0 (keysI s) (dB false) (allT s)]) (Tab.of ([])) (.own (0, 1) 1 0 s.length) (Tab.of ([((0, 1), .arr false 1 (dI 0) (ML dI (mSort s)))])) := by
  obtain ⟨hl, hf⟩ := hpre
  have hlen := mSort_len s
  rw [← hlen]
  refine pco_newrow (te := 3) (enters_of_func Try.func78 (by kernel_rfl) (by kernel_rfl)) rfl fun w F vs hlt hr => ?_
  simp only [Reps] at hr
  obtain ⟨v, vs', rfl, hv, rfl⟩ := hr
  simp only [Rep] at hv
  rcases hv with ⟨h0, _, rfl⟩ | ⟨b, es, cl, rfl, hb, hes, ok, _⟩
  · have hs : s = [] := by simpa [keysI] using h0
    subst hs
    refine (asc_nil w).mono ?_
    rintro e w' ⟨rfl, hB⟩
    exact ⟨_, rfl, ⟨by simp, .inl ⟨rfl, hlen⟩⟩, hB⟩
  · have hm : maxLen ≥ 1073741823 := by decide
    obtain ⟨D0, hown, hp, hsz⟩ := fm_owns hes ok hf (by omega)
    refine (asc_at b es.size D0 _ w hown (by omega) (by omega)).mono ?_
    rintro e w' ⟨v, ss, rfl, hperm, hrow, _, hB⟩
    have e1 : ss.mergeSort (fun x y => decide (x ≤ y)) = mSort s := mSort_of_perm (hperm.trans hp)
    rw [e1] at hrow
    have e2 : ss.length = (mSort s).length := by rw [hlen]; exact (hperm.trans hp).length_eq
    rw [e2] at hrow
    exact ⟨v, rfl, hrow, hB⟩
theorem c78_ok : c78.ok Try.prog := mkCon_ok fun s hpre => c78_pc s hpre

end Go.Proofs.Ytnghehfdclhfdaa
