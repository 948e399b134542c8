/- For every input the law FnCalendars returns true, and each argument and each named variable reads behind the call as it read before, where the listed package variables begin as the program's text lays them; that they do is tied to the text. No further condition. -/
import Derived.Test.YtdbhfkbfajljpaaDoorlw26
import Derived.Test.YtdbhfkbfajljpaaDoorRows
import Derived.Test.YtdbhfkbfajljpaaDoorCards
import Derived.Test.YtdbhfkbfajljpaaDoorTie
import Derived.Test.YtdbhfkbfajljpaaDoorHd
import Derived.Test.YtdbhfkbfajljpaaDoorChecked
import Derived.WalkKit
import Derived.ProofKit
import Derived.OpenShut
import Derived.ShutString
import Derived.ChangeOld
import Derived.Below
import Derived.LaidMore
import Derived.SevenTiedAt
import Derived.Stop.Joined
namespace Go.Proofs.YtdbhfkbfajljpaaDoor.fnCalendars
open Go.ChangeShapes Go.WideShapes Go.ChangeAt Go.RowKit Go.Eng
set_option linter.unusedVariables false

theorem own : ownKnob Tryd.prog.godebug = none := by kernel_rfl
theorem laidOut : laidOutB Tryd.prog = true := by kernel_rfl
theorem door_met (os : Os) (args : Array Value) : laidMetH Tryd.prog Rows.fnCalendarsRow.laid ((World.doorLaid Tryd.prog 14 os).forCall (fun _ _ => 0) ⟨#[], args, []⟩).memory :=
  laidMetH_of_parts3 (fuel := 8) (laidMet_of_run' 8 (by kernel_rfl) (by kernel_rfl)) (by kernel_rfl) (by kernel_rfl)
theorem tail {P : Program} {n : String} {d : DataW Unit} {r : List (String × DataW Unit)} {W : World} (h : laidMet P ((n, d) :: r) W) : laidMet P r W := by
  obtain ⟨ps, hl, hnd, hrows⟩ := h
  obtain ⟨g, t, cs, fuel, p, q, e1, e2, e3, e4, hr, rfl⟩ := hl
  exact ⟨q, hr, hnd.sublist (List.sublist_append_right _ _), fun b off hp => hrows b off (List.mem_append_right _ hp)⟩
theorem globs {W : World} (h : laidMetH Tryd.prog Rows.fnCalendarsRow.laid W) : GlobF (fun b => b < W.heap.size) W.heap := by
  rw [MakeChecks.laidMetH_plain _ _ _ (by kernel_rfl)] at h
  obtain ⟨ty0, fr0, hb0⟩ := laid_ints (k := .i64) [0, 90, 90, 90, 180, 180, 90, 1, 90] h rfl (by kernel_rfl) (by kernel_rfl) Tryd.underlying63 Tryd.underlying3 (by kernel_rfl) (by kernel_rfl)
  intro g
  match g with
  | 0 => exact rep_ints (zs := [0, 90, 90, 90, 180, 180, 90, 1, 90]) (Array.getElem?_eq_some_iff.1 hb0).1 hb0
  | g + 1 => exact rep_no

set_option maxRecDepth 100000 in
theorem lifted (os : Os) (started : os.Started) (H : Type) (enc : TypeId × Value → H) :
    ReturnsInHanded {} Tryd.checked os 3 .any (fun w args => (Rows.fnCalendarsSpec.pre enc Tryd.prog Tryd.f3 Rows.fnCalendarsRow.domain false w args ∧ laidMetH Tryd.prog Rows.fnCalendarsRow.laid w) ∧ sizedMet enc Tryd.prog Tryd.f3 (OpenSpec.ofChange Rows.fnCalendarsSpec) false w args)
      (Rows.fnCalendarsSpec.post enc Tryd.prog Tryd.f3 false true false false) := by
  refine returnsInHanded_of_change_and (C := Tryd.checked) (X := fun w _ => laidMetH Tryd.prog Rows.fnCalendarsRow.laid w) (fun _ _ _ hh h => h.of_heap hh) own started (by kernel_rfl) Tryd.func3
    (ChangeSpec.witness_shaped (enc := enc) (C := Tryd.checked) (os := os) (X := fun w _ => laidMetH Tryd.prog Rows.fnCalendarsRow.laid w) false (World.doorLaid Tryd.prog 14 os) #[.slice none 0 0] 8 rfl (World.shaped_of_RefB (by kernel_rfl) (by kernel_rfl)) (by kernel_rfl) (by kernel_rfl) (by kernel_rfl) (door_met os _)) ?_
  intro W base args ds gs before hval0 hW hcnd _ hL _
  have hval : ∀ (j : Nat) t v, Tryd.f3.params[j]? = some t → args[j]? = some v → Value.okWide Tryd.prog W .any base t v := hval0
  have hW' := hW
  obtain ⟨p, q, hA0, hV0, rfl, hfz, hnd⟩ := hW
  have hV : DataW.TrodVars enc Tryd.prog W (fun _ => true) Rows.fnCalendarsSpec.vars gs q := hV0
  have hA : DataW.TrodAll enc Tryd.prog W 0 (fun _ => true) true Tryd.f3.params.toList args.toList ds p := hA0
  rw [Tryd.params3] at hA hval
  obtain ⟨v0, vs0, d0, ds0, p0, q0, hargs, rfl, rfl, h0, r0⟩ := trodAll_cons hA
  obtain ⟨rfl, rfl, rfl⟩ := trodAll_nil r0
  obtain rfl : args = #[v0] := by cases args; simp_all
  have lt0 : ∀ x ∈ p0, x.block < W.heap.size := by obtain ⟨m, hm⟩ := h0; exact DataW.trod_lt m _ _ _ hm
  obtain ⟨D0, s0, e0⟩ := arg_open (n := 9) G_ok (by decide +kernel) (hval 0 22 v0 rfl rfl) h0
  have hR : Reps (fun b => b < W.heap.size) W.heap Beta.none [D0] [v0] := by
    simp only [Reps]
    exact ⟨v0, _, rfl, e0, rfl⟩
  refine (below_of_pc (law3_pc D0 s0) (globs hL) hR).mono fun e W' ⟨he, bel⟩ => ?_
  subst he
  obtain ⟨qs, hq⟩ := vars_below laidOut bel Rows.fnCalendarsSpec.vars (by kernel_rfl) hV
  obtain ⟨_, _, _, _, g0, _, rfl, _⟩ := trodVars_one hV
  exact ⟨_, rfl, _, _, _, [], _, qs, hW', trodAll_mk1 (shut_bool Tryd.underlying4 _), (trodAll_cons_mk (Below.trod laidOut (by kernel_rfl) (of_decide_eq_true (by kernel_rfl)) h0 bel lt0) trodAll_mk0), hq, bel.frame _, fun h => by cases h⟩

theorem over : Rows.fnCalendarsRow.holds Tryd.pinned (OpenSpec.ofChange Rows.fnCalendarsSpec) :=
  OpenClaim.holds_of_wide 3 Tryd.f3 rfl rfl rfl rfl rfl rfl rfl ⟨rfl, rfl, rfl, rfl, rfl⟩ rfl rfl rfl rfl rfl (by kernel_rfl) Tryd.func3
    (by show joinedFacts Tryd.prog _ _ _ _ = true; unfold joinedFacts; rw [hd_enter, hd_lifts, hd_make]; kernel_rfl)
    (of_decide_eq_true (by kernel_rfl)) (by unfold Func.isWrapper; first | (rw [if_pos (by decide +kernel)]; kernel_rfl) | (rw [if_neg (by decide +kernel)]; exact ⟨rfl, rfl⟩))
    (fun os started H enc _ => lifted os started H enc)

theorem proved : Rows.FnCalendarsCardSaid :=
  Claim7.holds_tied_plain_at .later [] [.data] true (true, "5b4eef739a2d3598a9675c1eda70b0c7358279b5ae8a650b48a2aa3e82c9bde5") false
    over (fun _ h => by cases h) (by kernel_rfl) (fun _ h => by cases h) fnCalendars_row_tie rfl ⟨rfl, rfl⟩ (by kernel_rfl) rfl
    (fun f fn hf hfn => by
      obtain rfl : f = 3 := Option.some.inj ((show Tryd.prog.funcNamed Rows.fnCalendarsRow.func = some 3 by kernel_rfl).symm.trans hf) |>.symm
      obtain rfl : fn = Tryd.f3 := (Option.some.inj (Tryd.func3.symm.trans hfn)).symm
      exact ⟨by kernel_rfl, fun j t ht => by
        rw [Tryd.params3] at ht
        have hm : t ∈ [22] := by simpa using Array.mem_of_getElem? ht
        have hall : ([22].all fun u => !Tryd.prog.wantsStandIn u) = true := by kernel_rfl
        exact (show Tryd.prog.wantsStandIn t = false by simpa using List.all_eq_true.1 hall t hm)⟩)
    (by kernel_rfl)
#print axioms proved
end Go.Proofs.YtdbhfkbfajljpaaDoor.fnCalendars
