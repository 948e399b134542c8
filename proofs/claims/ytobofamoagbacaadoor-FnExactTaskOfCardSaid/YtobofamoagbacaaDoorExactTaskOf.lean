/- For every input the law FnExactTaskOf returns true, and each argument and each named variable reads behind the call as it read before, where the listed package variables begin as the program's text lays them; that they do is tied to the text. No further condition. -/
import Derived.Test.YtobofamoagbacaaDoorch30k
import Derived.Test.YtobofamoagbacaaDoorRows
import Derived.Test.YtobofamoagbacaaDoorCards
import Derived.Test.YtobofamoagbacaaDoorTie
import Derived.Test.YtobofamoagbacaaDoorHd
import Derived.Test.YtobofamoagbacaaDoorChecked
import Derived.WalkKit
import Derived.ProofKit
import Derived.OpenShut
import Derived.ShutString
import Derived.ChangeOld
import Derived.Below
import Derived.LaidMore
import Derived.SevenTiedAt
import Derived.Stop.Joined
namespace Go.Proofs.YtobofamoagbacaaDoor.fnExactTaskOf
open Go.ChangeShapes Go.WideShapes Go.ChangeAt Go.RowKit Go.Eng
set_option linter.unusedVariables false

theorem own : ownKnob Tryd.prog.godebug = none := by kernel_rfl
theorem laidOut : laidOutB Tryd.prog = true := by kernel_rfl
theorem door_met (os : Os) (args : Array Value) : laidMetH Tryd.prog Rows.fnExactTaskOfRow.laid ((World.doorLaid Tryd.prog 33 os).forCall (fun _ _ => 0) ⟨#[], args, []⟩).memory :=
  laidMetH_of_parts3 (fuel := 8) (laidMet_of_run' 8 (by kernel_rfl) (by kernel_rfl)) (by kernel_rfl) (by kernel_rfl)
theorem globs {W : World} (h : laidMetH Tryd.prog Rows.fnExactTaskOfRow.laid W) : GlobF (fun b => b < W.heap.size) W.heap := by
  rw [MakeChecks.laidMetH_plain _ _ _ (by kernel_rfl)] at h
  obtain ⟨ty0, fr0, hb0⟩ := laid_ints (k := .i64) [0, 90, 90, 90, 180, 180, 90, 1, 90] h rfl (by kernel_rfl) (by kernel_rfl) Tryd.underlying81 Tryd.underlying3 (by kernel_rfl) (by kernel_rfl)
  intro g
  match g with
  | 0 => exact rep_ints (zs := [0, 90, 90, 90, 180, 180, 90, 1, 90]) (Array.getElem?_eq_some_iff.1 hb0).1 hb0
  | g + 1 => exact rep_no

set_option maxRecDepth 100000 in
theorem lifted (os : Os) (started : os.Started) (H : Type) (enc : TypeId × Value → H) :
    ReturnsInHanded {} Tryd.checked os 13 .any (fun w args => (Rows.fnExactTaskOfSpec.pre enc Tryd.prog Tryd.f13 Rows.fnExactTaskOfRow.domain false w args ∧ laidMetH Tryd.prog Rows.fnExactTaskOfRow.laid w) ∧ sizedMet enc Tryd.prog Tryd.f13 (OpenSpec.ofChange Rows.fnExactTaskOfSpec) false w args)
      (Rows.fnExactTaskOfSpec.post enc Tryd.prog Tryd.f13 false true false false) := by
  refine returnsInHanded_of_change_and (C := Tryd.checked) (X := fun w _ => laidMetH Tryd.prog Rows.fnExactTaskOfRow.laid w) (fun _ _ _ hh h => h.of_heap hh) own started (by kernel_rfl) Tryd.func13
    (ChangeSpec.witness_shaped (enc := enc) (C := Tryd.checked) (os := os) (X := fun w _ => laidMetH Tryd.prog Rows.fnExactTaskOfRow.laid w) false (World.doorLaid Tryd.prog 33 os) #[.agg #[.int .i64 0, .int .i64 0, .int .i64 0, .int .i64 0, .int .i64 0, .int .i64 0, .int .i64 0, .int .i64 0], .slice none 0 0, .slice none 0 0, .int .i64 0] 8 rfl (World.shaped_of_RefB (by kernel_rfl) (by kernel_rfl)) (by kernel_rfl) (by kernel_rfl) (by kernel_rfl) (door_met os _)) ?_
  intro W base args ds gs before hval0 hW hcnd _ hL _
  have hval : ∀ (j : Nat) t v, Tryd.f13.params[j]? = some t → args[j]? = some v → Value.okWide Tryd.prog W .any base t v := hval0
  have hW' := hW
  obtain ⟨p, q, hA0, hV0, rfl, hfz, hnd⟩ := hW
  have hV : DataW.TrodVars enc Tryd.prog W (fun _ => true) Rows.fnExactTaskOfSpec.vars gs q := hV0
  have hA : DataW.TrodAll enc Tryd.prog W 0 (fun _ => true) true Tryd.f13.params.toList args.toList ds p := hA0
  rw [Tryd.params13] at hA hval
  obtain ⟨v0, vs0, d0, ds0, p0, q0, hargs, rfl, rfl, h0, r0⟩ := trodAll_cons hA
  obtain ⟨v1, vs1, d1, ds1, p1, q1, rfl, rfl, rfl, h1, r1⟩ := trodAll_cons r0
  obtain ⟨v2, vs2, d2, ds2, p2, q2, rfl, rfl, rfl, h2, r2⟩ := trodAll_cons r1
  obtain ⟨v3, vs3, d3, ds3, p3, q3, rfl, rfl, rfl, h3, r3⟩ := trodAll_cons r2
  obtain ⟨rfl, rfl, rfl⟩ := trodAll_nil r3
  obtain rfl : args = #[v0, v1, v2, v3] := by cases args; simp_all
  have lt0 : ∀ x ∈ p0, x.block < W.heap.size := by obtain ⟨m, hm⟩ := h0; exact DataW.trod_lt m _ _ _ hm
  obtain ⟨D0, s0, e0⟩ := arg_open (n := 9) G_ok (by decide +kernel) (hval 0 27 v0 rfl rfl) h0
  have lt1 : ∀ x ∈ p1, x.block < W.heap.size := by obtain ⟨m, hm⟩ := h1; exact DataW.trod_lt m _ _ _ hm
  obtain ⟨D1, s1, e1⟩ := arg_open (n := 9) G_ok (by decide +kernel) (hval 1 48 v1 rfl rfl) h1
  have lt2 : ∀ x ∈ p2, x.block < W.heap.size := by obtain ⟨m, hm⟩ := h2; exact DataW.trod_lt m _ _ _ hm
  obtain ⟨D2, s2, e2⟩ := arg_open (n := 9) G_ok (by decide +kernel) (hval 2 59 v2 rfl rfl) h2
  have lt3 : ∀ x ∈ p3, x.block < W.heap.size := by obtain ⟨m, hm⟩ := h3; exact DataW.trod_lt m _ _ _ hm
  obtain ⟨D3, s3, e3⟩ := arg_open (n := 9) G_ok (by decide +kernel) (hval 3 3 v3 rfl rfl) h3
  have hR : Reps (fun b => b < W.heap.size) W.heap Beta.none [D0, D1, D2, D3] [v0, v1, v2, v3] := by
    simp only [Reps]
    exact ⟨v0, _, rfl, e0, ⟨v1, _, rfl, e1, ⟨v2, _, rfl, e2, ⟨v3, _, rfl, e3, rfl⟩⟩⟩⟩
  refine (below_of_pc (law13_pc D0 s0 D1 s1 D2 s2 D3 s3) (globs hL) hR).mono fun e W' ⟨he, bel⟩ => ?_
  subst he
  obtain ⟨qs, hq⟩ := vars_below laidOut bel Rows.fnExactTaskOfSpec.vars (by kernel_rfl) hV
  obtain ⟨_, _, _, _, g0, _, rfl, _⟩ := trodVars_one hV
  exact ⟨_, rfl, _, _, _, [], _, qs, hW', trodAll_mk1 (shut_bool Tryd.underlying4 _), (trodAll_cons_mk (Below.trod laidOut (by kernel_rfl) (of_decide_eq_true (by kernel_rfl)) h0 bel lt0) (trodAll_cons_mk (Below.trod laidOut (by kernel_rfl) (of_decide_eq_true (by kernel_rfl)) h1 bel lt1) (trodAll_cons_mk (Below.trod laidOut (by kernel_rfl) (of_decide_eq_true (by kernel_rfl)) h2 bel lt2) (trodAll_cons_mk (Below.trod laidOut (by kernel_rfl) (of_decide_eq_true (by kernel_rfl)) h3 bel lt3) trodAll_mk0)))), hq, bel.frame _, fun h => by cases h⟩

theorem over : Rows.fnExactTaskOfRow.holds Tryd.pinned (OpenSpec.ofChange Rows.fnExactTaskOfSpec) :=
  OpenClaim.holds_of_wide 13 Tryd.f13 rfl rfl rfl rfl rfl rfl rfl ⟨rfl, rfl, rfl, rfl, rfl⟩ rfl rfl rfl rfl rfl (by kernel_rfl) Tryd.func13
    (by show joinedFacts Tryd.prog _ _ _ _ = true; unfold joinedFacts; rw [hd_enter, hd_lifts, hd_make]; kernel_rfl)
    (of_decide_eq_true (by kernel_rfl)) (by unfold Func.isWrapper; first | (rw [if_pos (by decide +kernel)]; kernel_rfl) | (rw [if_neg (by decide +kernel)]; exact ⟨rfl, rfl⟩))
    (fun os started H enc _ => lifted os started H enc)

theorem proved : Rows.FnExactTaskOfCardSaid :=
  Claim7.holds_tied_plain_at .later [] [.data] true (true, "d071548778c74726af27cc0d6ff7b817ceebd35ac81a73ecb809a9b925ef96b7") true
    over (fun _ h => by cases h) (by kernel_rfl) (fun _ h => by cases h) fnExactTaskOf_row_tie rfl ⟨rfl, rfl⟩ (by kernel_rfl) rfl
    (fun f fn hf hfn => by
      obtain rfl : f = 13 := Option.some.inj ((show Tryd.prog.funcNamed Rows.fnExactTaskOfRow.func = some 13 by kernel_rfl).symm.trans hf) |>.symm
      obtain rfl : fn = Tryd.f13 := (Option.some.inj (Tryd.func13.symm.trans hfn)).symm
      exact ⟨by kernel_rfl, fun j t ht => by
        rw [Tryd.params13] at ht
        have hm : t ∈ [27, 48, 59, 3] := by simpa using Array.mem_of_getElem? ht
        have hall : ([27, 48, 59, 3].all fun u => !Tryd.prog.wantsStandIn u) = true := by kernel_rfl
        exact (show Tryd.prog.wantsStandIn t = false by simpa using List.all_eq_true.1 hall t hm)⟩)
    (by kernel_rfl)
#print axioms proved
end Go.Proofs.YtobofamoagbacaaDoor.fnExactTaskOf
