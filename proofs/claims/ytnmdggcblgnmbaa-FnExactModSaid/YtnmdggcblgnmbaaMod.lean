/- For every input the law FnExactMod returns true: Mod of the program answers as its model, and its arguments read afterwards as before. No condition.
  THE SHELL OF A PROOF OF 'Rows.FnExactModSaid' ('loop.example/g03007/laws.FnExactMod'), WRITTEN BY PROGRAM (proof-skeleton.mjs) off the guide's own print for that function. Not trusted: Lean checks it.
  YOURS ARE THE HOLES MARKED 'HOLE' (each bears 'sorry'). ALL ELSE IS THE GUIDE's TEMPLATE (howto/template/XProofs.lean) at this function's number and types: leave it.
-/
import Derived.Test.YtnmdggcblgnmbaaRows
import Derived.WalkKit
import Derived.ProofKit
import Derived.OpenShut
import Derived.Lib.Hide
import Derived.IntWalk
namespace Go.Proofs.Ytnmdggcblgnmbaa.fnExactMod
open Go.ChangeShapes Go.WideShapes Go.ChangeAt Go.RowKit
set_option linter.unusedVariables false      -- a walk need not use every 'w<i>' (that an integer argument fits its kind)

theorem own : ownKnob Try.prog.godebug = none := by kernel_rfl

theorem tmod_facts (a m : Int) (h : 1 ≤ m) : -m < a.tmod m ∧ a.tmod m < m ∧ (a.tmod m < 0 → a % m = a.tmod m + m) ∧ (0 ≤ a.tmod m → a % m = a.tmod m) := by
  have h1 := Int.tmod_lt_of_pos a (b := m) (by omega)
  have h2 : -m < a.tmod m := Int.lt_tmod_of_pos a (by omega)
  have h3 := Int.tmod_add_mul_tdiv a m
  have hc := Int.mul_comm m (a.tdiv m)
  refine ⟨h2, h1, fun hn => ?_, fun hn => ?_⟩
  · have e : a = (a.tmod m + m) + m * (a.tdiv m - 1) := by rw [Int.mul_sub]; omega
    conv => lhs; rw [e]
    rw [Int.add_mul_emod_self_left, Int.emod_eq_of_lt (by omega) (by omega)]
  · conv => lhs; rw [← h3]
    rw [Int.add_mul_emod_self_left, Int.emod_eq_of_lt hn h1]
theorem tmod_add (a m : Int) (h : 1 ≤ m) : (a.tmod m + m).tmod m = a % m := by
  obtain ⟨h1, h2, h3, h4⟩ := tmod_facts a m h
  rw [Int.tmod_eq_emod_of_nonneg (by omega)]
  by_cases hn : a.tmod m < 0
  · rw [h3 hn]; exact Int.emod_eq_of_lt (by omega) (by omega)
  · rw [h4 (by omega), Int.add_emod_right]; exact Int.emod_eq_of_lt (by omega) (by omega)
theorem specMod (a0 a1 : Int) (h1 : 1 ≤ a1) (h2 : a1 ≤ 1000000000000) (w : World) :
    Calls Try.prog 17 #[.int .i64 a0, .int .i64 a1] w fun e w' => e = .returned (.int .i64 (a0 % a1)) ∧ w' = w := by
  obtain ⟨f1, f2, _, _⟩ := tmod_facts a0 a1 h1
  have f3 := tmod_add a0 a1 h1
  have f4 : wrap64 (a0.tmod a1 + a1) = a0.tmod a1 + a1 := IntWalk.wrap64_in _ ⟨by omega, by omega⟩
  go_enter Try.func17, Try.ntmps17
  go_wp2
  go_ret
  exact ⟨by simp [f4, f3], rfl⟩
theorem implMod (a0 a1 : Int) (h1 : 1 ≤ a1) (h2 : a1 ≤ 1000000000000) (w : World) :
    Calls Try.prog 18 #[.int .i64 a0, .int .i64 a1] w fun e w' => e = .returned (.int .i64 (a0 % a1)) ∧ w' = w := by
  obtain ⟨f1, f2, f3, f4⟩ := tmod_facts a0 a1 h1
  by_cases hn : a0.tmod a1 < 0
  · have g := f3 hn
    go_enter Try.func18, Try.ntmps18
    go_wp2
    go_ret
    exact ⟨by simp [g], rfl⟩
  · have g := f4 (by omega)
    go_enter Try.func18, Try.ntmps18
    go_wp2
    go_ret
    exact ⟨by simp [g], rfl⟩
theorem specMod0 (a0 a1 : Int) (h : ¬ (1 ≤ a1 ∧ a1 ≤ 1000000000000)) (w : World) :
    Calls Try.prog 17 #[.int .i64 a0, .int .i64 a1] w fun e w' => e = .returned (.int .i64 0) ∧ w' = w := by
  by_cases h1 : 1 ≤ a1
  · have h2 : ¬ a1 ≤ 1000000000000 := fun x => h ⟨h1, x⟩
    clear h
    go_enter Try.func17, Try.ntmps17
    go_wp2
    go_ret
    exact ⟨rfl, rfl⟩
  · clear h
    go_enter Try.func17, Try.ntmps17
    go_wp2
    go_ret
    exact ⟨rfl, rfl⟩
theorem implMod0 (a0 a1 : Int) (h : ¬ (1 ≤ a1 ∧ a1 ≤ 1000000000000)) (w : World) :
    Calls Try.prog 18 #[.int .i64 a0, .int .i64 a1] w fun e w' => e = .returned (.int .i64 0) ∧ w' = w := by
  by_cases h1 : 1 ≤ a1
  · have h2 : ¬ a1 ≤ 1000000000000 := fun x => h ⟨h1, x⟩
    clear h
    go_enter Try.func18, Try.ntmps18
    go_wp2
    go_ret
    exact ⟨rfl, rfl⟩
  · clear h
    go_enter Try.func18, Try.ntmps18
    go_wp2
    go_ret
    exact ⟨rfl, rfl⟩

/-! ### STEP 1: THE WALK: the Go text returns true. 'Grown w w'': the world has at most new blocks (Derived/RowKit3.lean). Part the cases AHEAD of 'go_enter' where a test parts the walk; take each callee by a contract of your own. -/
theorem walk (a0 : Int) (a1 : Int) (w0 : (Lit.int .i64 a0).wf = true) (w1 : (Lit.int .i64 a1).wf = true) (w : World) :
    Calls Try.prog 7 #[.int .i64 a0, .int .i64 a1] w fun e w' => e = .returned (.bool true) ∧ Grown w w' := by
  by_cases h : 1 ≤ a1 ∧ a1 ≤ 1000000000000
  · obtain ⟨h1, h2⟩ := h
    go_enter Try.func7, Try.ntmps7
    go_wp2_with (first | (go_at_call 17; refine (specMod a0 a1 h1 h2 _).mono ?_; rintro e w' ⟨rfl, rfl⟩) | (go_at_call 18; refine (implMod a0 a1 h1 h2 _).mono ?_; rintro e w' ⟨rfl, rfl⟩))
    go_ret
    exact ⟨rfl, by repeat (first | exact Grown.refl _ | apply Grown.drew | apply Grown.alloc)⟩
  · have H := Lib.hid h; clear h
    go_enter Try.func7, Try.ntmps7
    go_wp2_with (first | (go_at_call 17; refine (specMod0 a0 a1 H.out _).mono ?_; rintro e w' ⟨rfl, rfl⟩) | (go_at_call 18; refine (implMod0 a0 a1 H.out _).mono ?_; rintro e w' ⟨rfl, rfl⟩))
    go_ret
    exact ⟨rfl, by repeat (first | exact Grown.refl _ | apply Grown.drew | apply Grown.alloc)⟩

/-! ### THE ROW's STEP: WRITTEN OUT: LEAVE IT -/
set_option maxRecDepth 100000 in
theorem lifted (os : Os) (started : os.Started) (H : Type) (enc : TypeId × Value → H) :
    ReturnsInHanded {} Try.checked os 7 .any (Rows.fnExactModSpec.pre6 enc Try.prog Try.f7 Rows.fnExactModRow.domain false) (Rows.fnExactModSpec.post enc Try.prog Try.f7 false true false false) := by
  refine returnsInHanded_of_change (C := Try.checked) own started (by kernel_rfl) Try.func7
    (ChangeSpec.witness6 (enc := enc) (C := Try.checked) false ⟨#[], #[.int .i64 0, .int .i64 0], []⟩ 8 (by kernel_rfl) (by kernel_rfl) (by kernel_rfl) (by kernel_rfl)) ?_
  intro W base args ds gs before hval0 hW hcnd _
  have hval : ∀ (j : Nat) t v, Try.f7.params[j]? = some t → args[j]? = some v → Value.okWide Try.prog W .any base t v := hval0
  have hW' := hW
  obtain ⟨p, q, hA0, hV, rfl, hfz, hnd⟩ := hW
  have hA : DataW.TrodAll enc Try.prog W 0 (fun _ => true) true Try.f7.params.toList args.toList ds p := hA0
  rw [Try.params7] at hA hval
  obtain ⟨v0, vs0, d0, ds0, p0, q0, hargs, rfl, rfl, h0, r0⟩ := trodAll_cons hA
  obtain ⟨v1, vs1, d1, ds1, p1, q1, rfl, rfl, rfl, h1, r1⟩ := trodAll_cons r0
  obtain ⟨rfl, rfl, rfl⟩ := trodAll_nil r1
  obtain rfl : args = #[v0, v1] := by cases args; simp_all
  obtain ⟨rfl, rfl⟩ := trodVars_none hV
  obtain ⟨a0, rfl, rfl, rfl, w0⟩ := open_int Try.underlying3 (hval 0 3 v0 rfl rfl) h0
  obtain ⟨a1, rfl, rfl, rfl, w1⟩ := open_int Try.underlying3 (hval 1 3 v1 rfl rfl) h1
  clear hA0 hval0
  simp only [List.append_nil] at hW'
  refine (walk a0 a1 w0 w1 W).mono fun e W' ⟨he, hg⟩ => ?_
  subst he
  exact ⟨_, rfl, post_of_same (pa := []) (pv := []) hW' (fun _ _ _ => (trodAll_cons_mk (shut_bool Try.underlying4 _) trodAll_mk0)) (fun sp _ => (trodAll_cons_mk (shut_int Try.underlying3 w0) (trodAll_cons_mk (shut_int Try.underlying3 w1) trodAll_mk0))) (fun _ _ => rfl) rfl
    (hg.frame _) hg.2.1 (ok_one (by kernel_rfl) rfl (okWide_bool_mk Try.underlying4 _))⟩

theorem over : Rows.fnExactModRow.holds Try.pinned (OpenSpec.ofChange Rows.fnExactModSpec) :=
  OpenClaim.holds_of_wide 7 Try.f7 rfl rfl rfl rfl rfl rfl rfl ⟨rfl, rfl, rfl, rfl, rfl⟩ rfl rfl rfl rfl rfl (by kernel_rfl) Try.func7 (by kernel_rfl)
    (of_decide_eq_true (by kernel_rfl)) (by unfold Func.isWrapper; first | (rw [if_pos (by decide +kernel)]; kernel_rfl) | (rw [if_neg (by decide +kernel)]; exact ⟨rfl, rfl⟩))
    (fun os started H enc _ => lifted os started H enc)

/-- ████ THE STATEMENT ████ -/
theorem proved : Rows.FnExactModSaid :=
  over
#print axioms proved
end Go.Proofs.Ytnmdggcblgnmbaa.fnExactMod
