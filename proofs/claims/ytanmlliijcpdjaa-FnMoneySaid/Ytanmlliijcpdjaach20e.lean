/- Contracts of the functions that the laws run. -/
import Derived.Test.Ytanmlliijcpdjaach20d
import Derived.Test.YtanmlliijcpdjaaEngB
namespace Go.Proofs.Ytanmlliijcpdjaa
open Go Go.Eng
set_option linter.unusedSimpArgs false
set_option linter.unusedVariables false
set_option maxRecDepth 10000
set_option maxHeartbeats 1000000
def mSales (c w : Int) : List TShare := if mIn c 0 10000000 = false then [] else if mIn w 1 999 = false then [⟨0, c⟩] else [⟨w, sAt c [1, 9] 0⟩, ⟨0, sAt c [1, 9] 1⟩]
theorem mSales_len (c w : Int) : (mSales c w).length ≤ 2 := by simp only [mSales]; split <;> (try split) <;> simp
theorem kSplit_19 {c : Int} (h : mIn c 0 10000000 = true) : kSplit c [1, 9] = true := by simp [kSplit, h]; decide
theorem kSplit_9 {c : Int} (h : mIn c 0 10000000 = true) : kSplit c [9] = true := by simp [kSplit, h]; decide
theorem mSplit_19 {c : Int} (h : mIn c 0 10000000 = true) : mSplit c [1, 9] = [sAt c [1, 9] 0, sAt c [1, 9] 1] := by
  simp [mSplit, kSplit_19 h, gen, List.range_succ]
theorem sAt_9 (c : Int) : sAt c [9] 0 = c := by
  have h1 : c * 9 / 9 = c := Int.mul_ediv_cancel _ (by omega)
  have h2 : sumI [9] = 9 := by decide
  have h3 : leftP c [9] = 0 := by
    rw [leftP, h2]; simp [gen, List.range_succ, qAt, sumI, h1]
  simp only [sAt, h2, h3, qAt]; simp [h1]
def pA (w : Int) : List TPortion := [⟨⟨w, 0⟩, 1, 0⟩, ⟨⟨0, 0⟩, 9, 0⟩]
def pB : List TPortion := [⟨⟨0, 0⟩, 9, 0⟩]
theorem parts_A (w : Int) : partsL (pA w) = [1, 9] := rfl
theorem parts_B : partsL pB = [9] := rfl
theorem div_A (c w : Int) : mDiv c (pA w) = [⟨⟨w, sAt c [1, 9] 0⟩, 1, rAt c 10 [1, 9] 0⟩, ⟨⟨0, sAt c [1, 9] 1⟩, 9, rAt c 10 [1, 9] 1⟩] := by
  have h : sumI [1, 9] = 10 := by decide
  simp [mDiv, gen, List.range_succ, pA, dAt, partsL, h]
theorem div_B (c : Int) : mDiv c pB = [⟨⟨0, c⟩, 9, rAt c 9 [9] 0⟩] := by
  have h : sumI [9] = 9 := by decide
  simp [mDiv, gen, List.range_succ, pB, dAt, partsL, h, sAt_9]
theorem divide_A (c w : Int) : c21.fn [dI c, .own (0, 0) 4 0 2] [((0, 0), .arr false 4 yTPortion [.agg [dI w, dI 0, dI 1, dI 0], .agg [dI 0, dI 0, dI 9, dI 0]])] = some (kSplit c [1, 9] = true, .tup [], [((0, 0), .arr false 4 yTPortion (ML encTPortion (mDiv c (pA w))))]) := c21_fn (l := pA w) (c := c)
theorem divide_B (c : Int) : c21.fn [dI c, .own (0, 0) 4 0 1] [((0, 0), .arr false 4 yTPortion [.agg [dI 0, dI 0, dI 9, dI 0]])] = some (kSplit c [9] = true, .tup [], [((0, 0), .arr false 4 yTPortion (ML encTPortion (mDiv c pB)))]) := c21_fn (l := pB) (c := c)
/-- loop.example/g03007/impl.SalesOf -/
noncomputable def c9 : Con := mkCon 9 false (α := Int × Int) (fun x => (fun (c : Int) (w : Int) => [dI c, dI w]) x.1 x.2) (fun _ => []) (fun x => (fun (c : Int) (w : Int) => True) x.1 x.2) (fun x => (fun (c : Int) (w : Int) => (.own (0, 1) 2 0 (mSales c w).length : D)) x.1 x.2) (fun x => (fun (c : Int) (w : Int) => [((0, 1), .arr false 2 yTShare (ML encTShare (mSales c w)))]) x.1 x.2)
@[simp] theorem c9_f : c9.f = 9 := rfl
@[simp] theorem c9_own : c9.own = false := rfl
theorem c9_inj : ∀ u_ v_ : Int × Int, ((fun x => (fun (c : Int) (w : Int) => [dI c, dI w]) x.1 x.2) u_).map nz = ((fun x => (fun (c : Int) (w : Int) => [dI c, dI w]) x.1 x.2) v_).map nz → u_ = v_ := by
  intro u_ v_ h
  obtain ⟨c, w⟩ := u_
  obtain ⟨c', w'⟩ := v_
  simp [nz_lit, nz1_lit, nz_agg, nz_sl, nz1_sl] at h
  first | (simp [h]; done) | (obtain ⟨⟩ := h; simp_all; done) | simp_all
@[simp] theorem c9_fn (c : Int) (w : Int) : c9.fn [.lit (.int .i64 c), .lit (.int .i64 w)] [] = some ((fun (c : Int) (w : Int) => True) c w, (fun (c : Int) (w : Int) => (.own (0, 1) 2 0 (mSales c w).length : D)) c w, (fun (c : Int) (w : Int) => [((0, 1), .arr false 2 yTShare (ML encTShare (mSales c w)))]) c w) :=
  mkCon_fn (fun x y h _ => c9_inj x y h) ((c, w) : Int × Int) (by simp [nz, nz1, ML_nil]) rfl
theorem c9_pc (c : Int) (w : Int) : PCo Try.prog 9 [dI c, dI w] (Tab.of []) (.own (0, 1) 2 0 (mSales c w).length) (Tab.of [((0, 1), .arr false 2 yTShare (ML encTShare (mSales c w)))]) := by
  refine pco_of_run [] (E := ⟨[c19, c21], [], []⟩) (m := false) (base := 0) (Env.ok_cons c19_ok (Env.ok_cons c21_ok Env.ok_nil)) G_ok mix 300 6 Try.func9 (by kernel_rfl) rfl (by kernel_rfl) (by kernel_rfl) rfl ?_
  cases h1 : mIn c 0 10000000 with
  | false => simp [Try.f9, h1, mSales]
  | true => cases h2 : mIn w 1 999 with
    | false =>
      simp [Try.f9, h1, h2, mSales, divide_B, kSplit_9 h1, div_B, ML_ge]
      try (refine loop_unroll 400 ?_; simp [ML_ge])
      first | done | rfl | trace_state
    | true =>
      simp [Try.f9, h1, h2, mSales, divide_A, kSplit_19 h1, div_A, ML_ge]
      try (refine loop_unroll 400 ?_; simp [ML_ge])
      first | done | rfl | trace_state
theorem c9_ok : c9.ok Try.prog := mkCon_ok fun ⟨c, w⟩ hpre => c9_pc c w

end Go.Proofs.Ytanmlliijcpdjaa
