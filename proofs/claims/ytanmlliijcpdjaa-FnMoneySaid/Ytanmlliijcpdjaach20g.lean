/- Contracts of the functions that the laws run. -/
import Derived.Test.Ytanmlliijcpdjaach00k
import Derived.Test.Ytanmlliijcpdjaach20e
import Derived.Test.YtanmlliijcpdjaaEngB
namespace Go.Proofs.Ytanmlliijcpdjaa
open Go Go.Eng
set_option linter.unusedSimpArgs false
set_option linter.unusedVariables false
set_option maxRecDepth 10000
set_option maxHeartbeats 1000000
theorem exNewM : ∃ n : List Int → TL1Cur, (∀ l, c15.fn [.sl false 1 (.lit (.int .u8 0)) (ML dU l)] [] = some (l.length ≤ 2097152, .ptr (0, 1) 0, [((0, 1), .box (encTL1Cur (n l)))])) ∧ ∀ l, n l = newC l := ⟨newC, fun l => c15_fn l, fun _ => rfl⟩
/-- loop.example/g03007/laws.sum -/
noncomputable def c7 : Con := mkCon 7 false (α := (List Int)) (fun x => (fun (l : List Int) => [encLI l]) x) (fun _ => []) (fun x => (fun (l : List Int) => l.length ≤ 1073741823 ∧ ∀ p, p ≤ l.length → -1000000000000000 ≤ sumI (l.take p) ∧ sumI (l.take p) ≤ 1000000000000000) x) (fun x => (fun (l : List Int) => (dI (sumI l) : D)) x) (fun x => (fun (l : List Int) => []) x)
@[simp] theorem c7_f : c7.f = 7 := rfl
@[simp] theorem c7_own : c7.own = false := rfl
theorem c7_inj : ∀ u_ v_ : (List Int), ((fun x => (fun (l : List Int) => [encLI l]) x) u_).map nz = ((fun x => (fun (l : List Int) => [encLI l]) x) v_).map nz → u_ = v_ := by
  intro u_ v_ h
  obtain l := u_
  obtain l' := v_
  simp [nz_lit, nz1_lit, nz_agg, nz_sl, nz1_sl, encLI] at h
  first | (simp [h]; done) | (obtain ⟨⟩ := h; simp_all; done) | simp_all
@[simp] theorem c7_fn (l : List Int) : c7.fn [.sl false 1 (.lit (.int .i64 0)) (ML dI l)] [] = some ((fun (l : List Int) => l.length ≤ 1073741823 ∧ ∀ p, p ≤ l.length → -1000000000000000 ≤ sumI (l.take p) ∧ sumI (l.take p) ≤ 1000000000000000) l, (fun (l : List Int) => (dI (sumI l) : D)) l, (fun (l : List Int) => []) l) :=
  mkCon_fn (fun x y h _ => c7_inj x y h) (l : (List Int)) (by simp [nz, nz1, ML_nil, encLI]) rfl
@[simp] theorem c7_fn1 (s_l : Nat) (z_l : D) : c7.fn [.sl false s_l z_l []] [] = some ((fun (l : List Int) => l.length ≤ 1073741823 ∧ ∀ p, p ≤ l.length → -1000000000000000 ≤ sumI (l.take p) ∧ sumI (l.take p) ≤ 1000000000000000) [], (fun (l : List Int) => (dI (sumI l) : D)) [], (fun (l : List Int) => []) []) :=
  mkCon_fn (fun x y h _ => c7_inj x y h) ([] : (List Int)) (by simp [nz, nz1, ML_nil, encLI]) rfl
theorem c7_pc (l : List Int) (hpre : l.length ≤ 1073741823 ∧ ∀ p, p ≤ l.length → -1000000000000000 ≤ sumI (l.take p) ∧ sumI (l.take p) ≤ 1000000000000000) : PCo Try.prog 7 [encLI l] (Tab.of []) (dI (sumI l)) (Tab.of []) := by
  refine pco_of_run [] (E := ⟨[], [], []⟩) (m := false) (base := 0) Env.ok_nil G_ok mix 300 6 Try.func7 (by kernel_rfl) rfl (by kernel_rfl) (by kernel_rfl) rfl ?_
  simp [Try.f7]
  obtain ⟨hp1, hp2⟩ := hpre
  refine loop_inv (fun p : Nat => p ≤ l.length) (fun p => [(0, encLI l), (3, dI (sumI (l.take p))), (4, dI p)]) (fun _ => []) 1 (fun p => l.length - p) 0 400 (by simp) (by simp) (by simp) ?_
  intro p hp
  simp
  refine ⟨fun hlt => ?_, fun hge => ?_⟩
  · have hs := sumI_at hlt
    have hb := hp2 (p + 1) (by omega)
    rw [hs] at hb
    repeat' (first | omega | refine And.intro ?_ ?_ | intro _)
    exact Again.mk (p + 1) (by omega) (by simp [hs]) (by first | omega | (simp; omega))
  · rw [List.take_of_length_le hge]
theorem c7_ok : c7.ok Try.prog := mkCon_ok fun l hpre => c7_pc l hpre
def sl8 : List Int := [0, 1, 9, 10, 11, 12345, 10000000, 10000001]
def sl4 : List Int := [0, 1, 999, 1000]
noncomputable def dSaN (l : List Int) : Int := sl8[(bV (newC l) 8).toNat]?.getD 0
noncomputable def dSaW (l : List Int) : Int := sl4[(bV (bN (newC l) 8) 4).toNat]?.getD 0
/-- loop.example/g03007/spec.DrawSalesOf -/
noncomputable def c8 : Con := mkCon 8 false (α := (List Int)) (fun x => (fun (l : List Int) => [encLU l]) x) (fun _ => []) (fun x => (fun (l : List Int) => l.length ≤ 2097152) x) (fun x => (fun (l : List Int) => (.tup [dI (dSaN l), dI (dSaW l)] : D)) x) (fun x => (fun (l : List Int) => []) x)
@[simp] theorem c8_f : c8.f = 8 := rfl
@[simp] theorem c8_own : c8.own = false := rfl
theorem c8_inj : ∀ u_ v_ : (List Int), ((fun x => (fun (l : List Int) => [encLU l]) x) u_).map nz = ((fun x => (fun (l : List Int) => [encLU l]) x) v_).map nz → u_ = v_ := by
  intro u_ v_ h
  obtain l := u_
  obtain l' := v_
  simp [nz_lit, nz1_lit, nz_agg, nz_sl, nz1_sl, encLU] at h
  first | (simp [h]; done) | (obtain ⟨⟩ := h; simp_all; done) | simp_all
@[simp] theorem c8_fn (l : List Int) : c8.fn [.sl false 1 (.lit (.int .u8 0)) (ML dU l)] [] = some ((fun (l : List Int) => l.length ≤ 2097152) l, (fun (l : List Int) => (.tup [dI (dSaN l), dI (dSaW l)] : D)) l, (fun (l : List Int) => []) l) :=
  mkCon_fn (fun x y h _ => c8_inj x y h) (l : (List Int)) (by simp [nz, nz1, ML_nil, encLU]) rfl
@[simp] theorem c8_fn1 (s_l : Nat) (z_l : D) : c8.fn [.sl false s_l z_l []] [] = some ((fun (l : List Int) => l.length ≤ 2097152) [], (fun (l : List Int) => (.tup [dI (dSaN l), dI (dSaW l)] : D)) [], (fun (l : List Int) => []) []) :=
  mkCon_fn (fun x y h _ => c8_inj x y h) ([] : (List Int)) (by simp [nz, nz1, ML_nil, encLU]) rfl
theorem c8_pc (l : List Int) (hpre : l.length ≤ 2097152) : PCo Try.prog 8 [encLU l] (Tab.of []) (.tup [dI (dSaN l), dI (dSaW l)]) (Tab.of []) := by
  refine pco_of_run [] (E := ⟨[c15, c16], [], []⟩) (m := false) (base := 1000000) (Env.ok_cons c15_ok (Env.ok_cons c16_ok Env.ok_nil)) G_ok mix 300 6 Try.func8 (by kernel_rfl) rfl (by kernel_rfl) (by kernel_rfl) rfl ?_
  have k1 := okCu_new hpre
  have k2 := okCu_bN k1 8
  have ea : dSaN l = sl8[(bV (newC l) sl8.length).toNat]?.getD 0 := rfl
  have eb : dSaW l = sl4[(bV (bN (newC l) 8) sl4.length).toNat]?.getD 0 := rfl
  rw [ea, eb]
  obtain ⟨fn, hn, hn2⟩ := exNewM
  obtain ⟨fi, fm, hfi, hvi, hsi⟩ := exBelI
  rw [← hn2] at k1 k2 ⊢
  rw [← hsi] at k2
  rw [← hsi, ← hvi, ← hvi]
  have hl8 : sl8 = [0, 1, 9, 10, 11, 12345, 10000000, 10000001] := rfl
  have hl4 : sl4 = [0, 1, 999, 1000] := rfl
  have e8 : ∀ a0 a1 a2 a3 a4 a5 a6 a7 : Int, ML dI [a0, a1, a2, a3, a4, a5, a6, a7] = [dI a0, dI a1, dI a2, dI a3, dI a4, dI a5, dI a6, dI a7] := fun _ _ _ _ _ _ _ _ => rfl
  have e8l : ∀ a0 a1 a2 a3 a4 a5 a6 a7 : Int, (([a0, a1, a2, a3, a4, a5, a6, a7] : List Int).length : Int) = 8 := fun _ _ _ _ _ _ _ _ => rfl
  have e4 : ∀ a0 a1 a2 a3 : Int, ML dI [a0, a1, a2, a3] = [dI a0, dI a1, dI a2, dI a3] := fun _ _ _ _ => rfl
  have e4l : ∀ a0 a1 a2 a3 : Int, (([a0, a1, a2, a3] : List Int).length : Int) = 4 := fun _ _ _ _ => rfl
  have h8 := fun a0 a1 a2 a3 a4 a5 a6 a7 => hfi (fn l) [a0, a1, a2, a3, a4, a5, a6, a7]
  have h4 := fun a0 a1 a2 a3 => hfi (fm (fn l) 8) [a0, a1, a2, a3]
  simp only [e8, e8l] at h8
  simp only [e4, e4l] at h4
  rw [hl8, hl4]
  clear hn2 hvi hsi
  simp [Try.f8, hn, h8, h4, -c15_fn, -c16_fn, hpre, k1, k2]
  first | done | trace_state
theorem c8_ok : c8.ok Try.prog := mkCon_ok fun l hpre => c8_pc l hpre
def fl7 : List Int := [0, 1, 10, 90, 1000, 1001, -1]
noncomputable def dFx (l : List Int) : TThing := (a4 (newC l)).1
noncomputable def dFd (l : List Int) : Int := fl7[(bV (a4 (newC l)).2 7).toNat]?.getD 0
/-- loop.example/g03007/spec.DrawFeeFor -/
noncomputable def c11 : Con := mkCon 11 false (α := (List Int)) (fun x => (fun (l : List Int) => [encLU l]) x) (fun _ => []) (fun x => (fun (l : List Int) => l.length ≤ 2097152) x) (fun x => (fun (l : List Int) => (.tup [encTThing (dFx l), dI (dFd l)] : D)) x) (fun x => (fun (l : List Int) => []) x)
@[simp] theorem c11_f : c11.f = 11 := rfl
@[simp] theorem c11_own : c11.own = false := rfl
theorem c11_inj : ∀ u_ v_ : (List Int), ((fun x => (fun (l : List Int) => [encLU l]) x) u_).map nz = ((fun x => (fun (l : List Int) => [encLU l]) x) v_).map nz → u_ = v_ := by
  intro u_ v_ h
  obtain l := u_
  obtain l' := v_
  simp [nz_lit, nz1_lit, nz_agg, nz_sl, nz1_sl, encLU] at h
  first | (simp [h]; done) | (obtain ⟨⟩ := h; simp_all; done) | simp_all
@[simp] theorem c11_fn (l : List Int) : c11.fn [.sl false 1 (.lit (.int .u8 0)) (ML dU l)] [] = some ((fun (l : List Int) => l.length ≤ 2097152) l, (fun (l : List Int) => (.tup [encTThing (dFx l), dI (dFd l)] : D)) l, (fun (l : List Int) => []) l) :=
  mkCon_fn (fun x y h _ => c11_inj x y h) (l : (List Int)) (by simp [nz, nz1, ML_nil, encLU]) rfl
@[simp] theorem c11_fn1 (s_l : Nat) (z_l : D) : c11.fn [.sl false s_l z_l []] [] = some ((fun (l : List Int) => l.length ≤ 2097152) [], (fun (l : List Int) => (.tup [encTThing (dFx l), dI (dFd l)] : D)) [], (fun (l : List Int) => []) []) :=
  mkCon_fn (fun x y h _ => c11_inj x y h) ([] : (List Int)) (by simp [nz, nz1, ML_nil, encLU]) rfl
theorem c11_pc (l : List Int) (hpre : l.length ≤ 2097152) : PCo Try.prog 11 [encLU l] (Tab.of []) (.tup [encTThing (dFx l), dI (dFd l)]) (Tab.of []) := by
  refine pco_of_run [1003, 9000016, 11000007] (E := ⟨[c15, c16, c23], [], []⟩) (m := false) (base := 1000000) (Env.ok_cons c15_ok (Env.ok_cons c16_ok (Env.ok_cons c23_ok Env.ok_nil))) G_ok mix 300 6 Try.func11 (by kernel_rfl) rfl (by kernel_rfl) (by kernel_rfl) rfl ?_
  have k1 := okCu_new hpre
  have ea : dFx l = (a4 (newC l)).1 := rfl
  have eb : dFd l = fl7[(bV (a4 (newC l)).2 fl7.length).toNat]?.getD 0 := rfl
  rw [ea, eb]
  obtain ⟨fn, hn, hn2⟩ := exNewM
  obtain ⟨fi, fm, hfi, hvi, hsi⟩ := exBelI
  obtain ⟨fa, fg, hf, hv, hs, hg⟩ := exA4
  rw [← hn2] at k1 ⊢
  have k2 := hg _ k1
  rw [← hs, ← hvi, ← hv]
  have hl7 : fl7 = [0, 1, 10, 90, 1000, 1001, -1] := rfl
  have e7 : ∀ a0 a1 a2 a3 a4 a5 a6 : Int, ML dI [a0, a1, a2, a3, a4, a5, a6] = [dI a0, dI a1, dI a2, dI a3, dI a4, dI a5, dI a6] := fun _ _ _ _ _ _ _ => rfl
  have e7l : ∀ a0 a1 a2 a3 a4 a5 a6 : Int, (([a0, a1, a2, a3, a4, a5, a6] : List Int).length : Int) = 7 := fun _ _ _ _ _ _ _ => rfl
  have h7 := fun a0 a1 a2 a3 a4 a5 a6 => hfi (fg (fn l)) [a0, a1, a2, a3, a4, a5, a6]
  simp only [e7, e7l] at h7
  rw [hl7]
  clear hn2 hvi hsi hv hs
  simp [Try.f11, hn, hf, h7, -c15_fn, -c16_fn, -c23_fn, hpre, k1, k2]
  first | done | trace_state
theorem c11_ok : c11.ok Try.prog := mkCon_ok fun l hpre => c11_pc l hpre
def rl4 : List Int := [49999, 50000, 50001, 10000000]
noncomputable def dRx (l : List Int) : TThing := if bV (a4 (newC l)).2 3 = 0 then { (a4 (newC l)).1 with Worth := rl4[(bV (bN (a4 (newC l)).2 3) 4).toNat]?.getD 0 } else (a4 (newC l)).1
/-- loop.example/g03007/spec.DrawRewardFor -/
noncomputable def c13 : Con := mkCon 13 false (α := (List Int)) (fun x => (fun (l : List Int) => [encLU l]) x) (fun _ => []) (fun x => (fun (l : List Int) => l.length ≤ 2097152) x) (fun x => (fun (l : List Int) => (encTThing (dRx l) : D)) x) (fun x => (fun (l : List Int) => []) x)
@[simp] theorem c13_f : c13.f = 13 := rfl
@[simp] theorem c13_own : c13.own = false := rfl
theorem c13_inj : ∀ u_ v_ : (List Int), ((fun x => (fun (l : List Int) => [encLU l]) x) u_).map nz = ((fun x => (fun (l : List Int) => [encLU l]) x) v_).map nz → u_ = v_ := by
  intro u_ v_ h
  obtain l := u_
  obtain l' := v_
  simp [nz_lit, nz1_lit, nz_agg, nz_sl, nz1_sl, encLU] at h
  first | (simp [h]; done) | (obtain ⟨⟩ := h; simp_all; done) | simp_all
@[simp] theorem c13_fn (l : List Int) : c13.fn [.sl false 1 (.lit (.int .u8 0)) (ML dU l)] [] = some ((fun (l : List Int) => l.length ≤ 2097152) l, (fun (l : List Int) => (encTThing (dRx l) : D)) l, (fun (l : List Int) => []) l) :=
  mkCon_fn (fun x y h _ => c13_inj x y h) (l : (List Int)) (by simp [nz, nz1, ML_nil, encLU]) rfl
@[simp] theorem c13_fn1 (s_l : Nat) (z_l : D) : c13.fn [.sl false s_l z_l []] [] = some ((fun (l : List Int) => l.length ≤ 2097152) [], (fun (l : List Int) => (encTThing (dRx l) : D)) [], (fun (l : List Int) => []) []) :=
  mkCon_fn (fun x y h _ => c13_inj x y h) ([] : (List Int)) (by simp [nz, nz1, ML_nil, encLU]) rfl
theorem c13_pc (l : List Int) (hpre : l.length ≤ 2097152) : PCo Try.prog 13 [encLU l] (Tab.of []) (encTThing (dRx l)) (Tab.of []) := by
  refine pco_of_run [] (E := ⟨[c15, c16, c18, c23], [], []⟩) (m := false) (base := 1000000) (Env.ok_cons c15_ok (Env.ok_cons c16_ok (Env.ok_cons c18_ok (Env.ok_cons c23_ok Env.ok_nil)))) G_ok mix 300 6 Try.func13 (by kernel_rfl) rfl (by kernel_rfl) (by kernel_rfl) rfl ?_
  have k1 := okCu_new hpre
  have ea : dRx l = if bV (a4 (newC l)).2 3 = 0 then { (a4 (newC l)).1 with Worth := rl4[(bV (bN (a4 (newC l)).2 3) rl4.length).toNat]?.getD 0 } else (a4 (newC l)).1 := rfl
  rw [ea]
  obtain ⟨fn, hn, hn2⟩ := exNewM
  obtain ⟨fv, fs, hb, hbv, hbs⟩ := exBel
  obtain ⟨fi, fm, hfi, hvi, hsi⟩ := exBelI
  obtain ⟨fa, fg, hf, hv, hs, hg⟩ := exA4
  have hfo : ∀ (c : TL1Cur) (n : Int), c18.fn [.ptr (0, 0) 0, .lit (.int .i64 n)] [((0, 0), .box (.agg [.sl false 1 (.lit (.int .u8 0)) (ML dU c.b_), .lit (.int .i64 c.i_), .lit (.int .i64 c.h_)]))] = some (okCu c, .lit (.bool (decide (fv c n = 0))), [((0, 0), .box (encTL1Cur (fs c n)))]) := fun c n => by rw [hbv, hbs]; exact c18_fn c.b_ c.i_ c.h_ n
  rw [← hn2] at k1 ⊢
  have k2 := hg _ k1
  have k3 : okCu (fs (fg (fn l)) 3) := by rw [hbs]; exact okCu_bN k2 3
  rw [← hs, ← hbv, ← hbs, ← hvi, ← hv]
  have hl4 : rl4 = [49999, 50000, 50001, 10000000] := rfl
  have e4 : ∀ a0 a1 a2 a3 : Int, ML dI [a0, a1, a2, a3] = [dI a0, dI a1, dI a2, dI a3] := fun _ _ _ _ => rfl
  have e4l : ∀ a0 a1 a2 a3 : Int, (([a0, a1, a2, a3] : List Int).length : Int) = 4 := fun _ _ _ _ => rfl
  have h4 := fun a0 a1 a2 a3 => hfi (fs (fg (fn l)) 3) [a0, a1, a2, a3]
  simp only [e4, e4l] at h4
  rw [hl4]
  clear hn2 hvi hsi hv hs hbv hbs
  by_cases q : fv (fg (fn l)) 3 = 0
  · rw [if_pos q]
    simp [Try.f13, hn, hf, h4, hfo, -c15_fn, -c16_fn, -c23_fn, -c18_fn, hpre, k1, k2, k3, q]
    first | done | trace_state
  · rw [if_neg q]
    simp [Try.f13, hn, hf, h4, hfo, -c15_fn, -c16_fn, -c23_fn, -c18_fn, hpre, k1, k2, k3, q]
    first | done | trace_state
theorem c13_ok : c13.ok Try.prog := mkCon_ok fun l hpre => c13_pc l hpre

end Go.Proofs.Ytanmlliijcpdjaa
