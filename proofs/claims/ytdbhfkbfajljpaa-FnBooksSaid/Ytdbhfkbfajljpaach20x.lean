/- Contracts of the functions that the laws run. -/
import Derived.Test.Ytdbhfkbfajljpaach20c
import Derived.Test.YtdbhfkbfajljpaaEngB
namespace Go.Proofs.Ytdbhfkbfajljpaa
open Go Go.Eng
set_option linter.unusedSimpArgs false
set_option linter.unusedVariables false
set_option maxRecDepth 10000
set_option maxHeartbeats 1000000
def mSales (c w : Int) : List TShare := if mIn c 0 10000000 = false then [] else if mIn w 1 999 = false then [⟨0, c⟩] else [⟨w, sAt c [1, 9] 0⟩, ⟨0, sAt c [1, 9] 1⟩]
theorem mSales_len (c w : Int) : (mSales c w).length ≤ 2 := by simp only [mSales]; split <;> (try split) <;> simp
theorem kSplit_19 {c : Int} (h : mIn c 0 10000000 = true) : kSplit c [1, 9] = true := by simp [kSplit, h]; decide
theorem mSplit_19 {c : Int} (h : mIn c 0 10000000 = true) : mSplit c [1, 9] = [sAt c [1, 9] 0, sAt c [1, 9] 1] := by
  simp [mSplit, kSplit_19 h, gen, List.range_succ]
theorem split_19 (c : Int) : c59.fn [dI c, .sl false 1 (.lit (.int .i64 0)) [dI 1, dI 9]] [] = some (2 ≤ 1073741823, .own (0, 1) 1 0 (mSplit c [1, 9]).length, [((0, 1), .arr false 1 (dI 0) (ML dI (mSplit c [1, 9])))]) := c59_fn c [1, 9]
/-- loop.example/g03007/spec.SalesOf -/
noncomputable def c43 : Con := mkCon 43 false (α := Int × Int) (fun x => (fun (c : Int) (w : Int) => [dI c, dI w]) x.1 x.2) (fun _ => []) (fun x => (fun (c : Int) (w : Int) => True) x.1 x.2) (fun x => (fun (c : Int) (w : Int) => (.own (0, 1) 2 0 (mSales c w).length : D)) x.1 x.2) (fun x => (fun (c : Int) (w : Int) => [((0, 1), .arr false 2 yTShare (ML encTShare (mSales c w)))]) x.1 x.2)
@[simp] theorem c43_f : c43.f = 43 := rfl
@[simp] theorem c43_own : c43.own = false := rfl
theorem c43_inj : ∀ u_ v_ : Int × Int, ((fun x => (fun (c : Int) (w : Int) => [dI c, dI w]) x.1 x.2) u_).map nz = ((fun x => (fun (c : Int) (w : Int) => [dI c, dI w]) x.1 x.2) v_).map nz → u_ = v_ := by
  intro u_ v_ h
  obtain ⟨c, w⟩ := u_
  obtain ⟨c', w'⟩ := v_
  simp [nz_lit, nz1_lit, nz_agg, nz_sl, nz1_sl] at h
  first | (simp [h]; done) | (obtain ⟨⟩ := h; simp_all; done) | simp_all
@[simp] theorem c43_fn (c : Int) (w : Int) : c43.fn [.lit (.int .i64 c), .lit (.int .i64 w)] [] = some ((fun (c : Int) (w : Int) => True) c w, (fun (c : Int) (w : Int) => (.own (0, 1) 2 0 (mSales c w).length : D)) c w, (fun (c : Int) (w : Int) => [((0, 1), .arr false 2 yTShare (ML encTShare (mSales c w)))]) c w) :=
  mkCon_fn (fun x y h _ => c43_inj x y h) ((c, w) : Int × Int) (by simp [nz, nz1, ML_nil]) rfl
theorem c43_pc (c : Int) (w : Int) : PCo Try.prog 43 [dI c, dI w] (Tab.of []) (.own (0, 1) 2 0 (mSales c w).length) (Tab.of [((0, 1), .arr false 2 yTShare (ML encTShare (mSales c w)))]) := by
  refine pco_of_run [] (E := ⟨[c56, c59], [], []⟩) (m := false) (base := 0) (Env.ok_cons c56_ok (Env.ok_cons c59_ok Env.ok_nil)) G_ok mix 300 6 Try.func43 (by kernel_rfl) rfl (by kernel_rfl) (by kernel_rfl) rfl ?_
  cases h1 : mIn c 0 10000000 with
  | false => simp [Try.f43, h1, mSales]
  | true => cases h2 : mIn w 1 999 with
    | false =>
      simp [Try.f43, h1, h2, mSales]
      rfl
    | true =>
      simp [Try.f43, h1, h2, mSales, split_19, mSplit_19 h1, ML_ge]
      first | done | rfl
theorem c43_ok : c43.ok Try.prog := mkCon_ok fun ⟨c, w⟩ hpre => c43_pc c w
def mTotal (l : List TShare) : Int := l.foldl (fun n s => n + min (max s.Cents 0) 10000000) 0
theorem mTotal_at {l : List TShare} {p : Nat} (h : p < l.length) : mTotal (l.take (p + 1)) = mTotal (l.take p) + min (max (l[p]?.getD default).Cents 0) 10000000 := by
  simp only [mTotal]; rw [foldl_at (d := default) h]
theorem mTotal_bd {l : List TShare} : ∀ (p : Nat), p ≤ l.length → 0 ≤ mTotal (l.take p) ∧ mTotal (l.take p) ≤ 10000000 * p
  | 0, _ => by simp [mTotal]
  | p + 1, h => by
    have h1 := mTotal_bd (l := l) p (by omega)
    rw [mTotal_at (by omega)]
    omega
/-- loop.example/g03007/impl.TotalShares -/
noncomputable def c27 : Con := mkCon 27 false (α := (List TShare)) (fun x => (fun (l : List TShare) => [encLTShare l]) x) (fun _ => []) (fun x => (fun (l : List TShare) => l.length ≤ 1073741823) x) (fun x => (fun (l : List TShare) => (dI (mTotal l) : D)) x) (fun x => (fun (l : List TShare) => []) x)
@[simp] theorem c27_f : c27.f = 27 := rfl
@[simp] theorem c27_own : c27.own = false := rfl
theorem c27_inj : ∀ u_ v_ : (List TShare), ((fun x => (fun (l : List TShare) => [encLTShare l]) x) u_).map nz = ((fun x => (fun (l : List TShare) => [encLTShare l]) x) v_).map nz → u_ = v_ := by
  intro u_ v_ h
  obtain l := u_
  obtain l' := v_
  simp [nz_lit, nz1_lit, nz_agg, nz_sl, nz1_sl, encLTShare] at h
  first | (simp [h]; done) | (obtain ⟨⟩ := h; simp_all; done) | simp_all
@[simp] theorem c27_fn (l : List TShare) : c27.fn [.sl false 2 yTShare (ML encTShare l)] [] = some ((fun (l : List TShare) => l.length ≤ 1073741823) l, (fun (l : List TShare) => (dI (mTotal l) : D)) l, (fun (l : List TShare) => []) l) :=
  mkCon_fn (fun x y h _ => c27_inj x y h) (l : (List TShare)) (by simp [nz, nz1, ML_nil, encLTShare]) rfl
@[simp] theorem c27_fn1 (s_l : Nat) (z_l : D) : c27.fn [.sl false s_l z_l []] [] = some ((fun (l : List TShare) => l.length ≤ 1073741823) [], (fun (l : List TShare) => (dI (mTotal l) : D)) [], (fun (l : List TShare) => []) []) :=
  mkCon_fn (fun x y h _ => c27_inj x y h) ([] : (List TShare)) (by simp [nz, nz1, ML_nil, encLTShare]) rfl
theorem c27_pc (l : List TShare) (hpre : l.length ≤ 1073741823) : PCo Try.prog 27 [encLTShare l] (Tab.of []) (dI (mTotal l)) (Tab.of []) := by
  refine pco_of_run [] (E := ⟨[c51], [], []⟩) (m := false) (base := 0) (Env.ok_cons c51_ok Env.ok_nil) G_ok mix 300 6 Try.func27 (by kernel_rfl) rfl (by kernel_rfl) (by kernel_rfl) rfl ?_
  simp [Try.f27]
  refine loop_inv (fun p : Nat => p ≤ l.length) (fun p => [(3, dI (mTotal (l.take p))), (6, encLTShare l), (7, dI l.length), (8, dI p)]) (fun _ => []) 1 (fun p => l.length - p) 0 400 (by simp) (by simp) (by simp [mTotal]) ?_
  intro p hp
  simp
  refine ⟨fun hlt => ?_, fun hge => ?_⟩
  · have hs := mTotal_at hlt
    have hb := mTotal_bd p hp
    repeat' (first | omega | refine And.intro ?_ ?_ | intro _)
    refine Again.mk (p + 1) (by omega) (by simp [hs]) (by first | omega | (simp; omega))
  · rw [List.take_of_length_le hge]
theorem c27_ok : c27.ok Try.prog := mkCon_ok fun l hpre => c27_pc l hpre

end Go.Proofs.Ytdbhfkbfajljpaa
