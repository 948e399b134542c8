/- Contracts of the functions that the laws run. -/
import Derived.Test.YtdbhfkbfajljpaaDoorch26
import Derived.Test.YtdbhfkbfajljpaaDoorEngB
namespace Go.Proofs.YtdbhfkbfajljpaaDoor
open Go Go.Eng
set_option linter.unusedSimpArgs false
set_option linter.unusedVariables false
set_option maxRecDepth 10000
set_option maxHeartbeats 1000000
def cntO (l : List Bool) : Nat → Int → Int
  | 0, _ => 0
  | k + 1, d => (if isO l d then 1 else 0) + cntO l k (d + 1)
theorem cntO_bd (l : List Bool) : ∀ (k : Nat) (d : Int), 0 ≤ cntO l k d ∧ cntO l k d ≤ k
  | 0, d => by simp [cntO]
  | k + 1, d => by
    have := cntO_bd l k (d + 1)
    simp only [cntO]; split <;> push_cast <;> omega
def mBetw (l : List Bool) (a b : Int) : Int := if isCal l = true ∧ 0 ≤ a ∧ b ≤ 10000 then cntO l (b - a + 1).toNat a else 0
/-- loop.example/g03007/impl.OpenDaysBetween -/
noncomputable def c8 : Con := mkCon 8 false (α := (List Bool) × Int × Int) (fun x => (fun (l : List Bool) (a : Int) (b : Int) => [encLB l, dI a, dI b]) x.1 x.2.1 x.2.2) (fun _ => []) (fun x => (fun (l : List Bool) (a : Int) (b : Int) => l.length ≤ 1099511627776) x.1 x.2.1 x.2.2) (fun x => (fun (l : List Bool) (a : Int) (b : Int) => (dI (mBetw l a b) : D)) x.1 x.2.1 x.2.2) (fun x => (fun (l : List Bool) (a : Int) (b : Int) => []) x.1 x.2.1 x.2.2)
@[simp] theorem c8_f : c8.f = 8 := rfl
@[simp] theorem c8_own : c8.own = false := rfl
theorem c8_inj : ∀ u_ v_ : (List Bool) × Int × Int, ((fun x => (fun (l : List Bool) (a : Int) (b : Int) => [encLB l, dI a, dI b]) x.1 x.2.1 x.2.2) u_).map nz = ((fun x => (fun (l : List Bool) (a : Int) (b : Int) => [encLB l, dI a, dI b]) x.1 x.2.1 x.2.2) v_).map nz → u_ = v_ := by
  intro u_ v_ h
  obtain ⟨l, a, b⟩ := u_
  obtain ⟨l', a', b'⟩ := v_
  simp [nz_lit, nz1_lit, nz_agg, nz_sl, nz1_sl, encLB] at h
  first | (simp [h]; done) | (obtain ⟨⟩ := h; simp_all; done) | simp_all
@[simp] theorem c8_fn (l : List Bool) (a : Int) (b : Int) : c8.fn [.sl false 1 (.lit (.bool false)) (ML dB l), .lit (.int .i64 a), .lit (.int .i64 b)] [] = some ((fun (l : List Bool) (a : Int) (b : Int) => l.length ≤ 1099511627776) l a b, (fun (l : List Bool) (a : Int) (b : Int) => (dI (mBetw l a b) : D)) l a b, (fun (l : List Bool) (a : Int) (b : Int) => []) l a b) :=
  mkCon_fn (fun x y h _ => c8_inj x y h) ((l, a, b) : (List Bool) × Int × Int) (by simp [nz, nz1, ML_nil, encLB]) rfl
@[simp] theorem c8_fn1 (s_l : Nat) (z_l : D) (a : Int) (b : Int) : c8.fn [.sl false s_l z_l [], .lit (.int .i64 a), .lit (.int .i64 b)] [] = some ((fun (l : List Bool) (a : Int) (b : Int) => l.length ≤ 1099511627776) [] a b, (fun (l : List Bool) (a : Int) (b : Int) => (dI (mBetw l a b) : D)) [] a b, (fun (l : List Bool) (a : Int) (b : Int) => []) [] a b) :=
  mkCon_fn (fun x y h _ => c8_inj x y h) (([], a, b) : (List Bool) × Int × Int) (by simp [nz, nz1, ML_nil, encLB]) rfl
theorem c8_pc (l : List Bool) (a : Int) (b : Int) (hpre : l.length ≤ 1099511627776) : PCo Tryd.prog 8 [encLB l, dI a, dI b] (Tab.of []) (dI (mBetw l a b)) (Tab.of []) := by
  refine pco_of_run [] (E := ⟨[c7, c11], [], []⟩) (m := false) (base := 0) (Env.ok_cons c7_ok (Env.ok_cons c11_ok Env.ok_nil)) G_ok mix 300 6 Tryd.func8 (by kernel_rfl) rfl (by kernel_rfl) (by kernel_rfl) rfl ?_
  by_cases h : isCal l = true ∧ 0 ≤ a ∧ b ≤ 10000
  · have hm : mBetw l a b = cntO l (b - a + 1).toNat a := by rw [mBetw, if_pos h]
    obtain ⟨hcal, ha, hb⟩ := h
    have h7 := (isCal_iff.1 hcal).1
    simp [Tryd.f8, hcal, ha, hb]
    refine ⟨hpre, fun hbad => by omega, ?_⟩
    refine loop_inv (fun q : Int × Int => a ≤ q.1 ∧ 0 ≤ q.2 ∧ q.2 ≤ 20000 ∧ q.2 + cntO l (b - q.1 + 1).toNat q.1 = mBetw l a b) (fun q => [(0, encLB l), (2, dI b), (7, dI q.2), (8, dI q.1)]) (fun _ => []) 1 (fun q => (b - q.1 + 1).toNat) (a, 0) 400 (by simp) (by simp [hm]) (by simp) ?_
    intro ⟨d, c⟩ ⟨hd, hc0, hc1, hi⟩
    simp only at hd hc0 hc1 hi
    have ht := tm7 (d := d) (by omega)
    have hs : isO l d = l[(d % 7).toNat]?.getD false := rfl
    have hIn : mIn d 0 100000 = decide (d ≤ 100000) := by simp [mIn]; omega
    have hmb : mBetw l a b ≤ 10001 := by have := cntO_bd l (b - a + 1).toNat a; rw [hm]; omega
    simp (config := {maxSteps := 2000000}) [hIn, ← hs, hcal, ha, hb]
    by_cases hdb : d ≤ b
    · have hk : (b - d + 1).toNat = (b - (d + 1) + 1).toNat + 1 := by omega
      have hcb := cntO_bd l (b - (d + 1) + 1).toNat (d + 1)
      rw [hk, cntO] at hi
      cases ho : isO l d with
      | true =>
        rw [ho] at hi; simp at hi
        simp
        repeat' (first | omega | refine And.intro ?_ ?_ | intro _)
        all_goals first | (exfalso; omega) | exact Again.mk (d + 1, c + 1) ⟨by simp; omega, by simp; omega, by simp; omega, by simp only; omega⟩ (by simp) (by simp; omega)
      | false =>
        rw [ho] at hi; simp at hi
        simp
        repeat' (first | omega | refine And.intro ?_ ?_ | intro _)
        all_goals first | (exfalso; omega) | exact Again.mk (d + 1, c) ⟨by simp; omega, by simp; omega, by simp; omega, by simp only; omega⟩ (by simp) (by simp; omega)
    · have hk : (b - d + 1).toNat = 0 := by omega
      rw [hk, cntO] at hi
      repeat' (first | omega | refine And.intro ?_ ?_ | intro _)
      all_goals trace_state
  · have hm : mBetw l a b = 0 := by rw [mBetw, if_neg h]
    simp [Tryd.f8, hm]
    exact ⟨hpre, fun h1 h2 h3 => absurd ⟨h1, h2, h3⟩ h⟩
theorem c8_ok : c8.ok Tryd.prog := mkCon_ok fun ⟨l, a, b⟩ hpre => c8_pc l a b hpre

end Go.Proofs.YtdbhfkbfajljpaaDoor
