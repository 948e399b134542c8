/- Contracts of the functions that the laws run. -/
import Derived.Test.YtpnfkjbnhholfaaDoorEngB
import Derived.Test.YtpnfkjbnhholfaaDoorEngB
import Derived.Test.YtpnfkjbnhholfaaDoorEngB
import Derived.Test.YtpnfkjbnhholfaaDoorlw17m
import Derived.Test.YtpnfkjbnhholfaaDoorEngB
namespace Go.Proofs.YtpnfkjbnhholfaaDoor
open Go Go.Eng
set_option linter.unusedSimpArgs false
set_option linter.unusedVariables false
set_option maxRecDepth 10000
set_option maxHeartbeats 1000000
/-- loop.example/g03007/impl.DueThings -/
noncomputable def c14f : Con := mkCon 14 false (α := (List TFind) × Int) (fun x => (fun (l : List TFind) (now : Int) => [encLTFind l, dI now]) x.1 x.2) (fun _ => []) (fun x => (fun (l : List TFind) (now : Int) => l.length ≤ 1073741823) x.1 x.2) (fun x => (fun (l : List TFind) (now : Int) => (encLI (mDueT l now) : D)) x.1 x.2) (fun x => (fun (l : List TFind) (now : Int) => []) x.1 x.2)
@[simp] theorem c14f_f : c14f.f = 14 := rfl
@[simp] theorem c14f_own : c14f.own = false := rfl
theorem c14f_inj : ∀ u_ v_ : (List TFind) × Int, ((fun x => (fun (l : List TFind) (now : Int) => [encLTFind l, dI now]) x.1 x.2) u_).map nz = ((fun x => (fun (l : List TFind) (now : Int) => [encLTFind l, dI now]) x.1 x.2) v_).map nz → u_ = v_ := by
  intro u_ v_ h
  obtain ⟨l, now⟩ := u_
  obtain ⟨l', now'⟩ := v_
  simp [nz_lit, nz1_lit, nz_agg, nz_sl, nz1_sl, encLTFind] at h
  first | (simp [h]; done) | (obtain ⟨⟩ := h; simp_all; done) | simp_all
@[simp] theorem c14f_fn (l : List TFind) (now : Int) : c14f.fn [.sl false 8 yTFind (ML encTFind l), .lit (.int .i64 now)] [] = some ((fun (l : List TFind) (now : Int) => l.length ≤ 1073741823) l now, (fun (l : List TFind) (now : Int) => (encLI (mDueT l now) : D)) l now, (fun (l : List TFind) (now : Int) => []) l now) :=
  mkCon_fn (fun x y h _ => c14f_inj x y h) ((l, now) : (List TFind) × Int) (by simp [nz, nz1, ML_nil, encLTFind]) rfl
@[simp] theorem c14f_fn1 (s_l : Nat) (z_l : D) (now : Int) : c14f.fn [.sl false s_l z_l [], .lit (.int .i64 now)] [] = some ((fun (l : List TFind) (now : Int) => l.length ≤ 1073741823) [] now, (fun (l : List TFind) (now : Int) => (encLI (mDueT l now) : D)) [] now, (fun (l : List TFind) (now : Int) => []) [] now) :=
  mkCon_fn (fun x y h _ => c14f_inj x y h) (([], now) : (List TFind) × Int) (by simp [nz, nz1, ML_nil, encLTFind]) rfl
theorem c14f_pc (l : List TFind) (now : Int) (hpre : l.length ≤ 1073741823) : PCo Tryd.prog 14 [encLTFind l, dI now] (Tab.of []) (encLI (mDueT l now)) (Tab.of []) := by
  exact pco_frz1 (by simp) (c14_pc l now hpre)
theorem c14f_ok : c14f.ok Tryd.prog := mkCon_ok fun ⟨l, now⟩ hpre => c14f_pc l now hpre
/-- loop.example/g03007/laws.FnKept -/
theorem law3 (l : List Int) (wl : wfLU l) : PCo Tryd.prog 3 [encLU l] (Tab.of []) (dB true) (Tab.of []) := by
  refine pco_of_run [] (E := ⟨[c5, c6, c7, c8, c9, c10, c11, c12, c13, c14f, c15, c16], [], []⟩) (m := false) (base := 0) (Env.ok_cons c5_ok (Env.ok_cons c6_ok (Env.ok_cons c7_ok (Env.ok_cons c8_ok (Env.ok_cons c9_ok (Env.ok_cons c10_ok (Env.ok_cons c11_ok (Env.ok_cons c12_ok (Env.ok_cons c13_ok (Env.ok_cons c14f_ok (Env.ok_cons c15_ok (Env.ok_cons c16_ok Env.ok_nil)))))))))))) G_ok mix 400 6 Tryd.func3 (by kernel_rfl) rfl (by kernel_rfl) (by kernel_rfl) rfl ?_
  have hl : l.length ≤ maxLen := wl.1
  by_cases hbig : 1048576 < l.length
  · simp [Tryd.f3, hbig]
  · have hp : l.length ≤ 2097152 := by omega
    have b1 := v6_ok l hp
    have b2 := v12_ok l hp
    have h1 := c6_fn l
    have h2 := c12_fn l
    generalize v6 l = X at *
    generalize v12 l = Y at *
    obtain ⟨f, now⟩ := X
    obtain ⟨L, t⟩ := Y
    simp only at b1 b2 h1 h2
    have hd := due_bd f
    obtain ⟨d1, d2⟩ := due_iff f
    have hlf := @left_ok f now
    have hml := mDueT_len L t
    obtain ⟨n1, _, n3⟩ := next_fold t L (-1) (.inl rfl)
    have hnd : mNextDue L t = L.foldl (stepDue t) (-1) := rfl
    rw [← hnd] at n1 n3
    have hdue : ∀ p, p < L.length → mAreFinds L = true → mHas (mDueT L t) (L[p]?.getD default).Thing.Id = true → mIsDue t (L[p]?.getD default) = true := fun p hp ha h => due_has ha (getD_mem hp) h
    cases hf : mIsFind f with
    | true =>
      have hk := keep_pos hf
      have d1 := d1 hf
      have e1 : mIsDue (mDueHour f) f = true := by simp [mIsDue, hf]
      have e2 : mIsDue (mDueHour f - 1) f = false := by simp [mIsDue, hf]; omega
      simp (config := {maxSteps := 3000000}) [Tryd.f3, hbig, h1, h2, -c6_fn, -c12_fn, hf, d1, e1, e2]
      repeat' (with_reducible first | apply And.intro | intro _)
      all_goals try (first | omega | assumption | (simp; done) | (simp only [below_eq, Int.reduceLT]; omega))
      all_goals try (have q := hlf (by assumption); first | omega | exact q.1)
      refine loop_inv (fun p : Nat => p ≤ L.length) (fun p => [(7, encLTFind L), (8, dI t), (9, dI (mNextDue L t)), (10, encLI (mDueT L t)), (11, dI p)]) (fun _ => []) 1 (fun p => L.length - p) 0 400 (by simp) (by simp) (by simp) ?_
      intro p hpL
      have hb := due_bd (L[p]?.getD default)
      have n3p := fun h => n3 _ (getD_mem (l := L) (p := p) (d := default) h)
      have hdp := hdue p
      simp (config := {maxSteps := 3000000})
      repeat' (with_reducible first | apply And.intro | intro _)
      all_goals try (first | omega | assumption | (simp; done) | (simp only [below_eq, Int.reduceLT]; omega))
      all_goals first | exact Again.mk (p + 1) (by omega) (by simp) (by first | omega | (simp; omega)) | exact hdp (by omega) (by assumption) (by assumption) | (have q := n3p (by omega) (by assumption) (by assumption); omega) | (have q := n3p (by omega) (by omega) (by omega); omega) | trace_state
    | false =>
      have d2 := d2 hf
      have e0 : mDaysLeft f now = 0 := by simp [mDaysLeft, hf]
      simp (config := {maxSteps := 3000000}) [Tryd.f3, hbig, h1, h2, -c6_fn, -c12_fn, hf, d2, e0]
      repeat' (with_reducible first | apply And.intro | intro _)
      all_goals try (first | omega | assumption | (simp; done) | (simp only [below_eq, Int.reduceLT]; omega))
      all_goals try (have q := hlf (by assumption); first | omega | exact q.1)
      refine loop_inv (fun p : Nat => p ≤ L.length) (fun p => [(7, encLTFind L), (8, dI t), (9, dI (mNextDue L t)), (10, encLI (mDueT L t)), (11, dI p)]) (fun _ => []) 1 (fun p => L.length - p) 0 400 (by simp) (by simp) (by simp) ?_
      intro p hpL
      have hb := due_bd (L[p]?.getD default)
      have n3p := fun h => n3 _ (getD_mem (l := L) (p := p) (d := default) h)
      have hdp := hdue p
      simp (config := {maxSteps := 3000000})
      repeat' (with_reducible first | apply And.intro | intro _)
      all_goals try (first | omega | assumption | (simp; done) | (simp only [below_eq, Int.reduceLT]; omega))
      all_goals first | exact Again.mk (p + 1) (by omega) (by simp) (by first | omega | (simp; omega)) | exact hdp (by omega) (by assumption) (by assumption) | (have q := n3p (by omega) (by assumption) (by assumption); omega) | (have q := n3p (by omega) (by omega) (by omega); omega) | trace_state
theorem law3_pc (D0 : D) (h0 : Sh G 9 22 D0) : PC Tryd.prog 3 [D0] (dB true) [] := by
  obtain ⟨l, rfl, wl⟩ := sh22 (n := 7) h0
  exact law3 l wl

end Go.Proofs.YtpnfkjbnhholfaaDoor
