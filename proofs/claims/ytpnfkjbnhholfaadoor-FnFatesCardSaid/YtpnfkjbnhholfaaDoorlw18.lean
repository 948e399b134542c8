/- Contracts of the functions that the laws run. -/
import Derived.Test.YtpnfkjbnhholfaaDoorEngB
import Derived.Test.YtpnfkjbnhholfaaDoorEngB
import Derived.Test.YtpnfkjbnhholfaaDoorEngB
import Derived.Test.YtpnfkjbnhholfaaDoorlw18m
import Derived.Test.YtpnfkjbnhholfaaDoorEngB
namespace Go.Proofs.YtpnfkjbnhholfaaDoor
open Go Go.Eng
set_option linter.unusedSimpArgs false
set_option linter.unusedVariables false
set_option maxRecDepth 10000
set_option maxHeartbeats 1000000
/-- loop.example/g03007/impl.FatesOf -/
noncomputable def c23f : Con := mkCon 23 false (α := (List TFind) × (List TClaim) × Int) (fun x => (fun (f : List TFind) (l : List TClaim) (now : Int) => [encLTFind f, encLTClaim l, dI now]) x.1 x.2.1 x.2.2) (fun _ => []) (fun x => (fun (f : List TFind) (l : List TClaim) (now : Int) => f.length ≤ 1073741823 ∧ l.length ≤ 1073741823) x.1 x.2.1 x.2.2) (fun x => (fun (f : List TFind) (l : List TClaim) (now : Int) => (encLI (mFates f l now) : D)) x.1 x.2.1 x.2.2) (fun x => (fun (f : List TFind) (l : List TClaim) (now : Int) => []) x.1 x.2.1 x.2.2)
@[simp] theorem c23f_f : c23f.f = 23 := rfl
@[simp] theorem c23f_own : c23f.own = false := rfl
theorem c23f_inj : ∀ u_ v_ : (List TFind) × (List TClaim) × Int, ((fun x => (fun (f : List TFind) (l : List TClaim) (now : Int) => [encLTFind f, encLTClaim l, dI now]) x.1 x.2.1 x.2.2) u_).map nz = ((fun x => (fun (f : List TFind) (l : List TClaim) (now : Int) => [encLTFind f, encLTClaim l, dI now]) x.1 x.2.1 x.2.2) v_).map nz → u_ = v_ := by
  intro u_ v_ h
  obtain ⟨f, l, now⟩ := u_
  obtain ⟨f', l', now'⟩ := v_
  simp [nz_lit, nz1_lit, nz_agg, nz_sl, nz1_sl, encLTClaim, encLTFind] at h
  first | (simp [h]; done) | (obtain ⟨⟩ := h; simp_all; done) | simp_all
@[simp] theorem c23f_fn (f : List TFind) (l : List TClaim) (now : Int) : c23f.fn [.sl false 8 yTFind (ML encTFind f), .sl false 5 yTClaim (ML encTClaim l), .lit (.int .i64 now)] [] = some ((fun (f : List TFind) (l : List TClaim) (now : Int) => f.length ≤ 1073741823 ∧ l.length ≤ 1073741823) f l now, (fun (f : List TFind) (l : List TClaim) (now : Int) => (encLI (mFates f l now) : D)) f l now, (fun (f : List TFind) (l : List TClaim) (now : Int) => []) f l now) :=
  mkCon_fn (fun x y h _ => c23f_inj x y h) ((f, l, now) : (List TFind) × (List TClaim) × Int) (by simp [nz, nz1, ML_nil, encLTClaim, encLTFind]) rfl
@[simp] theorem c23f_fn1 (s_f : Nat) (z_f : D) (l : List TClaim) (now : Int) : c23f.fn [.sl false s_f z_f [], .sl false 5 yTClaim (ML encTClaim l), .lit (.int .i64 now)] [] = some ((fun (f : List TFind) (l : List TClaim) (now : Int) => f.length ≤ 1073741823 ∧ l.length ≤ 1073741823) [] l now, (fun (f : List TFind) (l : List TClaim) (now : Int) => (encLI (mFates f l now) : D)) [] l now, (fun (f : List TFind) (l : List TClaim) (now : Int) => []) [] l now) :=
  mkCon_fn (fun x y h _ => c23f_inj x y h) (([], l, now) : (List TFind) × (List TClaim) × Int) (by simp [nz, nz1, ML_nil, encLTClaim, encLTFind]) rfl
@[simp] theorem c23f_fn2 (f : List TFind) (s_l : Nat) (z_l : D) (now : Int) : c23f.fn [.sl false 8 yTFind (ML encTFind f), .sl false s_l z_l [], .lit (.int .i64 now)] [] = some ((fun (f : List TFind) (l : List TClaim) (now : Int) => f.length ≤ 1073741823 ∧ l.length ≤ 1073741823) f [] now, (fun (f : List TFind) (l : List TClaim) (now : Int) => (encLI (mFates f l now) : D)) f [] now, (fun (f : List TFind) (l : List TClaim) (now : Int) => []) f [] now) :=
  mkCon_fn (fun x y h _ => c23f_inj x y h) ((f, [], now) : (List TFind) × (List TClaim) × Int) (by simp [nz, nz1, ML_nil, encLTClaim, encLTFind]) rfl
@[simp] theorem c23f_fn3 (s_f : Nat) (z_f : D) (s_l : Nat) (z_l : D) (now : Int) : c23f.fn [.sl false s_f z_f [], .sl false s_l z_l [], .lit (.int .i64 now)] [] = some ((fun (f : List TFind) (l : List TClaim) (now : Int) => f.length ≤ 1073741823 ∧ l.length ≤ 1073741823) [] [] now, (fun (f : List TFind) (l : List TClaim) (now : Int) => (encLI (mFates f l now) : D)) [] [] now, (fun (f : List TFind) (l : List TClaim) (now : Int) => []) [] [] now) :=
  mkCon_fn (fun x y h _ => c23f_inj x y h) (([], [], now) : (List TFind) × (List TClaim) × Int) (by simp [nz, nz1, ML_nil, encLTClaim, encLTFind]) rfl
theorem c23f_pc (f : List TFind) (l : List TClaim) (now : Int) (hpre : f.length ≤ 1073741823 ∧ l.length ≤ 1073741823) : PCo Tryd.prog 23 [encLTFind f, encLTClaim l, dI now] (Tab.of []) (encLI (mFates f l now)) (Tab.of []) := by
  exact pco_frz1 (by simp) (c23_pc f l now hpre)
theorem c23f_ok : c23f.ok Tryd.prog := mkCon_ok fun ⟨f, l, now⟩ hpre => c23f_pc f l now hpre
/-- loop.example/g03007/laws.FnFates -/
theorem law4 (l : List Int) (wl : wfLU l) : PCo Tryd.prog 4 [encLU l] (Tab.of []) (dB true) (Tab.of []) := by
  refine pco_of_run [] (E := ⟨[c5, c9, c17, c18, c19, c20, c21, c22, c23f, c24], [], []⟩) (m := false) (base := 0) (Env.ok_cons c5_ok (Env.ok_cons c9_ok (Env.ok_cons c17_ok (Env.ok_cons c18_ok (Env.ok_cons c19_ok (Env.ok_cons c20_ok (Env.ok_cons c21_ok (Env.ok_cons c22_ok (Env.ok_cons c23f_ok (Env.ok_cons c24_ok Env.ok_nil)))))))))) G_ok mix 400 6 Tryd.func4 (by kernel_rfl) rfl (by kernel_rfl) (by kernel_rfl) rfl ?_
  have hl : l.length ≤ maxLen := wl.1
  by_cases hbig : 1048576 < l.length
  · simp [Tryd.f4, hbig]
  · have hp : l.length ≤ 2097152 := by omega
    have b1 := v17_ok l hp
    have b2 := v22_ok l hp
    have h1 := c17_fn l
    have h2 := c22_fn l
    generalize v17 l = X at *
    generalize v22 l = Y at *
    obtain ⟨f, L, now⟩ := X
    obtain ⟨A, B, t⟩ := Y
    simp only at b1 b2 h1 h2
    obtain ⟨vb, v1, v2, v3, v4⟩ := fate_facts L now f
    have vn := fate_name vb
    have hin := fates_in A B t
    have hfl := mFates_len A B t
    have hsum := six_sum hin
    generalize hF : mFates A B t = F at *
    generalize hv : mFateOf L now f = v at *
    have hmk : decide (v ≤ 1) = decide (v = 0 ∨ v = 1) := by
      rw [Bool.eq_iff_iff]; simp; omega
    simp (config := {maxSteps := 3000000}) [Tryd.f4, hbig, h1, h2, -c17_fn, -c22_fn, hv, vn]
    have q1 : (v == 1) = (mFirst L f.Thing.Id != 0) := by rw [Bool.eq_iff_iff]; simp; exact v1
    have q2 : decide (v ≤ 1) = (v == 0 || v == 1) := by rw [Bool.eq_iff_iff]; simp; omega
    have hc := fun k => List.countP_le_length (p := isN k) (l := F)
    have hc0 := hc 0
    have hc1 := hc 1
    have hc2 := hc 2
    have hc3 := hc 3
    have hc4 := hc 4
    have hc5 := hc 5
    repeat' (with_reducible first | apply And.intro | intro _)
    all_goals try (first | omega | assumption | (simp; done) | (simp only [below_eq, Int.reduceLT]; omega))
    all_goals try (first | exact q1 | exact q2 | exact (v2 (by assumption)).1 | exact v3 (by assumption) | exact v4 (by assumption))
    refine loop_inv (fun p : Nat => p ≤ L.length) (fun p => [(0, encLU l), (3, .ptr (0, 1) 0), (4, encLTClaim L), (6, dI v), (8, dI p)]) (fun _ => [((0, 1), .box (encTFind f))]) 2 (fun p => L.length - p) 0 400 (by simp) (by simp) (by simp) ?_
    intro p hpL
    have q := fun h h2 => (v2 h).2 _ (getD_mem (l := L) (p := p) (d := default) h2)
    simp (config := {maxSteps := 3000000}) [hbig, h2, -c22_fn, hF]
    repeat' (with_reducible first | apply And.intro | intro _)
    all_goals try (first | omega | assumption | (simp; done) | (simp only [below_eq, Int.reduceLT]; omega))
    all_goals first
      | exact Again.mk (p + 1) (by omega) (by simp) (by first | omega | (simp; omega))
      | exact absurd (by assumption) (q (by assumption) (by omega) (by assumption))
      | (refine loop_unroll 400 ?_
         simp (config := {maxSteps := 3000000})
         repeat' (with_reducible first | apply And.intro | intro _)
         all_goals try (first | omega | assumption | (simp; done) | (simp only [below_eq, Int.reduceLT]; omega))
         all_goals first | omega | trace_state)
      | trace_state
theorem law4_pc (D0 : D) (h0 : Sh G 9 22 D0) : PC Tryd.prog 4 [D0] (dB true) [] := by
  obtain ⟨l, rfl, wl⟩ := sh22 (n := 7) h0
  exact law4 l wl

end Go.Proofs.YtpnfkjbnhholfaaDoor
