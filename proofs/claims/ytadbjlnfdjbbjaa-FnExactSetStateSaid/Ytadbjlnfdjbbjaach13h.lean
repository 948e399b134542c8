/- Contracts of the functions that the laws run. -/
import Derived.Test.Ytadbjlnfdjbbjaach13g
import Derived.Test.YtadbjlnfdjbbjaaEngB
namespace Go.Proofs.Ytadbjlnfdjbbjaa
open Go Go.Eng
set_option linter.unusedSimpArgs false
set_option linter.unusedVariables false
set_option maxRecDepth 10000
set_option maxHeartbeats 1000000
abbrev mk_TClaim : Int → TClaim := fun n => ⟨n, n + 1, n + 2, n + 3, n + 4⟩
/-- loop.example/g03007/laws.markClaimS -/
noncomputable def c33 : Con := mkCon 33 true (α := (List TClaim) × Int) (fun x => (fun (l : List TClaim) (k : Int) => ([.own (0, 0) 5 0 l.length, dI k] : List D)) x.1 x.2) (fun x => (fun (l : List TClaim) (k : Int) => ([((0, 0), .arr false 5 yTClaim (ML encTClaim l))] : List (Nm × OO))) x.1 x.2) (fun x => (fun (l : List TClaim) (k : Int) => l.length ≤ 1099511627776 ∧ 0 ≤ k ∧ k ≤ 1152921504606846976) x.1 x.2) (fun x => (fun (l : List TClaim) (k : Int) => (dI (k + 5 * l.length) : D)) x.1 x.2) (fun x => (fun (l : List TClaim) (k : Int) => ([((0, 0), .arr false 5 yTClaim (ML encTClaim (mkL mk_TClaim 5 k l.length)))] : List (Nm × OO))) x.1 x.2)
@[simp] theorem c33_f : c33.f = 33 := rfl
@[simp] theorem c33_own : c33.own = true := rfl
theorem c33_inj : ∀ u_ v_ : (List TClaim) × Int, ((fun x => (fun (l : List TClaim) (k : Int) => ([.own (0, 0) 5 0 l.length, dI k] : List D)) x.1 x.2) u_).map nz = ((fun x => (fun (l : List TClaim) (k : Int) => ([.own (0, 0) 5 0 l.length, dI k] : List D)) x.1 x.2) v_).map nz → (fun x => (fun (l : List TClaim) (k : Int) => ([((0, 0), .arr false 5 yTClaim (ML encTClaim l))] : List (Nm × OO))) x.1 x.2) u_ = (fun x => (fun (l : List TClaim) (k : Int) => ([((0, 0), .arr false 5 yTClaim (ML encTClaim l))] : List (Nm × OO))) x.1 x.2) v_ → u_ = v_ := by
  intro u_ v_ h h2_
  obtain ⟨l, k⟩ := u_
  obtain ⟨l', k'⟩ := v_
  simp [nz_lit, nz1_lit, nz_agg, nz_sl, nz1_sl, nz_sx, nz_el, nz1_el, nz_own, nz1_own, nz_ptr, nz_fn, nz_iface] at h h2_
  first | (simp [h, h2_]; done) | (obtain ⟨h3_, h4_⟩ := List.append_inj h2_ h.1; simp_all; done) | simp_all | grind
@[simp] theorem c33_fn (l : List TClaim) (k : Int) : c33.fn ([.own (0, 0) 5 0 l.length, dI k]) ([((0, 0), .arr false 5 yTClaim (ML encTClaim l))]) = some (l.length ≤ 1099511627776 ∧ 0 ≤ k ∧ k ≤ 1152921504606846976, dI (k + 5 * l.length), [((0, 0), .arr false 5 yTClaim (ML encTClaim (mkL mk_TClaim 5 k l.length)))]) :=
  mkCon_fn c33_inj ((l, k) : (List TClaim) × Int) rfl rfl
theorem c33_pc (l : List TClaim) (k : Int) (hpre : l.length ≤ 1099511627776 ∧ 0 ≤ k ∧ k ≤ 1152921504606846976) : PCo Try.prog 33 ([.own (0, 0) 5 0 l.length, dI k]) (Tab.of ([((0, 0), .arr false 5 yTClaim (ML encTClaim l))])) (dI (k + 5 * l.length)) (Tab.of ([((0, 0), .arr false 5 yTClaim (ML encTClaim (mkL mk_TClaim 5 k l.length)))])) := by
  refine pco_of_run [] (E := ⟨[], []⟩) (m := false) (base := 0) Env.ok_nil G_ok mix 300 6 Try.func33 (by kernel_rfl) rfl (by kernel_rfl) (by kernel_rfl) rfl ?_
  simp [Try.f33]
  obtain ⟨pre1, pre2, pre3⟩ := hpre
  refine loop_inv (fun p : Nat => p ≤ l.length) (fun p => [(0, .own (0, 0) 5 0 l.length), (1, dI (k + 5 * p)), (5, dI p)]) (fun p => [((0, 0), .arr false 5 yTClaim (ML encTClaim (mkL mk_TClaim 5 k p ++ l.drop p)))]) 2 (fun p => l.length - p) 0 100 (by simp) (by simp) (by simp) ?_
  intro p hp
  simp
  have hs : ∀ x, x = mk_TClaim (k + 5 * (p : Int)) → p < l.length → mkL mk_TClaim 5 k p ++ (l.drop p).set 0 x = mkL mk_TClaim 5 k (p + 1) ++ l.drop (p + 1) := fun x hx hlt => mark_step0 hlt hx
  refine ⟨fun hlt => ?_, fun hge => ?_⟩
  · repeat' (first | omega | refine And.intro ?_ ?_ | intro _)
    all_goals refine Again.mk (p + 1) (by omega) ?_ (by first | omega | (simp; omega))
    all_goals (rw [hs _ (by simp [mark_get0 hlt, mark_get hlt]; first | done | omega) hlt]; simp; omega)
  have : p = l.length := by omega
  subst this
  simp
  trace_state
theorem c33_ok : c33.ok Try.prog := mkCon_ok fun ⟨l, k⟩ hpre => c33_pc l k hpre
/-- loop.example/g03007/laws.heldClaimS -/
noncomputable def c34 : Con := mkCon 34 false (α := (List TClaim) × Int) (fun x => (fun (l : List TClaim) (k : Int) => [encLTClaim l, dI k]) x.1 x.2) (fun _ => []) (fun x => (fun (l : List TClaim) (k : Int) => l.length ≤ 1099511627776 ∧ 0 ≤ k ∧ k ≤ 1152921504606846976) x.1 x.2) (fun x => (fun (l : List TClaim) (k : Int) => (dI (if l = mkL mk_TClaim 5 k l.length then k + 5 * l.length else -1) : D)) x.1 x.2) (fun x => (fun (l : List TClaim) (k : Int) => []) x.1 x.2)
@[simp] theorem c34_f : c34.f = 34 := rfl
@[simp] theorem c34_own : c34.own = false := rfl
theorem c34_inj : ∀ u_ v_ : (List TClaim) × Int, ((fun x => (fun (l : List TClaim) (k : Int) => [encLTClaim l, dI k]) x.1 x.2) u_).map nz = ((fun x => (fun (l : List TClaim) (k : Int) => [encLTClaim l, dI k]) x.1 x.2) v_).map nz → u_ = v_ := by
  intro u_ v_ h
  obtain ⟨l, k⟩ := u_
  obtain ⟨l', k'⟩ := v_
  simp [nz_lit, nz1_lit, nz_agg, nz_sl, nz1_sl, encLTClaim] at h
  first | (simp [h]; done) | (obtain ⟨⟩ := h; simp_all; done) | simp_all
@[simp] theorem c34_fn (l : List TClaim) (k : Int) : c34.fn [.sl false 5 yTClaim (ML encTClaim l), .lit (.int .i64 k)] [] = some ((fun (l : List TClaim) (k : Int) => l.length ≤ 1099511627776 ∧ 0 ≤ k ∧ k ≤ 1152921504606846976) l k, (fun (l : List TClaim) (k : Int) => (dI (if l = mkL mk_TClaim 5 k l.length then k + 5 * l.length else -1) : D)) l k, (fun (l : List TClaim) (k : Int) => []) l k) :=
  mkCon_fn (fun x y h _ => c34_inj x y h) ((l, k) : (List TClaim) × Int) (by simp [nz, nz1, ML_nil, encLTClaim]) rfl
@[simp] theorem c34_fn1 (s_l : Nat) (z_l : D) (k : Int) : c34.fn [.sl false s_l z_l [], .lit (.int .i64 k)] [] = some ((fun (l : List TClaim) (k : Int) => l.length ≤ 1099511627776 ∧ 0 ≤ k ∧ k ≤ 1152921504606846976) [] k, (fun (l : List TClaim) (k : Int) => (dI (if l = mkL mk_TClaim 5 k l.length then k + 5 * l.length else -1) : D)) [] k, (fun (l : List TClaim) (k : Int) => []) [] k) :=
  mkCon_fn (fun x y h _ => c34_inj x y h) (([], k) : (List TClaim) × Int) (by simp [nz, nz1, ML_nil, encLTClaim]) rfl
theorem c34_pc (l : List TClaim) (k : Int) (hpre : l.length ≤ 1099511627776 ∧ 0 ≤ k ∧ k ≤ 1152921504606846976) : PCo Try.prog 34 [encLTClaim l, dI k] (Tab.of []) (dI (if l = mkL mk_TClaim 5 k l.length then k + 5 * l.length else -1)) (Tab.of []) := by
  refine pco_of_run [] (E := ⟨[], []⟩) (m := false) (base := 0) Env.ok_nil G_ok mix 300 6 Try.func34 (by kernel_rfl) rfl (by kernel_rfl) (by kernel_rfl) rfl ?_
  simp [Try.f34]
  obtain ⟨pre1, pre2, pre3⟩ := hpre
  refine loop_inv (fun p : Nat => p ≤ l.length ∧ l.take p = (mkL mk_TClaim 5 k l.length).take p) (fun p => [(0, encLTClaim l), (1, dI (k + 5 * p)), (5, dI p)]) (fun _ => []) 1 (fun p => l.length - p) 0 100 (by simp) (by simp) (by simp) ?_
  intro p ⟨hp, hi⟩
  simp
  refine ⟨fun hlt => ?_, fun hge => ?_⟩
  · have hx := mkL_get (f := mk_TClaim) (m := 5) (k := k) (d := default) hlt
    by_cases he : l[p]?.getD default = mk_TClaim (k + 5 * (p : Int))
    · generalize hA : Again _ _ _ _ _ _ _ = A
      have hAA : A := by rw [← hA]; exact Again.mk (p + 1) ⟨by omega, take_eq_step hi (by omega) (by simp; omega) (by rw [hx]; exact he)⟩ (by simp; omega) (by first | omega | (simp; omega))
      clear hA
      simp only [he, mk_TClaim]
      repeat' (first | exact hAA | omega | refine And.intro ?_ ?_ | intro _)
      all_goals first | (exfalso; exact absurd trivial (by assumption)) | (exfalso; omega)
    · have hne : ¬ l = mkL mk_TClaim 5 k l.length := fun e => he (by rw [← hx]; exact congrArg (fun z => z[p]?.getD default) e)
      generalize Again _ _ _ _ _ _ _ = A
      repeat' (first | omega | rfl | refine And.intro ?_ ?_ | intro _)
      all_goals first | (exfalso; apply hne; assumption) | (exfalso; apply he; obtain ⟨x, hq⟩ : ∃ x, l[p]?.getD default = x := ⟨_, rfl⟩; simp only [hq] at *; obtain ⟨x1, x2, x3, x4, x5⟩ := x; simp [mk_TClaim] at *; omega)
  · have h4 := take_eq_full hi hge (by simp; omega)
    rw [if_pos h4]; omega
theorem c34_ok : c34.ok Try.prog := mkCon_ok fun ⟨l, k⟩ hpre => c34_pc l k hpre
def thIs (k : Int) (x : TClaim) : Bool := decide (kTh x = k)
theorem bk_get (l : List TClaim) (k : Int) : getG (bkC l) k = l.filter (thIs k) := by rw [bkC, getG_grp]; rfl
def mClaimsFor (l : List TClaim) (k : Int) : List Int := pick (thIs k) nClaim l
theorem mClaimsFor_len (l : List TClaim) (k : Int) : (mClaimsFor l k).length ≤ l.length := pick_len l
/-- loop.example/g03007/impl.ClaimsFor -/
noncomputable def c38 : Con := mkCon 38 false (α := (List TClaim) × Int) (fun x => (fun (l : List TClaim) (k : Int) => [encLTClaim l, dI k]) x.1 x.2) (fun _ => []) (fun x => (fun (l : List TClaim) (k : Int) => l.length ≤ 1073741823) x.1 x.2) (fun x => (fun (l : List TClaim) (k : Int) => (.own (0, 1) 1 0 (mClaimsFor l k).length : D)) x.1 x.2) (fun x => (fun (l : List TClaim) (k : Int) => [((0, 1), .arr false 1 (dI 0) (ML dI (mClaimsFor l k)))]) x.1 x.2)
@[simp] theorem c38_f : c38.f = 38 := rfl
@[simp] theorem c38_own : c38.own = false := rfl
theorem c38_inj : ∀ u_ v_ : (List TClaim) × Int, ((fun x => (fun (l : List TClaim) (k : Int) => [encLTClaim l, dI k]) x.1 x.2) u_).map nz = ((fun x => (fun (l : List TClaim) (k : Int) => [encLTClaim l, dI k]) x.1 x.2) v_).map nz → u_ = v_ := by
  intro u_ v_ h
  obtain ⟨l, k⟩ := u_
  obtain ⟨l', k'⟩ := v_
  simp [nz_lit, nz1_lit, nz_agg, nz_sl, nz1_sl, encLTClaim] at h
  first | (simp [h]; done) | (obtain ⟨⟩ := h; simp_all; done) | simp_all
@[simp] theorem c38_fn (l : List TClaim) (k : Int) : c38.fn [.sl false 5 yTClaim (ML encTClaim l), .lit (.int .i64 k)] [] = some ((fun (l : List TClaim) (k : Int) => l.length ≤ 1073741823) l k, (fun (l : List TClaim) (k : Int) => (.own (0, 1) 1 0 (mClaimsFor l k).length : D)) l k, (fun (l : List TClaim) (k : Int) => [((0, 1), .arr false 1 (dI 0) (ML dI (mClaimsFor l k)))]) l k) :=
  mkCon_fn (fun x y h _ => c38_inj x y h) ((l, k) : (List TClaim) × Int) (by simp [nz, nz1, ML_nil, encLTClaim]) rfl
@[simp] theorem c38_fn1 (s_l : Nat) (z_l : D) (k : Int) : c38.fn [.sl false s_l z_l [], .lit (.int .i64 k)] [] = some ((fun (l : List TClaim) (k : Int) => l.length ≤ 1073741823) [] k, (fun (l : List TClaim) (k : Int) => (.own (0, 1) 1 0 (mClaimsFor l k).length : D)) [] k, (fun (l : List TClaim) (k : Int) => [((0, 1), .arr false 1 (dI 0) (ML dI (mClaimsFor l k)))]) [] k) :=
  mkCon_fn (fun x y h _ => c38_inj x y h) (([], k) : (List TClaim) × Int) (by simp [nz, nz1, ML_nil, encLTClaim]) rfl
theorem c38_pc (l : List TClaim) (k : Int) (hpre : l.length ≤ 1073741823) : PCo Try.prog 38 [encLTClaim l, dI k] (Tab.of []) (.own (0, 1) 1 0 (mClaimsFor l k).length) (Tab.of [((0, 1), .arr false 1 (dI 0) (ML dI (mClaimsFor l k)))]) := by
  refine pco_of_run [] (E := ⟨[c99], []⟩) (m := false) (base := 0) (Env.ok_cons c99_ok Env.ok_nil) G_ok mix 300 6 Try.func38 (by kernel_rfl) rfl (by kernel_rfl) (by kernel_rfl) rfl ?_
  simp [Try.f38]
  have hb := getC_len l k
  rw [show mClaimsFor l k = (getG (bkC l) k).map nClaim by rw [bk_get]; rfl]
  generalize getG (bkC l) k = r at hb ⊢
  refine ⟨hpre, ?_⟩
  refine loop_inv (fun p : Nat => p ≤ r.length) (fun p => [(5, .own (0, 1) 1 0 ((r.take p).map nClaim).length), (15, encLTClaim r), (16, dI r.length), (17, dI p)]) (fun p => [((0, 1), .arr false 1 (dI 0) (ML dI ((r.take p).map nClaim)))]) 2 (fun p => r.length - p) 0 400 (by simp) (by simp) (by simp) ?_
  intro p hp
  simp
  refine ⟨fun hlt => ?_, fun hge => ?_⟩
  · have hs := take_at (d := default) hlt
    have hm : min p r.length = p := by omega
    have hm2 : min (p + 1) r.length = p + 1 := by omega
    have hs2 : List.take p (List.map nClaim r) ++ [(r[p]?.getD default).Id] = List.take (p + 1) (List.map nClaim r) := by rw [← List.map_take, ← List.map_take, hs]; simp
    repeat' (first | omega | refine And.intro ?_ ?_ | intro _)
    refine Again.mk (p + 1) (by omega) (by simp [hs2, hm, hm2]) (by first | omega | (simp; omega))
  · have : p = r.length := by omega
    subst this; simp [← List.map_take]
theorem c38_ok : c38.ok Try.prog := mkCon_ok fun ⟨l, k⟩ hpre => c38_pc l k hpre
/-- loop.example/g03007/spec.ClaimsFor -/
noncomputable def c37 : Con := mkCon 37 false (α := (List TClaim) × Int) (fun x => (fun (l : List TClaim) (k : Int) => [encLTClaim l, dI k]) x.1 x.2) (fun _ => []) (fun x => (fun (l : List TClaim) (k : Int) => l.length ≤ 1073741823) x.1 x.2) (fun x => (fun (l : List TClaim) (k : Int) => (.own (0, 1) 1 0 (mClaimsFor l k).length : D)) x.1 x.2) (fun x => (fun (l : List TClaim) (k : Int) => [((0, 1), .arr false 1 (dI 0) (ML dI (mClaimsFor l k)))]) x.1 x.2)
@[simp] theorem c37_f : c37.f = 37 := rfl
@[simp] theorem c37_own : c37.own = false := rfl
theorem c37_inj : ∀ u_ v_ : (List TClaim) × Int, ((fun x => (fun (l : List TClaim) (k : Int) => [encLTClaim l, dI k]) x.1 x.2) u_).map nz = ((fun x => (fun (l : List TClaim) (k : Int) => [encLTClaim l, dI k]) x.1 x.2) v_).map nz → u_ = v_ := by
  intro u_ v_ h
  obtain ⟨l, k⟩ := u_
  obtain ⟨l', k'⟩ := v_
  simp [nz_lit, nz1_lit, nz_agg, nz_sl, nz1_sl, encLTClaim] at h
  first | (simp [h]; done) | (obtain ⟨⟩ := h; simp_all; done) | simp_all
@[simp] theorem c37_fn (l : List TClaim) (k : Int) : c37.fn [.sl false 5 yTClaim (ML encTClaim l), .lit (.int .i64 k)] [] = some ((fun (l : List TClaim) (k : Int) => l.length ≤ 1073741823) l k, (fun (l : List TClaim) (k : Int) => (.own (0, 1) 1 0 (mClaimsFor l k).length : D)) l k, (fun (l : List TClaim) (k : Int) => [((0, 1), .arr false 1 (dI 0) (ML dI (mClaimsFor l k)))]) l k) :=
  mkCon_fn (fun x y h _ => c37_inj x y h) ((l, k) : (List TClaim) × Int) (by simp [nz, nz1, ML_nil, encLTClaim]) rfl
@[simp] theorem c37_fn1 (s_l : Nat) (z_l : D) (k : Int) : c37.fn [.sl false s_l z_l [], .lit (.int .i64 k)] [] = some ((fun (l : List TClaim) (k : Int) => l.length ≤ 1073741823) [] k, (fun (l : List TClaim) (k : Int) => (.own (0, 1) 1 0 (mClaimsFor l k).length : D)) [] k, (fun (l : List TClaim) (k : Int) => [((0, 1), .arr false 1 (dI 0) (ML dI (mClaimsFor l k)))]) [] k) :=
  mkCon_fn (fun x y h _ => c37_inj x y h) (([], k) : (List TClaim) × Int) (by simp [nz, nz1, ML_nil, encLTClaim]) rfl
theorem c37_pc (l : List TClaim) (k : Int) (hpre : l.length ≤ 1073741823) : PCo Try.prog 37 [encLTClaim l, dI k] (Tab.of []) (.own (0, 1) 1 0 (mClaimsFor l k).length) (Tab.of [((0, 1), .arr false 1 (dI 0) (ML dI (mClaimsFor l k)))]) := by
  refine pco_of_run [] (E := ⟨[], []⟩) (m := false) (base := 0) Env.ok_nil G_ok mix 300 6 Try.func37 (by kernel_rfl) rfl (by kernel_rfl) (by kernel_rfl) rfl ?_
  simp [Try.f37]
  refine loop_inv (fun p : Nat => p ≤ l.length) (fun p => [(0, encLTClaim l), (1, dI k), (5, .own (0, 1) 1 0 (mClaimsFor (l.take p) k).length), (6, dI p)]) (fun p => [((0, 1), .arr false 1 (dI 0) (ML dI (mClaimsFor (l.take p) k)))]) 2 (fun p => l.length - p) 0 400 (by simp) (by simp [mClaimsFor]) (by simp [mClaimsFor]) ?_
  intro p hp
  simp
  refine ⟨fun hlt => ?_, fun hge => ?_⟩
  · have hs := pick_at (want := thIs k) (f := nClaim) (d := default) hlt
    have hb : (mClaimsFor (l.take p) k).length ≤ p := pick_take_len l p
    repeat' (first | omega | refine And.intro ?_ ?_ | intro _)
    all_goals (rename_i hw; refine Again.mk (p + 1) (by omega) (by simp [mClaimsFor, hs, thIs, hw]) (by first | omega | (simp; omega)))
  · rw [List.take_of_length_le hge]; simp
theorem c37_ok : c37.ok Try.prog := mkCon_ok fun ⟨l, k⟩ hpre => c37_pc l k hpre
/-- loop.example/g03007/laws.FnExactClaimsFor -/
theorem law6 (l : List TClaim) (wl : wfLTClaim l) (k : Int) (wk : inR .i64 k) : PCo Try.prog 6 [encLTClaim l, dI k] (Tab.of []) (dB true) (Tab.of []) := by
  refine pco_of_run [] (E := ⟨[c25, c27, c29, c33, c37, c38, c39, c40, c41], []⟩) (m := false) (base := 0) (Env.ok_cons c25_ok (Env.ok_cons c27_ok (Env.ok_cons c29_ok (Env.ok_cons c33_ok (Env.ok_cons c37_ok (Env.ok_cons c38_ok (Env.ok_cons c39_ok (Env.ok_cons c40_ok (Env.ok_cons c41_ok Env.ok_nil))))))))) G_ok mix 400 6 Try.func6 (by kernel_rfl) rfl (by kernel_rfl) (by kernel_rfl) rfl ?_
  simp (config := {maxSteps := 3000000}) [Try.f6]
  have h1 : l.length ≤ maxLen := wl.1
  have hb := mClaimsFor_len l k
  refine ⟨h1, fun h => ?_⟩
  split at h
  · omega
  · repeat' (first | omega | refine And.intro ?_ ?_ | intro _)
theorem law6_pc (D0 : D) (h0 : Sh G 9 22 D0) (D1 : D) (h1 : Sh G 9 3 D1) : PC Try.prog 6 [D0, D1] (dB true) [] := by
  obtain ⟨l, rfl, wl⟩ := sh22 (n := 6) h0
  obtain ⟨k, rfl, wk⟩ := sh3 (n := 8) h1
  exact law6 l wl k wk
/-- loop.example/g03007/laws.FnExactAreClaims -/
theorem law3 (l : List TClaim) (wl : wfLTClaim l) : PCo Try.prog 3 [encLTClaim l] (Tab.of []) (dB true) (Tab.of []) := by
  refine pco_of_run [] (E := ⟨[c25, c26, c27, c28, c29], []⟩) (m := false) (base := 0) (Env.ok_cons c25_ok (Env.ok_cons c26_ok (Env.ok_cons c27_ok (Env.ok_cons c28_ok (Env.ok_cons c29_ok Env.ok_nil))))) G_ok mix 400 6 Try.func3 (by kernel_rfl) rfl (by kernel_rfl) (by kernel_rfl) rfl ?_
  simp (config := {maxSteps := 3000000}) [Try.f3]
  have h_l : l.length ≤ maxLen := wl.1
  repeat' (first | omega | assumption | refine And.intro ?_ ?_ | intro _)
  all_goals first | omega | grind | (split at * <;> omega)
theorem law3_pc (D0 : D) (h0 : Sh G 9 22 D0) : PC Try.prog 3 [D0] (dB true) [] := by
  obtain ⟨l, rfl, wl⟩ := sh22 (n := 6) h0
  exact law3 l wl
def stepP (o : Option TClaim) (x : TClaim) : Option TClaim := if stateIs 1 x && (match o with | none => true | some y => decide (x.At < y.At)) then some x else o
theorem stepP_none_yes {x : TClaim} (h1 : x.State = 1) : stepP none x = some x := by simp [stepP, stateIs, h1]
theorem stepP_none_no {x : TClaim} (h1 : ¬ x.State = 1) : stepP none x = none := by simp [stepP, stateIs, h1]
theorem stepP_yes {x y : TClaim} (h1 : x.State = 1) (h2 : x.At < y.At) : stepP (some y) x = some x := by simp [stepP, stateIs, h1, h2]
theorem stepP_no {x y : TClaim} (h : x.State = 1 → y.At ≤ x.At) : stepP (some y) x = some y := by
  by_cases h1 : x.State = 1
  · have := h h1
    simp [stepP, stateIs, h1]; omega
  · simp [stepP, stateIs, h1]
def firstC (l : List TClaim) (k : Int) : Option TClaim := (l.filter (thIs k)).foldl stepP none
def mFirst (l : List TClaim) (k : Int) : Int := match firstC l k with | none => 0 | some x => x.Id
def ptrO : Option TClaim → D
  | none => .lit (.pointer none)
  | some x => .el (encTClaim x)
@[simp] theorem ptrO_none : ptrO none = .lit (.pointer none) := rfl
@[simp] theorem ptrO_some (x : TClaim) : ptrO (some x) = .el (encTClaim x) := rfl
/-- loop.example/g03007/impl.FirstProved -/
noncomputable def c43 : Con := mkCon 43 false (α := (List TClaim) × Int) (fun x => (fun (l : List TClaim) (k : Int) => [encLTClaim l, dI k]) x.1 x.2) (fun _ => []) (fun x => (fun (l : List TClaim) (k : Int) => l.length ≤ 1073741823) x.1 x.2) (fun x => (fun (l : List TClaim) (k : Int) => (dI (mFirst l k) : D)) x.1 x.2) (fun x => (fun (l : List TClaim) (k : Int) => []) x.1 x.2)
@[simp] theorem c43_f : c43.f = 43 := rfl
@[simp] theorem c43_own : c43.own = false := rfl
theorem c43_inj : ∀ u_ v_ : (List TClaim) × Int, ((fun x => (fun (l : List TClaim) (k : Int) => [encLTClaim l, dI k]) x.1 x.2) u_).map nz = ((fun x => (fun (l : List TClaim) (k : Int) => [encLTClaim l, dI k]) x.1 x.2) v_).map nz → u_ = v_ := by
  intro u_ v_ h
  obtain ⟨l, k⟩ := u_
  obtain ⟨l', k'⟩ := v_
  simp [nz_lit, nz1_lit, nz_agg, nz_sl, nz1_sl, encLTClaim] at h
  first | (simp [h]; done) | (obtain ⟨⟩ := h; simp_all; done) | simp_all
@[simp] theorem c43_fn (l : List TClaim) (k : Int) : c43.fn [.sl false 5 yTClaim (ML encTClaim l), .lit (.int .i64 k)] [] = some ((fun (l : List TClaim) (k : Int) => l.length ≤ 1073741823) l k, (fun (l : List TClaim) (k : Int) => (dI (mFirst l k) : D)) l k, (fun (l : List TClaim) (k : Int) => []) l k) :=
  mkCon_fn (fun x y h _ => c43_inj x y h) ((l, k) : (List TClaim) × Int) (by simp [nz, nz1, ML_nil, encLTClaim]) rfl
@[simp] theorem c43_fn1 (s_l : Nat) (z_l : D) (k : Int) : c43.fn [.sl false s_l z_l [], .lit (.int .i64 k)] [] = some ((fun (l : List TClaim) (k : Int) => l.length ≤ 1073741823) [] k, (fun (l : List TClaim) (k : Int) => (dI (mFirst l k) : D)) [] k, (fun (l : List TClaim) (k : Int) => []) [] k) :=
  mkCon_fn (fun x y h _ => c43_inj x y h) (([], k) : (List TClaim) × Int) (by simp [nz, nz1, ML_nil, encLTClaim]) rfl
theorem c43_pc (l : List TClaim) (k : Int) (hpre : l.length ≤ 1073741823) : PCo Try.prog 43 [encLTClaim l, dI k] (Tab.of []) (dI (mFirst l k)) (Tab.of []) := by
  refine pco_of_run [] (E := ⟨[c99], []⟩) (m := false) (base := 0) (Env.ok_cons c99_ok Env.ok_nil) G_ok mix 300 6 Try.func43 (by kernel_rfl) rfl (by kernel_rfl) (by kernel_rfl) rfl ?_
  simp [Try.f43]
  have hb := getC_len l k
  rw [show mFirst l k = (match (getG (bkC l) k).foldl stepP none with | none => 0 | some x => x.Id) by rw [bk_get]; rfl]
  generalize getG (bkC l) k = r at hb ⊢
  refine ⟨hpre, ?_⟩
  refine loop_inv (fun p : Nat × Option TClaim => p.1 ≤ r.length ∧ (r.take p.1).foldl stepP none = p.2) (fun p => [(5, ptrO p.2), (14, encLTClaim r), (15, dI r.length), (16, dI p.1)]) (fun _ => []) 1 (fun p => r.length - p.1) (0, none) 400 (by simp) (by simp) (by simp) ?_
  intro ⟨p, o⟩ ⟨hp, ho⟩
  simp only at hp ho
  cases o with
  | none =>
    simp
    refine ⟨fun hlt => ?_, fun hge => ?_⟩
    · have hs := foldl_at (f := stepP) (s := none) (d := default) hlt
      rw [ho] at hs
      repeat' (first | omega | refine And.intro ?_ ?_ | intro _)
      · rename_i hw
        refine Again.mk (p + 1, some (r[p]?.getD default)) ⟨by simp; omega, by simp only [hs]; simp [stepP, stateIs, hw]⟩ (by simp) (by first | omega | (simp; omega))
      · rename_i hw
        refine Again.mk (p + 1, none) ⟨by simp; omega, by simp only [hs]; simp [stepP, stateIs, hw]⟩ (by simp) (by first | omega | (simp; omega))
    · rw [List.take_of_length_le hge] at ho
      rw [ho]
  | some y =>
    simp
    refine ⟨fun hlt => ?_, fun hge => ?_⟩
    · have hs := foldl_at (f := stepP) (s := none) (d := default) hlt
      rw [ho] at hs
      refine ⟨hlt, fun h1 h2 => ⟨by omega, ?_⟩, fun h1 => ⟨by omega, ?_⟩⟩
      · exact Again.mk (p + 1, some (r[p]?.getD default)) ⟨by simp; omega, by simp only [hs]; simp [stepP, stateIs, h1, h2]⟩ (by simp) (by first | omega | (simp; omega))
      · exact Again.mk (p + 1, some y) ⟨by simp; omega, by simp only [hs]; exact stepP_no h1⟩ (by simp) (by first | omega | (simp; omega))
    · rw [List.take_of_length_le hge] at ho
      rw [ho]
theorem c43_ok : c43.ok Try.prog := mkCon_ok fun ⟨l, k⟩ hpre => c43_pc l k hpre
/-- loop.example/g03007/spec.FirstProved -/
noncomputable def c42 : Con := mkCon 42 false (α := (List TClaim) × Int) (fun x => (fun (l : List TClaim) (k : Int) => [encLTClaim l, dI k]) x.1 x.2) (fun _ => []) (fun x => (fun (l : List TClaim) (k : Int) => l.length ≤ 1073741823) x.1 x.2) (fun x => (fun (l : List TClaim) (k : Int) => (dI (mFirst l k) : D)) x.1 x.2) (fun x => (fun (l : List TClaim) (k : Int) => []) x.1 x.2)
@[simp] theorem c42_f : c42.f = 42 := rfl
@[simp] theorem c42_own : c42.own = false := rfl
theorem c42_inj : ∀ u_ v_ : (List TClaim) × Int, ((fun x => (fun (l : List TClaim) (k : Int) => [encLTClaim l, dI k]) x.1 x.2) u_).map nz = ((fun x => (fun (l : List TClaim) (k : Int) => [encLTClaim l, dI k]) x.1 x.2) v_).map nz → u_ = v_ := by
  intro u_ v_ h
  obtain ⟨l, k⟩ := u_
  obtain ⟨l', k'⟩ := v_
  simp [nz_lit, nz1_lit, nz_agg, nz_sl, nz1_sl, encLTClaim] at h
  first | (simp [h]; done) | (obtain ⟨⟩ := h; simp_all; done) | simp_all
@[simp] theorem c42_fn (l : List TClaim) (k : Int) : c42.fn [.sl false 5 yTClaim (ML encTClaim l), .lit (.int .i64 k)] [] = some ((fun (l : List TClaim) (k : Int) => l.length ≤ 1073741823) l k, (fun (l : List TClaim) (k : Int) => (dI (mFirst l k) : D)) l k, (fun (l : List TClaim) (k : Int) => []) l k) :=
  mkCon_fn (fun x y h _ => c42_inj x y h) ((l, k) : (List TClaim) × Int) (by simp [nz, nz1, ML_nil, encLTClaim]) rfl
@[simp] theorem c42_fn1 (s_l : Nat) (z_l : D) (k : Int) : c42.fn [.sl false s_l z_l [], .lit (.int .i64 k)] [] = some ((fun (l : List TClaim) (k : Int) => l.length ≤ 1073741823) [] k, (fun (l : List TClaim) (k : Int) => (dI (mFirst l k) : D)) [] k, (fun (l : List TClaim) (k : Int) => []) [] k) :=
  mkCon_fn (fun x y h _ => c42_inj x y h) (([], k) : (List TClaim) × Int) (by simp [nz, nz1, ML_nil, encLTClaim]) rfl
theorem c42_pc (l : List TClaim) (k : Int) (hpre : l.length ≤ 1073741823) : PCo Try.prog 42 [encLTClaim l, dI k] (Tab.of []) (dI (mFirst l k)) (Tab.of []) := by
  refine pco_of_run [] (E := ⟨[], []⟩) (m := false) (base := 0) Env.ok_nil G_ok mix 300 6 Try.func42 (by kernel_rfl) rfl (by kernel_rfl) (by kernel_rfl) rfl ?_
  simp [Try.f42]
  refine loop_inv (fun p : Nat × Option Nat => p.1 ≤ l.length ∧ (∀ q, p.2 = some q → q < p.1) ∧ firstC (l.take p.1) k = p.2.map fun q => l[q]?.getD default) (fun p => [(0, encLTClaim l), (1, dI k), (5, dI (match p.2 with | none => -1 | some q => (q : Int))), (6, dI p.1)]) (fun _ => []) 1 (fun p => l.length - p.1) (0, none) 400 (by simp) (by simp [firstC]) (by simp) ?_
  intro ⟨p, o⟩ ⟨hp, ho, hf⟩
  simp only at hp ho hf
  have hst : p < l.length → firstC (l.take (p + 1)) k = if thIs k (l[p]?.getD default) then stepP (firstC (l.take p) k) (l[p]?.getD default) else firstC (l.take p) k := fun hlt => by
    simp only [firstC]
    rw [take_at (d := default) hlt, List.filter_append, List.foldl_append]
    by_cases h : thIs k (l[p]?.getD default) = true
    · simp [List.filter, h]
    · simp [List.filter, h]
  cases o with
  | none =>
    simp only [Option.map_none] at hf
    rw [hf] at hst
    simp
    refine ⟨fun hlt => ?_, fun hge => ?_⟩
    · have hs := hst hlt
      have hth : ∀ (b : Bool), decide ((l[p]?.getD default).Thing = k) = b → thIs k (l[p]?.getD default) = b := fun b h => h
      refine ⟨⟨hlt, fun _ => hlt⟩, fun h1 h2 => ⟨by omega, ?_⟩, fun h1 => ⟨by omega, ?_⟩⟩
      · rw [hth true (by simp [h1]), if_pos rfl, stepP_none_yes h2] at hs
        exact Again.mk (p + 1, some p) ⟨by simp; omega, by simp, by simp [hs]⟩ (by simp) (by first | omega | (simp; omega))
      · have h3 : firstC (l.take (p + 1)) k = none := by
          rw [hs]
          by_cases h4 : (l[p]?.getD default).Thing = k
          · rw [if_pos (hth true (by simp [h4]))]; exact stepP_none_no (h1 h4)
          · rw [if_neg (by rw [hth false (by simp [h4])]; simp)]
        exact Again.mk (p + 1, none) ⟨by simp; omega, by simp, by simp [h3]⟩ (by simp) (by first | omega | (simp; omega))
    · rw [List.take_of_length_le hge] at hf
      rw [mFirst, hf]
  | some q =>
    have hq := ho q rfl
    simp only [Option.map_some] at hf
    rw [hf] at hst
    simp
    refine ⟨fun hlt => ?_, fun hge => ?_⟩
    · have hs := hst hlt
      have hth : ∀ (b : Bool), decide ((l[p]?.getD default).Thing = k) = b → thIs k (l[p]?.getD default) = b := fun b h => h
      refine ⟨⟨hlt, fun _ => hlt, fun _ _ => hlt, fun _ _ => by omega⟩, fun h1 h2 h3 => ⟨by omega, ?_⟩, fun h1 => ⟨by omega, ?_⟩⟩
      · rw [hth true (by simp [h1]), if_pos rfl, stepP_yes h2 (by omega)] at hs
        exact Again.mk (p + 1, some p) ⟨by simp; omega, by simp, by simp [hs]⟩ (by simp) (by first | omega | (simp; omega))
      · have h3 : firstC (l.take (p + 1)) k = some (l[q]?.getD default) := by
          rw [hs]
          by_cases h4 : (l[p]?.getD default).Thing = k
          · rw [if_pos (hth true (by simp [h4]))]; exact stepP_no fun h5 => (by have := h1 h4 h5; omega)
          · rw [if_neg (by rw [hth false (by simp [h4])]; simp)]
        exact Again.mk (p + 1, some q) ⟨by simp; omega, by simp; omega, by simp [h3]⟩ (by simp) (by first | omega | (simp; omega))
    · rw [List.take_of_length_le hge] at hf
      rw [mFirst, hf]
      exact ⟨fun h => by omega, by omega, rfl⟩
theorem c42_ok : c42.ok Try.prog := mkCon_ok fun ⟨l, k⟩ hpre => c42_pc l k hpre
/-- loop.example/g03007/laws.FnExactFirstProved -/
theorem law7 (l : List TClaim) (wl : wfLTClaim l) (k : Int) (wk : inR .i64 k) : PCo Try.prog 7 [encLTClaim l, dI k] (Tab.of []) (dB true) (Tab.of []) := by
  refine pco_of_run [] (E := ⟨[c25, c27, c29, c42, c43], []⟩) (m := false) (base := 0) (Env.ok_cons c25_ok (Env.ok_cons c27_ok (Env.ok_cons c29_ok (Env.ok_cons c42_ok (Env.ok_cons c43_ok Env.ok_nil))))) G_ok mix 400 6 Try.func7 (by kernel_rfl) rfl (by kernel_rfl) (by kernel_rfl) rfl ?_
  simp (config := {maxSteps := 3000000}) [Try.f7]
  have h_l : l.length ≤ maxLen := wl.1
  repeat' (first | omega | assumption | refine And.intro ?_ ?_ | intro _)
  all_goals first | omega | grind | (split at * <;> omega)
theorem law7_pc (D0 : D) (h0 : Sh G 9 22 D0) (D1 : D) (h1 : Sh G 9 3 D1) : PC Try.prog 7 [D0, D1] (dB true) [] := by
  obtain ⟨l, rfl, wl⟩ := sh22 (n := 6) h0
  obtain ⟨k, rfl, wk⟩ := sh3 (n := 8) h1
  exact law7 l wl k wk

end Go.Proofs.Ytadbjlnfdjbbjaa
