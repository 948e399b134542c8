/- Contracts of the functions that the laws run. -/
import Derived.Test.YtmhbciaolpamaaaRch20d
import Derived.Test.YtmhbciaolpamaaaREngB
namespace Go.Proofs.YtmhbciaolpamaaaR
open Go Go.Eng
set_option linter.unusedSimpArgs false
set_option linter.unusedVariables false
set_option maxRecDepth 10000
set_option maxHeartbeats 1000000
/-- loop.example/g03007/laws.eqShare -/
noncomputable def c141 : Con := mkCon 141 false (α := TShare × TShare) (fun x => (fun (a : TShare) (b : TShare) => [encTShare a, encTShare b]) x.1 x.2) (fun _ => []) (fun x => (fun (a : TShare) (b : TShare) => True) x.1 x.2) (fun x => (fun (a : TShare) (b : TShare) => (dB (decide (a = b)) : D)) x.1 x.2) (fun x => (fun (a : TShare) (b : TShare) => []) x.1 x.2)
@[simp] theorem c141_f : c141.f = 141 := rfl
@[simp] theorem c141_own : c141.own = false := rfl
theorem c141_inj : ∀ u_ v_ : TShare × TShare, ((fun x => (fun (a : TShare) (b : TShare) => [encTShare a, encTShare b]) x.1 x.2) u_).map nz = ((fun x => (fun (a : TShare) (b : TShare) => [encTShare a, encTShare b]) x.1 x.2) v_).map nz → u_ = v_ := by
  intro u_ v_ h
  obtain ⟨⟨a_Who, a_Cents⟩, ⟨b_Who, b_Cents⟩⟩ := u_
  obtain ⟨⟨a_Who', a_Cents'⟩, ⟨b_Who', b_Cents'⟩⟩ := v_
  simp [nz_lit, nz1_lit, nz_agg, nz_sl, nz1_sl, encTShare] at h
  first | (simp [h]; done) | (obtain ⟨⟩ := h; simp_all; done) | simp_all
@[simp] theorem c141_fn (a_Who : Int) (a_Cents : Int) (b_Who : Int) (b_Cents : Int) : c141.fn [.agg [.lit (.int .i64 a_Who), .lit (.int .i64 a_Cents)], .agg [.lit (.int .i64 b_Who), .lit (.int .i64 b_Cents)]] [] = some ((fun (a : TShare) (b : TShare) => True) ⟨a_Who, a_Cents⟩ ⟨b_Who, b_Cents⟩, (fun (a : TShare) (b : TShare) => (dB (decide (a = b)) : D)) ⟨a_Who, a_Cents⟩ ⟨b_Who, b_Cents⟩, (fun (a : TShare) (b : TShare) => []) ⟨a_Who, a_Cents⟩ ⟨b_Who, b_Cents⟩) :=
  mkCon_fn (fun x y h _ => c141_inj x y h) ((⟨a_Who, a_Cents⟩, ⟨b_Who, b_Cents⟩) : TShare × TShare) (by simp [nz, nz1, ML_nil, encTShare]) rfl
theorem c141_pc (a : TShare) (b : TShare) : PCo Try.prog 141 [encTShare a, encTShare b] (Tab.of []) (dB (decide (a = b))) (Tab.of []) := by
  obtain ⟨a_Who, a_Cents⟩ := a
  obtain ⟨b_Who, b_Cents⟩ := b
  refine pco_of_run [] (E := ⟨[], []⟩) (m := false) (base := 0) Env.ok_nil G_ok mix 300 6 Try.func141 (by kernel_rfl) rfl (by kernel_rfl) (by kernel_rfl) rfl ?_
  simp [Try.f141]
  all_goals first | omega | (rw [Bool.eq_iff_iff]; simp; omega) | grind
theorem c141_ok : c141.ok Try.prog := mkCon_ok fun ⟨a, b⟩ hpre => c141_pc a b
/-- loop.example/g03007/laws.eqShareS -/
noncomputable def c73 : Con := mkCon 73 false (α := (List TShare) × (List TShare)) (fun x => (fun (a : List TShare) (b : List TShare) => [encLTShare a, encLTShare b]) x.1 x.2) (fun _ => []) (fun x => (fun (a : List TShare) (b : List TShare) => a.length ≤ 1099511627776 ∧ b.length ≤ 1099511627776) x.1 x.2) (fun x => (fun (a : List TShare) (b : List TShare) => (dB (decide (a = b)) : D)) x.1 x.2) (fun x => (fun (a : List TShare) (b : List TShare) => []) x.1 x.2)
@[simp] theorem c73_f : c73.f = 73 := rfl
@[simp] theorem c73_own : c73.own = false := rfl
theorem c73_inj : ∀ u_ v_ : (List TShare) × (List TShare), ((fun x => (fun (a : List TShare) (b : List TShare) => [encLTShare a, encLTShare b]) x.1 x.2) u_).map nz = ((fun x => (fun (a : List TShare) (b : List TShare) => [encLTShare a, encLTShare b]) x.1 x.2) v_).map nz → u_ = v_ := by
  intro u_ v_ h
  obtain ⟨a, b⟩ := u_
  obtain ⟨a', b'⟩ := v_
  simp [nz_lit, nz1_lit, nz_agg, nz_sl, nz1_sl, encLTShare] at h
  first | (simp [h]; done) | (obtain ⟨⟩ := h; simp_all; done) | simp_all
@[simp] theorem c73_fn (a : List TShare) (b : List TShare) : c73.fn [.sl false 2 yTShare (ML encTShare a), .sl false 2 yTShare (ML encTShare b)] [] = some ((fun (a : List TShare) (b : List TShare) => a.length ≤ 1099511627776 ∧ b.length ≤ 1099511627776) a b, (fun (a : List TShare) (b : List TShare) => (dB (decide (a = b)) : D)) a b, (fun (a : List TShare) (b : List TShare) => []) a b) :=
  mkCon_fn (fun x y h _ => c73_inj x y h) ((a, b) : (List TShare) × (List TShare)) (by simp [nz, nz1, ML_nil, encLTShare]) rfl
@[simp] theorem c73_fn1 (s_a : Nat) (z_a : D) (b : List TShare) : c73.fn [.sl false s_a z_a [], .sl false 2 yTShare (ML encTShare b)] [] = some ((fun (a : List TShare) (b : List TShare) => a.length ≤ 1099511627776 ∧ b.length ≤ 1099511627776) [] b, (fun (a : List TShare) (b : List TShare) => (dB (decide (a = b)) : D)) [] b, (fun (a : List TShare) (b : List TShare) => []) [] b) :=
  mkCon_fn (fun x y h _ => c73_inj x y h) (([], b) : (List TShare) × (List TShare)) (by simp [nz, nz1, ML_nil, encLTShare]) rfl
@[simp] theorem c73_fn2 (a : List TShare) (s_b : Nat) (z_b : D) : c73.fn [.sl false 2 yTShare (ML encTShare a), .sl false s_b z_b []] [] = some ((fun (a : List TShare) (b : List TShare) => a.length ≤ 1099511627776 ∧ b.length ≤ 1099511627776) a [], (fun (a : List TShare) (b : List TShare) => (dB (decide (a = b)) : D)) a [], (fun (a : List TShare) (b : List TShare) => []) a []) :=
  mkCon_fn (fun x y h _ => c73_inj x y h) ((a, []) : (List TShare) × (List TShare)) (by simp [nz, nz1, ML_nil, encLTShare]) rfl
@[simp] theorem c73_fn3 (s_a : Nat) (z_a : D) (s_b : Nat) (z_b : D) : c73.fn [.sl false s_a z_a [], .sl false s_b z_b []] [] = some ((fun (a : List TShare) (b : List TShare) => a.length ≤ 1099511627776 ∧ b.length ≤ 1099511627776) [] [], (fun (a : List TShare) (b : List TShare) => (dB (decide (a = b)) : D)) [] [], (fun (a : List TShare) (b : List TShare) => []) [] []) :=
  mkCon_fn (fun x y h _ => c73_inj x y h) (([], []) : (List TShare) × (List TShare)) (by simp [nz, nz1, ML_nil, encLTShare]) rfl
theorem c73_pc (a : List TShare) (b : List TShare) (hpre : a.length ≤ 1099511627776 ∧ b.length ≤ 1099511627776) : PCo Try.prog 73 [encLTShare a, encLTShare b] (Tab.of []) (dB (decide (a = b))) (Tab.of []) := by
  refine pco_of_run [] (E := ⟨[c141], []⟩) (m := false) (base := 0) (Env.ok_cons c141_ok Env.ok_nil) G_ok mix 300 6 Try.func73 (by kernel_rfl) rfl (by kernel_rfl) (by kernel_rfl) rfl ?_
  simp [Try.f73]
  obtain ⟨pre1, pre2⟩ := hpre
  refine ⟨fun h => ?_, fun h => by intro e; subst e; exact absurd rfl h⟩
  refine loop_inv (fun p : Nat => p ≤ a.length ∧ a.take p = b.take p) (fun p => [(0, encLTShare a), (1, encLTShare b), (5, dI p)]) (fun _ => []) 1 (fun p => a.length - p) 0 100 (by simp) (by simp) (by simp) ?_
  intro p ⟨hp, hi⟩
  simp
  refine ⟨fun hlt => ⟨by omega, fun h2 => ⟨by omega, Again.mk (p + 1) ⟨by omega, take_eq_step hi (by omega) (by omega) h2⟩ (by simp) (by first | omega | (simp; omega))⟩, fun h2 => by intro e; subst e; exact absurd rfl h2⟩, fun hge => ?_⟩
  exact take_eq_full hi (by omega) (by omega)
theorem c73_ok : c73.ok Try.prog := mkCon_ok fun ⟨a, b⟩ hpre => c73_pc a b hpre
abbrev mk_TShare : Int → TShare := fun n => ⟨n, n + 1⟩
/-- loop.example/g03007/laws.markShareS -/
noncomputable def c74 : Con := mkCon 74 true (α := (List TShare) × Int) (fun x => (fun (l : List TShare) (k : Int) => ([.own (0, 0) 2 0 l.length, dI k] : List D)) x.1 x.2) (fun x => (fun (l : List TShare) (k : Int) => ([((0, 0), .arr false 2 yTShare (ML encTShare l))] : List (Nm × OO))) x.1 x.2) (fun x => (fun (l : List TShare) (k : Int) => l.length ≤ 1099511627776 ∧ 0 ≤ k ∧ k ≤ 1152921504606846976) x.1 x.2) (fun x => (fun (l : List TShare) (k : Int) => (dI (k + 2 * l.length) : D)) x.1 x.2) (fun x => (fun (l : List TShare) (k : Int) => ([((0, 0), .arr false 2 yTShare (ML encTShare (mkL mk_TShare 2 k l.length)))] : List (Nm × OO))) x.1 x.2)
@[simp] theorem c74_f : c74.f = 74 := rfl
@[simp] theorem c74_own : c74.own = true := rfl
theorem c74_inj : ∀ u_ v_ : (List TShare) × Int, ((fun x => (fun (l : List TShare) (k : Int) => ([.own (0, 0) 2 0 l.length, dI k] : List D)) x.1 x.2) u_).map nz = ((fun x => (fun (l : List TShare) (k : Int) => ([.own (0, 0) 2 0 l.length, dI k] : List D)) x.1 x.2) v_).map nz → (fun x => (fun (l : List TShare) (k : Int) => ([((0, 0), .arr false 2 yTShare (ML encTShare l))] : List (Nm × OO))) x.1 x.2) u_ = (fun x => (fun (l : List TShare) (k : Int) => ([((0, 0), .arr false 2 yTShare (ML encTShare l))] : List (Nm × OO))) x.1 x.2) v_ → u_ = v_ := by
  intro u_ v_ h h2_
  obtain ⟨l, k⟩ := u_
  obtain ⟨l', k'⟩ := v_
  simp [nz_lit, nz1_lit, nz_agg, nz_sl, nz1_sl, nz_sx, nz_el, nz1_el, nz_own, nz1_own, nz_ptr, nz_fn, nz_iface] at h h2_
  first | (simp [h, h2_]; done) | (obtain ⟨h3_, h4_⟩ := List.append_inj h2_ h.1; simp_all; done) | simp_all | grind
@[simp] theorem c74_fn (l : List TShare) (k : Int) : c74.fn ([.own (0, 0) 2 0 l.length, dI k]) ([((0, 0), .arr false 2 yTShare (ML encTShare l))]) = some (l.length ≤ 1099511627776 ∧ 0 ≤ k ∧ k ≤ 1152921504606846976, dI (k + 2 * l.length), [((0, 0), .arr false 2 yTShare (ML encTShare (mkL mk_TShare 2 k l.length)))]) :=
  mkCon_fn c74_inj ((l, k) : (List TShare) × Int) rfl rfl
theorem c74_pc (l : List TShare) (k : Int) (hpre : l.length ≤ 1099511627776 ∧ 0 ≤ k ∧ k ≤ 1152921504606846976) : PCo Try.prog 74 ([.own (0, 0) 2 0 l.length, dI k]) (Tab.of ([((0, 0), .arr false 2 yTShare (ML encTShare l))])) (dI (k + 2 * l.length)) (Tab.of ([((0, 0), .arr false 2 yTShare (ML encTShare (mkL mk_TShare 2 k l.length)))])) := by
  refine pco_of_run [] (E := ⟨[], []⟩) (m := false) (base := 0) Env.ok_nil G_ok mix 300 6 Try.func74 (by kernel_rfl) rfl (by kernel_rfl) (by kernel_rfl) rfl ?_
  simp [Try.f74]
  obtain ⟨pre1, pre2, pre3⟩ := hpre
  refine loop_inv (fun p : Nat => p ≤ l.length) (fun p => [(0, .own (0, 0) 2 0 l.length), (1, dI (k + 2 * p)), (5, dI p)]) (fun p => [((0, 0), .arr false 2 yTShare (ML encTShare (mkL mk_TShare 2 k p ++ l.drop p)))]) 2 (fun p => l.length - p) 0 100 (by simp) (by simp) (by simp) ?_
  intro p hp
  simp
  have hs : ∀ x, x = mk_TShare (k + 2 * (p : Int)) → p < l.length → mkL mk_TShare 2 k p ++ (l.drop p).set 0 x = mkL mk_TShare 2 k (p + 1) ++ l.drop (p + 1) := fun x hx hlt => mark_step0 hlt hx
  refine ⟨fun hlt => ?_, fun hge => ?_⟩
  · repeat' (first | omega | refine And.intro ?_ ?_ | intro _)
    all_goals refine Again.mk (p + 1) (by omega) ?_ (by first | omega | (simp; omega))
    all_goals (rw [hs _ (by simp [mark_get0 hlt, mark_get hlt]; first | done | omega) hlt]; simp; omega)
  have : p = l.length := by omega
  subst this
  simp
  trace_state
theorem c74_ok : c74.ok Try.prog := mkCon_ok fun ⟨l, k⟩ hpre => c74_pc l k hpre
/-- loop.example/g03007/laws.heldShareS -/
noncomputable def c75 : Con := mkCon 75 false (α := (List TShare) × Int) (fun x => (fun (l : List TShare) (k : Int) => [encLTShare l, dI k]) x.1 x.2) (fun _ => []) (fun x => (fun (l : List TShare) (k : Int) => l.length ≤ 1099511627776 ∧ 0 ≤ k ∧ k ≤ 1152921504606846976) x.1 x.2) (fun x => (fun (l : List TShare) (k : Int) => (dI (if l = mkL mk_TShare 2 k l.length then k + 2 * l.length else -1) : D)) x.1 x.2) (fun x => (fun (l : List TShare) (k : Int) => []) x.1 x.2)
@[simp] theorem c75_f : c75.f = 75 := rfl
@[simp] theorem c75_own : c75.own = false := rfl
theorem c75_inj : ∀ u_ v_ : (List TShare) × Int, ((fun x => (fun (l : List TShare) (k : Int) => [encLTShare l, dI k]) x.1 x.2) u_).map nz = ((fun x => (fun (l : List TShare) (k : Int) => [encLTShare l, dI k]) x.1 x.2) v_).map nz → u_ = v_ := by
  intro u_ v_ h
  obtain ⟨l, k⟩ := u_
  obtain ⟨l', k'⟩ := v_
  simp [nz_lit, nz1_lit, nz_agg, nz_sl, nz1_sl, encLTShare] at h
  first | (simp [h]; done) | (obtain ⟨⟩ := h; simp_all; done) | simp_all
@[simp] theorem c75_fn (l : List TShare) (k : Int) : c75.fn [.sl false 2 yTShare (ML encTShare l), .lit (.int .i64 k)] [] = some ((fun (l : List TShare) (k : Int) => l.length ≤ 1099511627776 ∧ 0 ≤ k ∧ k ≤ 1152921504606846976) l k, (fun (l : List TShare) (k : Int) => (dI (if l = mkL mk_TShare 2 k l.length then k + 2 * l.length else -1) : D)) l k, (fun (l : List TShare) (k : Int) => []) l k) :=
  mkCon_fn (fun x y h _ => c75_inj x y h) ((l, k) : (List TShare) × Int) (by simp [nz, nz1, ML_nil, encLTShare]) rfl
@[simp] theorem c75_fn1 (s_l : Nat) (z_l : D) (k : Int) : c75.fn [.sl false s_l z_l [], .lit (.int .i64 k)] [] = some ((fun (l : List TShare) (k : Int) => l.length ≤ 1099511627776 ∧ 0 ≤ k ∧ k ≤ 1152921504606846976) [] k, (fun (l : List TShare) (k : Int) => (dI (if l = mkL mk_TShare 2 k l.length then k + 2 * l.length else -1) : D)) [] k, (fun (l : List TShare) (k : Int) => []) [] k) :=
  mkCon_fn (fun x y h _ => c75_inj x y h) (([], k) : (List TShare) × Int) (by simp [nz, nz1, ML_nil, encLTShare]) rfl
theorem c75_pc (l : List TShare) (k : Int) (hpre : l.length ≤ 1099511627776 ∧ 0 ≤ k ∧ k ≤ 1152921504606846976) : PCo Try.prog 75 [encLTShare l, dI k] (Tab.of []) (dI (if l = mkL mk_TShare 2 k l.length then k + 2 * l.length else -1)) (Tab.of []) := by
  refine pco_of_run [] (E := ⟨[], []⟩) (m := false) (base := 0) Env.ok_nil G_ok mix 300 6 Try.func75 (by kernel_rfl) rfl (by kernel_rfl) (by kernel_rfl) rfl ?_
  simp [Try.f75]
  obtain ⟨pre1, pre2, pre3⟩ := hpre
  refine loop_inv (fun p : Nat => p ≤ l.length ∧ l.take p = (mkL mk_TShare 2 k l.length).take p) (fun p => [(0, encLTShare l), (1, dI (k + 2 * p)), (5, dI p)]) (fun _ => []) 1 (fun p => l.length - p) 0 100 (by simp) (by simp) (by simp) ?_
  intro p ⟨hp, hi⟩
  simp
  refine ⟨fun hlt => ?_, fun hge => ?_⟩
  · have hx := mkL_get (f := mk_TShare) (m := 2) (k := k) (d := default) hlt
    by_cases he : l[p]?.getD default = mk_TShare (k + 2 * (p : Int))
    · generalize hA : Again _ _ _ _ _ _ _ = A
      have hAA : A := by rw [← hA]; exact Again.mk (p + 1) ⟨by omega, take_eq_step hi (by omega) (by simp; omega) (by rw [hx]; exact he)⟩ (by simp; omega) (by first | omega | (simp; omega))
      clear hA
      simp only [he, mk_TShare]
      repeat' (first | exact hAA | omega | refine And.intro ?_ ?_ | intro _)
      all_goals first | (exfalso; exact absurd trivial (by assumption)) | (exfalso; omega)
    · have hne : ¬ l = mkL mk_TShare 2 k l.length := fun e => he (by rw [← hx]; exact congrArg (fun z => z[p]?.getD default) e)
      generalize Again _ _ _ _ _ _ _ = A
      repeat' (first | omega | rfl | refine And.intro ?_ ?_ | intro _)
      all_goals first | (exfalso; apply hne; assumption) | (exfalso; apply he; obtain ⟨x, hq⟩ : ∃ x, l[p]?.getD default = x := ⟨_, rfl⟩; simp only [hq] at *; obtain ⟨x1, x2⟩ := x; simp [mk_TShare] at *; omega)
  · have h4 := take_eq_full hi hge (by simp; omega)
    rw [if_pos h4]; omega
theorem c75_ok : c75.ok Try.prog := mkCon_ok fun ⟨l, k⟩ hpre => c75_pc l k hpre
def mSales (c w : Int) : List TShare := if mIn c 0 10000000 = false then [] else if mIn w 1 999 = false then [⟨0, c⟩] else [⟨w, sAt c [1, 9] 0⟩, ⟨0, sAt c [1, 9] 1⟩]
theorem mSales_len (c w : Int) : (mSales c w).length ≤ 2 := by simp only [mSales]; split <;> (try split) <;> simp
theorem kSplit_19 {c : Int} (h : mIn c 0 10000000 = true) : kSplit c [1, 9] = true := by simp [kSplit, h]; decide
theorem kSplit_9 {c : Int} (h : mIn c 0 10000000 = true) : kSplit c [9] = true := by simp [kSplit, h]; decide
theorem mSplit_19 {c : Int} (h : mIn c 0 10000000 = true) : mSplit c [1, 9] = [sAt c [1, 9] 0, sAt c [1, 9] 1] := by
  simp [mSplit, kSplit_19 h, gen, List.range_succ]
theorem sAt_9 (c : Int) : sAt c [9] 0 = c := by
  have h1 : c * 9 / 9 = c := Int.mul_ediv_cancel _ (by omega)
  have h2 : sumI [9] = 9 := by decide
  have h3 : leftP c [9] = 0 := by
    rw [leftP, h2]; simp [gen, List.range_succ, qAt, sumI, h1]
  simp only [sAt, h2, h3, qAt]; simp [h1]
def pA (w : Int) : List TPortion := [⟨⟨w, 0⟩, 1, 0⟩, ⟨⟨0, 0⟩, 9, 0⟩]
def pB : List TPortion := [⟨⟨0, 0⟩, 9, 0⟩]
theorem parts_A (w : Int) : partsL (pA w) = [1, 9] := rfl
theorem parts_B : partsL pB = [9] := rfl
theorem div_A (c w : Int) : mDiv c (pA w) = [⟨⟨w, sAt c [1, 9] 0⟩, 1, rAt c 10 [1, 9] 0⟩, ⟨⟨0, sAt c [1, 9] 1⟩, 9, rAt c 10 [1, 9] 1⟩] := by
  have h : sumI [1, 9] = 10 := by decide
  simp [mDiv, gen, List.range_succ, pA, dAt, partsL, h]
theorem div_B (c : Int) : mDiv c pB = [⟨⟨0, c⟩, 9, rAt c 9 [9] 0⟩] := by
  have h : sumI [9] = 9 := by decide
  simp [mDiv, gen, List.range_succ, pB, dAt, partsL, h, sAt_9]
theorem divide_A (c w : Int) : c140.fn [dI c, .own (0, 0) 4 0 2] [((0, 0), .arr false 4 yTPortion [.agg [dI w, dI 0, dI 1, dI 0], .agg [dI 0, dI 0, dI 9, dI 0]])] = some (kSplit c [1, 9] = true, .tup [], [((0, 0), .arr false 4 yTPortion (ML encTPortion (mDiv c (pA w))))]) := c140_fn (l := pA w) (c := c)
theorem divide_B (c : Int) : c140.fn [dI c, .own (0, 0) 4 0 1] [((0, 0), .arr false 4 yTPortion [.agg [dI 0, dI 0, dI 9, dI 0]])] = some (kSplit c [9] = true, .tup [], [((0, 0), .arr false 4 yTPortion (ML encTPortion (mDiv c pB)))]) := c140_fn (l := pB) (c := c)
theorem split_19 (c : Int) : c68.fn [dI c, .sl false 1 (.lit (.int .i64 0)) [dI 1, dI 9]] [] = some (2 ≤ 1073741823, .own (0, 1) 1 0 (mSplit c [1, 9]).length, [((0, 1), .arr false 1 (dI 0) (ML dI (mSplit c [1, 9])))]) := c68_fn c [1, 9]
/-- loop.example/g03007/spec.SalesOf -/
noncomputable def c71 : Con := mkCon 71 false (α := Int × Int) (fun x => (fun (c : Int) (w : Int) => [dI c, dI w]) x.1 x.2) (fun _ => []) (fun x => (fun (c : Int) (w : Int) => True) x.1 x.2) (fun x => (fun (c : Int) (w : Int) => (.own (0, 1) 2 0 (mSales c w).length : D)) x.1 x.2) (fun x => (fun (c : Int) (w : Int) => [((0, 1), .arr false 2 yTShare (ML encTShare (mSales c w)))]) x.1 x.2)
@[simp] theorem c71_f : c71.f = 71 := rfl
@[simp] theorem c71_own : c71.own = false := rfl
theorem c71_inj : ∀ u_ v_ : Int × Int, ((fun x => (fun (c : Int) (w : Int) => [dI c, dI w]) x.1 x.2) u_).map nz = ((fun x => (fun (c : Int) (w : Int) => [dI c, dI w]) x.1 x.2) v_).map nz → u_ = v_ := by
  intro u_ v_ h
  obtain ⟨c, w⟩ := u_
  obtain ⟨c', w'⟩ := v_
  simp [nz_lit, nz1_lit, nz_agg, nz_sl, nz1_sl] at h
  first | (simp [h]; done) | (obtain ⟨⟩ := h; simp_all; done) | simp_all
@[simp] theorem c71_fn (c : Int) (w : Int) : c71.fn [.lit (.int .i64 c), .lit (.int .i64 w)] [] = some ((fun (c : Int) (w : Int) => True) c w, (fun (c : Int) (w : Int) => (.own (0, 1) 2 0 (mSales c w).length : D)) c w, (fun (c : Int) (w : Int) => [((0, 1), .arr false 2 yTShare (ML encTShare (mSales c w)))]) c w) :=
  mkCon_fn (fun x y h _ => c71_inj x y h) ((c, w) : Int × Int) (by simp [nz, nz1, ML_nil]) rfl
theorem c71_pc (c : Int) (w : Int) : PCo Try.prog 71 [dI c, dI w] (Tab.of []) (.own (0, 1) 2 0 (mSales c w).length) (Tab.of [((0, 1), .arr false 2 yTShare (ML encTShare (mSales c w)))]) := by
  refine pco_of_run [] (E := ⟨[c68, c102], []⟩) (m := false) (base := 0) (Env.ok_cons c68_ok (Env.ok_cons c102_ok Env.ok_nil)) G_ok mix 300 6 Try.func71 (by kernel_rfl) rfl (by kernel_rfl) (by kernel_rfl) rfl ?_
  cases h1 : mIn c 0 10000000 with
  | false => simp [Try.f71, h1, mSales]
  | true => cases h2 : mIn w 1 999 with
    | false =>
      simp [Try.f71, h1, h2, mSales]
      rfl
    | true =>
      simp [Try.f71, h1, h2, mSales, split_19, mSplit_19 h1, ML_ge]
      first | done | rfl
theorem c71_ok : c71.ok Try.prog := mkCon_ok fun ⟨c, w⟩ hpre => c71_pc c w
/-- loop.example/g03007/impl.SalesOf -/
noncomputable def c72 : Con := mkCon 72 false (α := Int × Int) (fun x => (fun (c : Int) (w : Int) => [dI c, dI w]) x.1 x.2) (fun _ => []) (fun x => (fun (c : Int) (w : Int) => True) x.1 x.2) (fun x => (fun (c : Int) (w : Int) => (.own (0, 1) 2 0 (mSales c w).length : D)) x.1 x.2) (fun x => (fun (c : Int) (w : Int) => [((0, 1), .arr false 2 yTShare (ML encTShare (mSales c w)))]) x.1 x.2)
@[simp] theorem c72_f : c72.f = 72 := rfl
@[simp] theorem c72_own : c72.own = false := rfl
theorem c72_inj : ∀ u_ v_ : Int × Int, ((fun x => (fun (c : Int) (w : Int) => [dI c, dI w]) x.1 x.2) u_).map nz = ((fun x => (fun (c : Int) (w : Int) => [dI c, dI w]) x.1 x.2) v_).map nz → u_ = v_ := by
  intro u_ v_ h
  obtain ⟨c, w⟩ := u_
  obtain ⟨c', w'⟩ := v_
  simp [nz_lit, nz1_lit, nz_agg, nz_sl, nz1_sl] at h
  first | (simp [h]; done) | (obtain ⟨⟩ := h; simp_all; done) | simp_all
@[simp] theorem c72_fn (c : Int) (w : Int) : c72.fn [.lit (.int .i64 c), .lit (.int .i64 w)] [] = some ((fun (c : Int) (w : Int) => True) c w, (fun (c : Int) (w : Int) => (.own (0, 1) 2 0 (mSales c w).length : D)) c w, (fun (c : Int) (w : Int) => [((0, 1), .arr false 2 yTShare (ML encTShare (mSales c w)))]) c w) :=
  mkCon_fn (fun x y h _ => c72_inj x y h) ((c, w) : Int × Int) (by simp [nz, nz1, ML_nil]) rfl
theorem c72_pc (c : Int) (w : Int) : PCo Try.prog 72 [dI c, dI w] (Tab.of []) (.own (0, 1) 2 0 (mSales c w).length) (Tab.of [((0, 1), .arr false 2 yTShare (ML encTShare (mSales c w)))]) := by
  refine pco_of_run [] (E := ⟨[c138, c140], []⟩) (m := false) (base := 0) (Env.ok_cons c138_ok (Env.ok_cons c140_ok Env.ok_nil)) G_ok mix 300 6 Try.func72 (by kernel_rfl) rfl (by kernel_rfl) (by kernel_rfl) rfl ?_
  cases h1 : mIn c 0 10000000 with
  | false => simp [Try.f72, h1, mSales]
  | true => cases h2 : mIn w 1 999 with
    | false =>
      simp [Try.f72, h1, h2, mSales, divide_B, kSplit_9 h1, div_B, ML_ge]
      try (refine loop_unroll 400 ?_; simp [ML_ge])
      first | done | rfl | trace_state
    | true =>
      simp [Try.f72, h1, h2, mSales, divide_A, kSplit_19 h1, div_A, ML_ge]
      try (refine loop_unroll 400 ?_; simp [ML_ge])
      first | done | rfl | trace_state
theorem c72_ok : c72.ok Try.prog := mkCon_ok fun ⟨c, w⟩ hpre => c72_pc c w

end Go.Proofs.YtmhbciaolpamaaaR
