/- Contracts of the functions that the laws run. -/
import Derived.Test.YtmhbciaolpamaaaRhelpA
import Derived.Test.YtmhbciaolpamaaaRgen
import Derived.Test.YtmhbciaolpamaaaREngB
namespace Go.Proofs.YtmhbciaolpamaaaR
open Go Go.Eng
set_option linter.unusedSimpArgs false
set_option linter.unusedVariables false
set_option maxRecDepth 10000
set_option maxHeartbeats 1000000
/-- loop.example/g03007/laws.toBid -/
noncomputable def c133 : Con := mkCon 133 false (α := TBid) (fun x => (fun (a : TBid) => [encTBid a]) x) (fun _ => []) (fun x => (fun (a : TBid) => True) x) (fun x => (fun (a : TBid) => (encTBid a : D)) x) (fun x => (fun (a : TBid) => []) x)
@[simp] theorem c133_f : c133.f = 133 := rfl
@[simp] theorem c133_own : c133.own = false := rfl
theorem c133_inj : ∀ u_ v_ : TBid, ((fun x => (fun (a : TBid) => [encTBid a]) x) u_).map nz = ((fun x => (fun (a : TBid) => [encTBid a]) x) v_).map nz → u_ = v_ := by
  intro u_ v_ h
  obtain ⟨a_Who, a_Cents, a_Seal⟩ := u_
  obtain ⟨a_Who', a_Cents', a_Seal'⟩ := v_
  simp [nz_lit, nz1_lit, nz_agg, nz_sl, nz1_sl, encTBid] at h
  first | (simp [h]; done) | (obtain ⟨⟩ := h; simp_all; done) | simp_all
@[simp] theorem c133_fn (a_Who : Int) (a_Cents : Int) (a_Seal : Int) : c133.fn [.agg [.lit (.int .i64 a_Who), .lit (.int .i64 a_Cents), .lit (.int .i64 a_Seal)]] [] = some ((fun (a : TBid) => True) ⟨a_Who, a_Cents, a_Seal⟩, (fun (a : TBid) => (encTBid a : D)) ⟨a_Who, a_Cents, a_Seal⟩, (fun (a : TBid) => []) ⟨a_Who, a_Cents, a_Seal⟩) :=
  mkCon_fn (fun x y h _ => c133_inj x y h) (⟨a_Who, a_Cents, a_Seal⟩ : TBid) (by simp [nz, nz1, ML_nil, encTBid]) rfl
theorem c133_pc (a : TBid) : PCo Try.prog 133 [encTBid a] (Tab.of []) (encTBid a) (Tab.of []) := by
  obtain ⟨a_Who, a_Cents, a_Seal⟩ := a
  refine pco_of_run [] (E := ⟨[], []⟩) (m := false) (base := 0) Env.ok_nil G_ok mix 300 6 Try.func133 (by kernel_rfl) rfl (by kernel_rfl) (by kernel_rfl) rfl ?_
  simp [Try.f133]
  all_goals first | omega | (rw [Bool.eq_iff_iff]; simp; omega) | grind
theorem c133_ok : c133.ok Try.prog := mkCon_ok fun a hpre => c133_pc a
/-- loop.example/g03007/laws.eqBid -/
noncomputable def c137 : Con := mkCon 137 false (α := TBid × TBid) (fun x => (fun (a : TBid) (b : TBid) => [encTBid a, encTBid b]) x.1 x.2) (fun _ => []) (fun x => (fun (a : TBid) (b : TBid) => True) x.1 x.2) (fun x => (fun (a : TBid) (b : TBid) => (dB (decide (a = b)) : D)) x.1 x.2) (fun x => (fun (a : TBid) (b : TBid) => []) x.1 x.2)
@[simp] theorem c137_f : c137.f = 137 := rfl
@[simp] theorem c137_own : c137.own = false := rfl
theorem c137_inj : ∀ u_ v_ : TBid × TBid, ((fun x => (fun (a : TBid) (b : TBid) => [encTBid a, encTBid b]) x.1 x.2) u_).map nz = ((fun x => (fun (a : TBid) (b : TBid) => [encTBid a, encTBid b]) x.1 x.2) v_).map nz → u_ = v_ := by
  intro u_ v_ h
  obtain ⟨⟨a_Who, a_Cents, a_Seal⟩, ⟨b_Who, b_Cents, b_Seal⟩⟩ := u_
  obtain ⟨⟨a_Who', a_Cents', a_Seal'⟩, ⟨b_Who', b_Cents', b_Seal'⟩⟩ := v_
  simp [nz_lit, nz1_lit, nz_agg, nz_sl, nz1_sl, encTBid] at h
  first | (simp [h]; done) | (obtain ⟨⟩ := h; simp_all; done) | simp_all
@[simp] theorem c137_fn (a_Who : Int) (a_Cents : Int) (a_Seal : Int) (b_Who : Int) (b_Cents : Int) (b_Seal : Int) : c137.fn [.agg [.lit (.int .i64 a_Who), .lit (.int .i64 a_Cents), .lit (.int .i64 a_Seal)], .agg [.lit (.int .i64 b_Who), .lit (.int .i64 b_Cents), .lit (.int .i64 b_Seal)]] [] = some ((fun (a : TBid) (b : TBid) => True) ⟨a_Who, a_Cents, a_Seal⟩ ⟨b_Who, b_Cents, b_Seal⟩, (fun (a : TBid) (b : TBid) => (dB (decide (a = b)) : D)) ⟨a_Who, a_Cents, a_Seal⟩ ⟨b_Who, b_Cents, b_Seal⟩, (fun (a : TBid) (b : TBid) => []) ⟨a_Who, a_Cents, a_Seal⟩ ⟨b_Who, b_Cents, b_Seal⟩) :=
  mkCon_fn (fun x y h _ => c137_inj x y h) ((⟨a_Who, a_Cents, a_Seal⟩, ⟨b_Who, b_Cents, b_Seal⟩) : TBid × TBid) (by simp [nz, nz1, ML_nil, encTBid]) rfl
theorem c137_pc (a : TBid) (b : TBid) : PCo Try.prog 137 [encTBid a, encTBid b] (Tab.of []) (dB (decide (a = b))) (Tab.of []) := by
  obtain ⟨a_Who, a_Cents, a_Seal⟩ := a
  obtain ⟨b_Who, b_Cents, b_Seal⟩ := b
  refine pco_of_run [] (E := ⟨[], []⟩) (m := false) (base := 0) Env.ok_nil G_ok mix 300 6 Try.func137 (by kernel_rfl) rfl (by kernel_rfl) (by kernel_rfl) rfl ?_
  simp [Try.f137]
  all_goals first | omega | (rw [Bool.eq_iff_iff]; simp; omega) | grind
theorem c137_ok : c137.ok Try.prog := mkCon_ok fun ⟨a, b⟩ hpre => c137_pc a b
/-- loop.example/g03007/laws.szBidS -/
noncomputable def c61 : Con := mkCon 61 false (α := (List TBid) × Int) (fun x => (fun (l : List TBid) (left : Int) => [encLTBid l, dI left]) x.1 x.2) (fun _ => []) (fun x => (fun (l : List TBid) (left : Int) => l.length ≤ maxLen ∧ 0 ≤ left ∧ left ≤ 1099511627776) x.1 x.2) (fun x => (fun (l : List TBid) (left : Int) => (dI (if left - l.length < 0 then -1 else left - l.length) : D)) x.1 x.2) (fun x => (fun (l : List TBid) (left : Int) => []) x.1 x.2)
@[simp] theorem c61_f : c61.f = 61 := rfl
@[simp] theorem c61_own : c61.own = false := rfl
theorem c61_inj : ∀ u_ v_ : (List TBid) × Int, ((fun x => (fun (l : List TBid) (left : Int) => [encLTBid l, dI left]) x.1 x.2) u_).map nz = ((fun x => (fun (l : List TBid) (left : Int) => [encLTBid l, dI left]) x.1 x.2) v_).map nz → u_ = v_ := by
  intro u_ v_ h
  obtain ⟨l, left⟩ := u_
  obtain ⟨l', left'⟩ := v_
  simp [nz_lit, nz1_lit, nz_agg, nz_sl, nz1_sl, encLTBid] at h
  first | (simp [h]; done) | (obtain ⟨⟩ := h; simp_all; done) | simp_all
@[simp] theorem c61_fn (l : List TBid) (left : Int) : c61.fn [.sl false 3 yTBid (ML encTBid l), .lit (.int .i64 left)] [] = some ((fun (l : List TBid) (left : Int) => l.length ≤ maxLen ∧ 0 ≤ left ∧ left ≤ 1099511627776) l left, (fun (l : List TBid) (left : Int) => (dI (if left - l.length < 0 then -1 else left - l.length) : D)) l left, (fun (l : List TBid) (left : Int) => []) l left) :=
  mkCon_fn (fun x y h _ => c61_inj x y h) ((l, left) : (List TBid) × Int) (by simp [nz, nz1, ML_nil, encLTBid]) rfl
@[simp] theorem c61_fn1 (s_l : Nat) (z_l : D) (left : Int) : c61.fn [.sl false s_l z_l [], .lit (.int .i64 left)] [] = some ((fun (l : List TBid) (left : Int) => l.length ≤ maxLen ∧ 0 ≤ left ∧ left ≤ 1099511627776) [] left, (fun (l : List TBid) (left : Int) => (dI (if left - l.length < 0 then -1 else left - l.length) : D)) [] left, (fun (l : List TBid) (left : Int) => []) [] left) :=
  mkCon_fn (fun x y h _ => c61_inj x y h) (([], left) : (List TBid) × Int) (by simp [nz, nz1, ML_nil, encLTBid]) rfl
theorem c61_pc (l : List TBid) (left : Int) (hpre : l.length ≤ maxLen ∧ 0 ≤ left ∧ left ≤ 1099511627776) : PCo Try.prog 61 [encLTBid l, dI left] (Tab.of []) (dI (if left - l.length < 0 then -1 else left - l.length)) (Tab.of []) := by
  refine pco_of_run [] (E := ⟨[], []⟩) (m := false) (base := 0) Env.ok_nil G_ok mix 300 6 Try.func61 (by kernel_rfl) rfl (by kernel_rfl) (by kernel_rfl) rfl ?_
  simp [Try.f61]
  simp [maxLen] at hpre
  all_goals omega
theorem c61_ok : c61.ok Try.prog := mkCon_ok fun ⟨l, left⟩ hpre => c61_pc l left hpre
/-- loop.example/g03007/laws.toBidS -/
noncomputable def c63 : Con := mkCon 63 false (α := (List TBid)) (fun x => (fun (l : List TBid) => [encLTBid l]) x) (fun _ => []) (fun x => (fun (l : List TBid) => l.length ≤ 1099511627776) x) (fun x => (fun (l : List TBid) => (.own (0, 1) 3 0 l.length : D)) x) (fun x => (fun (l : List TBid) => [((0, 1), .arr false 3 yTBid (ML encTBid l))]) x)
@[simp] theorem c63_f : c63.f = 63 := rfl
@[simp] theorem c63_own : c63.own = false := rfl
theorem c63_inj : ∀ u_ v_ : (List TBid), ((fun x => (fun (l : List TBid) => [encLTBid l]) x) u_).map nz = ((fun x => (fun (l : List TBid) => [encLTBid l]) x) v_).map nz → u_ = v_ := by
  intro u_ v_ h
  obtain l := u_
  obtain l' := v_
  simp [nz_lit, nz1_lit, nz_agg, nz_sl, nz1_sl, encLTBid] at h
  first | (simp [h]; done) | (obtain ⟨⟩ := h; simp_all; done) | simp_all
@[simp] theorem c63_fn (l : List TBid) : c63.fn [.sl false 3 yTBid (ML encTBid l)] [] = some ((fun (l : List TBid) => l.length ≤ 1099511627776) l, (fun (l : List TBid) => (.own (0, 1) 3 0 l.length : D)) l, (fun (l : List TBid) => [((0, 1), .arr false 3 yTBid (ML encTBid l))]) l) :=
  mkCon_fn (fun x y h _ => c63_inj x y h) (l : (List TBid)) (by simp [nz, nz1, ML_nil, encLTBid]) rfl
@[simp] theorem c63_fn1 (s_l : Nat) (z_l : D) : c63.fn [.sl false s_l z_l []] [] = some ((fun (l : List TBid) => l.length ≤ 1099511627776) [], (fun (l : List TBid) => (.own (0, 1) 3 0 l.length : D)) [], (fun (l : List TBid) => [((0, 1), .arr false 3 yTBid (ML encTBid l))]) []) :=
  mkCon_fn (fun x y h _ => c63_inj x y h) ([] : (List TBid)) (by simp [nz, nz1, ML_nil, encLTBid]) rfl
theorem c63_pc (l : List TBid) (hpre : l.length ≤ 1099511627776) : PCo Try.prog 63 [encLTBid l] (Tab.of []) (.own (0, 1) 3 0 l.length) (Tab.of [((0, 1), .arr false 3 yTBid (ML encTBid l))]) := by
  refine pco_of_run [] (E := ⟨[c133], []⟩) (m := false) (base := 0) (Env.ok_cons c133_ok Env.ok_nil) G_ok mix 300 6 Try.func63 (by kernel_rfl) rfl (by kernel_rfl) (by kernel_rfl) rfl ?_
  simp [Try.f63]
  refine ⟨by omega, ?_⟩
  refine loop_inv (fun p : Nat => p ≤ l.length) (fun p => [(0, encLTBid l), (3, .own (0, 1) 3 0 l.length), (4, dI p)]) (fun p => [((0, 1), .arr false 3 yTBid (ML encTBid (l.take p ++ List.replicate (l.length - p) ⟨0, 0, 0⟩)))]) 2 (fun p => l.length - p) 0 100 (by simp) (by simp) (by first | (simp; done) | (simp; simp only [ML, List.map_replicate]; rfl)) ?_
  intro p hp
  simp
  refine ⟨fun hlt => ⟨by omega, by omega, Again.mk (p + 1) (by omega) (by simp [fill_step hlt]) (by first | omega | (simp; omega))⟩, fun hge => ?_⟩
  have : p = l.length := by omega
  subst this
  simp
theorem c63_ok : c63.ok Try.prog := mkCon_ok fun l hpre => c63_pc l hpre
/-- loop.example/g03007/laws.eqBidS -/
noncomputable def c65 : Con := mkCon 65 false (α := (List TBid) × (List TBid)) (fun x => (fun (a : List TBid) (b : List TBid) => [encLTBid a, encLTBid b]) x.1 x.2) (fun _ => []) (fun x => (fun (a : List TBid) (b : List TBid) => a.length ≤ 1099511627776 ∧ b.length ≤ 1099511627776) x.1 x.2) (fun x => (fun (a : List TBid) (b : List TBid) => (dB (decide (a = b)) : D)) x.1 x.2) (fun x => (fun (a : List TBid) (b : List TBid) => []) x.1 x.2)
@[simp] theorem c65_f : c65.f = 65 := rfl
@[simp] theorem c65_own : c65.own = false := rfl
theorem c65_inj : ∀ u_ v_ : (List TBid) × (List TBid), ((fun x => (fun (a : List TBid) (b : List TBid) => [encLTBid a, encLTBid b]) x.1 x.2) u_).map nz = ((fun x => (fun (a : List TBid) (b : List TBid) => [encLTBid a, encLTBid b]) x.1 x.2) v_).map nz → u_ = v_ := by
  intro u_ v_ h
  obtain ⟨a, b⟩ := u_
  obtain ⟨a', b'⟩ := v_
  simp [nz_lit, nz1_lit, nz_agg, nz_sl, nz1_sl, encLTBid] at h
  first | (simp [h]; done) | (obtain ⟨⟩ := h; simp_all; done) | simp_all
@[simp] theorem c65_fn (a : List TBid) (b : List TBid) : c65.fn [.sl false 3 yTBid (ML encTBid a), .sl false 3 yTBid (ML encTBid b)] [] = some ((fun (a : List TBid) (b : List TBid) => a.length ≤ 1099511627776 ∧ b.length ≤ 1099511627776) a b, (fun (a : List TBid) (b : List TBid) => (dB (decide (a = b)) : D)) a b, (fun (a : List TBid) (b : List TBid) => []) a b) :=
  mkCon_fn (fun x y h _ => c65_inj x y h) ((a, b) : (List TBid) × (List TBid)) (by simp [nz, nz1, ML_nil, encLTBid]) rfl
@[simp] theorem c65_fn1 (s_a : Nat) (z_a : D) (b : List TBid) : c65.fn [.sl false s_a z_a [], .sl false 3 yTBid (ML encTBid b)] [] = some ((fun (a : List TBid) (b : List TBid) => a.length ≤ 1099511627776 ∧ b.length ≤ 1099511627776) [] b, (fun (a : List TBid) (b : List TBid) => (dB (decide (a = b)) : D)) [] b, (fun (a : List TBid) (b : List TBid) => []) [] b) :=
  mkCon_fn (fun x y h _ => c65_inj x y h) (([], b) : (List TBid) × (List TBid)) (by simp [nz, nz1, ML_nil, encLTBid]) rfl
@[simp] theorem c65_fn2 (a : List TBid) (s_b : Nat) (z_b : D) : c65.fn [.sl false 3 yTBid (ML encTBid a), .sl false s_b z_b []] [] = some ((fun (a : List TBid) (b : List TBid) => a.length ≤ 1099511627776 ∧ b.length ≤ 1099511627776) a [], (fun (a : List TBid) (b : List TBid) => (dB (decide (a = b)) : D)) a [], (fun (a : List TBid) (b : List TBid) => []) a []) :=
  mkCon_fn (fun x y h _ => c65_inj x y h) ((a, []) : (List TBid) × (List TBid)) (by simp [nz, nz1, ML_nil, encLTBid]) rfl
@[simp] theorem c65_fn3 (s_a : Nat) (z_a : D) (s_b : Nat) (z_b : D) : c65.fn [.sl false s_a z_a [], .sl false s_b z_b []] [] = some ((fun (a : List TBid) (b : List TBid) => a.length ≤ 1099511627776 ∧ b.length ≤ 1099511627776) [] [], (fun (a : List TBid) (b : List TBid) => (dB (decide (a = b)) : D)) [] [], (fun (a : List TBid) (b : List TBid) => []) [] []) :=
  mkCon_fn (fun x y h _ => c65_inj x y h) (([], []) : (List TBid) × (List TBid)) (by simp [nz, nz1, ML_nil, encLTBid]) rfl
theorem c65_pc (a : List TBid) (b : List TBid) (hpre : a.length ≤ 1099511627776 ∧ b.length ≤ 1099511627776) : PCo Try.prog 65 [encLTBid a, encLTBid b] (Tab.of []) (dB (decide (a = b))) (Tab.of []) := by
  refine pco_of_run [] (E := ⟨[c137], []⟩) (m := false) (base := 0) (Env.ok_cons c137_ok Env.ok_nil) G_ok mix 300 6 Try.func65 (by kernel_rfl) rfl (by kernel_rfl) (by kernel_rfl) rfl ?_
  simp [Try.f65]
  obtain ⟨pre1, pre2⟩ := hpre
  refine ⟨fun h => ?_, fun h => by intro e; subst e; exact absurd rfl h⟩
  refine loop_inv (fun p : Nat => p ≤ a.length ∧ a.take p = b.take p) (fun p => [(0, encLTBid a), (1, encLTBid b), (5, dI p)]) (fun _ => []) 1 (fun p => a.length - p) 0 100 (by simp) (by simp) (by simp) ?_
  intro p ⟨hp, hi⟩
  simp
  refine ⟨fun hlt => ⟨by omega, fun h2 => ⟨by omega, Again.mk (p + 1) ⟨by omega, take_eq_step hi (by omega) (by omega) h2⟩ (by simp) (by first | omega | (simp; omega))⟩, fun h2 => by intro e; subst e; exact absurd rfl h2⟩, fun hge => ?_⟩
  exact take_eq_full hi (by omega) (by omega)
theorem c65_ok : c65.ok Try.prog := mkCon_ok fun ⟨a, b⟩ hpre => c65_pc a b hpre
abbrev mk_TBid : Int → TBid := fun n => ⟨n, n + 1, n + 2⟩
/-- loop.example/g03007/laws.markBidS -/
noncomputable def c66 : Con := mkCon 66 true (α := (List TBid) × (List TBid) × Int) (fun x => (fun (l : List TBid) (t : List TBid) (k : Int) => ([.own (0, 0) 3 0 l.length, dI k] : List D)) x.1 x.2.1 x.2.2) (fun x => (fun (l : List TBid) (t : List TBid) (k : Int) => ([((0, 0), .arr false 3 yTBid (ML encTBid (l ++ t)))] : List (Nm × OO))) x.1 x.2.1 x.2.2) (fun x => (fun (l : List TBid) (t : List TBid) (k : Int) => l.length ≤ 1099511627776 ∧ 0 ≤ k ∧ k ≤ 1152921504606846976) x.1 x.2.1 x.2.2) (fun x => (fun (l : List TBid) (t : List TBid) (k : Int) => (dI (k + 3 * l.length) : D)) x.1 x.2.1 x.2.2) (fun x => (fun (l : List TBid) (t : List TBid) (k : Int) => ([((0, 0), .arr false 3 yTBid (ML encTBid (mkL mk_TBid 3 k l.length ++ t)))] : List (Nm × OO))) x.1 x.2.1 x.2.2)
@[simp] theorem c66_f : c66.f = 66 := rfl
@[simp] theorem c66_own : c66.own = true := rfl
theorem c66_inj : ∀ u_ v_ : (List TBid) × (List TBid) × Int, ((fun x => (fun (l : List TBid) (t : List TBid) (k : Int) => ([.own (0, 0) 3 0 l.length, dI k] : List D)) x.1 x.2.1 x.2.2) u_).map nz = ((fun x => (fun (l : List TBid) (t : List TBid) (k : Int) => ([.own (0, 0) 3 0 l.length, dI k] : List D)) x.1 x.2.1 x.2.2) v_).map nz → (fun x => (fun (l : List TBid) (t : List TBid) (k : Int) => ([((0, 0), .arr false 3 yTBid (ML encTBid (l ++ t)))] : List (Nm × OO))) x.1 x.2.1 x.2.2) u_ = (fun x => (fun (l : List TBid) (t : List TBid) (k : Int) => ([((0, 0), .arr false 3 yTBid (ML encTBid (l ++ t)))] : List (Nm × OO))) x.1 x.2.1 x.2.2) v_ → u_ = v_ := by
  intro u_ v_ h h2_
  obtain ⟨l, t, k⟩ := u_
  obtain ⟨l', t', k'⟩ := v_
  simp [nz_lit, nz1_lit, nz_agg, nz_sl, nz1_sl, nz_sx, nz_el, nz1_el, nz_own, nz1_own, nz_ptr, nz_fn, nz_iface] at h h2_
  first | (simp [h, h2_]; done) | (obtain ⟨h3_, h4_⟩ := List.append_inj h2_ h.1; simp_all; done) | simp_all | grind
@[simp] theorem c66_fn (l : List TBid) (t : List TBid) (k : Int) : c66.fn ([.own (0, 0) 3 0 l.length, dI k]) ([((0, 0), .arr false 3 yTBid (ML encTBid (l ++ t)))]) = some (l.length ≤ 1099511627776 ∧ 0 ≤ k ∧ k ≤ 1152921504606846976, dI (k + 3 * l.length), [((0, 0), .arr false 3 yTBid (ML encTBid (mkL mk_TBid 3 k l.length ++ t)))]) :=
  mkCon_fn c66_inj ((l, t, k) : (List TBid) × (List TBid) × Int) rfl rfl
theorem c66_pc (l : List TBid) (t : List TBid) (k : Int) (hpre : l.length ≤ 1099511627776 ∧ 0 ≤ k ∧ k ≤ 1152921504606846976) : PCo Try.prog 66 ([.own (0, 0) 3 0 l.length, dI k]) (Tab.of ([((0, 0), .arr false 3 yTBid (ML encTBid (l ++ t)))])) (dI (k + 3 * l.length)) (Tab.of ([((0, 0), .arr false 3 yTBid (ML encTBid (mkL mk_TBid 3 k l.length ++ t)))])) := by
  refine pco_of_run [] (E := ⟨[], []⟩) (m := false) (base := 0) Env.ok_nil G_ok mix 300 6 Try.func66 (by kernel_rfl) rfl (by kernel_rfl) (by kernel_rfl) rfl ?_
  simp [Try.f66]
  obtain ⟨pre1, pre2, pre3⟩ := hpre
  refine loop_inv (fun p : Nat => p ≤ l.length) (fun p => [(0, .own (0, 0) 3 0 l.length), (1, dI (k + 3 * p)), (5, dI p)]) (fun p => [((0, 0), .arr false 3 yTBid (ML encTBid (mkL mk_TBid 3 k p ++ (l ++ t).drop p)))]) 2 (fun p => l.length - p) 0 100 (by simp) (by simp) (by simp) ?_
  intro p hp
  simp
  have hs : ∀ x, x = mk_TBid (k + 3 * (p : Int)) → p < (l ++ t).length → mkL mk_TBid 3 k p ++ ((l ++ t).drop p).set 0 x = mkL mk_TBid 3 k (p + 1) ++ (l ++ t).drop (p + 1) := fun x hx hlt => mark_step0 hlt hx
  refine ⟨fun hlt => ?_, fun hge => ?_⟩
  · have hlt2 : p < (l ++ t).length := by simp; omega
    repeat' (first | omega | refine And.intro ?_ ?_ | intro _)
    all_goals refine Again.mk (p + 1) (by omega) ?_ (by first | omega | (simp; omega))
    all_goals (rw [hs _ (by simp [mark_get0 hlt2, mark_get hlt2]; first | done | omega) hlt2]; simp; omega)
  have : p = l.length := by omega
  subst this
  simp
  trace_state
theorem c66_ok : c66.ok Try.prog := mkCon_ok fun ⟨l, t, k⟩ hpre => c66_pc l t k hpre
/-- loop.example/g03007/laws.heldBidS -/
noncomputable def c67 : Con := mkCon 67 false (α := (List TBid) × Int) (fun x => (fun (l : List TBid) (k : Int) => [encLTBid l, dI k]) x.1 x.2) (fun _ => []) (fun x => (fun (l : List TBid) (k : Int) => l.length ≤ 1099511627776 ∧ 0 ≤ k ∧ k ≤ 1152921504606846976) x.1 x.2) (fun x => (fun (l : List TBid) (k : Int) => (dI (if l = mkL mk_TBid 3 k l.length then k + 3 * l.length else -1) : D)) x.1 x.2) (fun x => (fun (l : List TBid) (k : Int) => []) x.1 x.2)
@[simp] theorem c67_f : c67.f = 67 := rfl
@[simp] theorem c67_own : c67.own = false := rfl
theorem c67_inj : ∀ u_ v_ : (List TBid) × Int, ((fun x => (fun (l : List TBid) (k : Int) => [encLTBid l, dI k]) x.1 x.2) u_).map nz = ((fun x => (fun (l : List TBid) (k : Int) => [encLTBid l, dI k]) x.1 x.2) v_).map nz → u_ = v_ := by
  intro u_ v_ h
  obtain ⟨l, k⟩ := u_
  obtain ⟨l', k'⟩ := v_
  simp [nz_lit, nz1_lit, nz_agg, nz_sl, nz1_sl, encLTBid] at h
  first | (simp [h]; done) | (obtain ⟨⟩ := h; simp_all; done) | simp_all
@[simp] theorem c67_fn (l : List TBid) (k : Int) : c67.fn [.sl false 3 yTBid (ML encTBid l), .lit (.int .i64 k)] [] = some ((fun (l : List TBid) (k : Int) => l.length ≤ 1099511627776 ∧ 0 ≤ k ∧ k ≤ 1152921504606846976) l k, (fun (l : List TBid) (k : Int) => (dI (if l = mkL mk_TBid 3 k l.length then k + 3 * l.length else -1) : D)) l k, (fun (l : List TBid) (k : Int) => []) l k) :=
  mkCon_fn (fun x y h _ => c67_inj x y h) ((l, k) : (List TBid) × Int) (by simp [nz, nz1, ML_nil, encLTBid]) rfl
@[simp] theorem c67_fn1 (s_l : Nat) (z_l : D) (k : Int) : c67.fn [.sl false s_l z_l [], .lit (.int .i64 k)] [] = some ((fun (l : List TBid) (k : Int) => l.length ≤ 1099511627776 ∧ 0 ≤ k ∧ k ≤ 1152921504606846976) [] k, (fun (l : List TBid) (k : Int) => (dI (if l = mkL mk_TBid 3 k l.length then k + 3 * l.length else -1) : D)) [] k, (fun (l : List TBid) (k : Int) => []) [] k) :=
  mkCon_fn (fun x y h _ => c67_inj x y h) (([], k) : (List TBid) × Int) (by simp [nz, nz1, ML_nil, encLTBid]) rfl
theorem c67_pc (l : List TBid) (k : Int) (hpre : l.length ≤ 1099511627776 ∧ 0 ≤ k ∧ k ≤ 1152921504606846976) : PCo Try.prog 67 [encLTBid l, dI k] (Tab.of []) (dI (if l = mkL mk_TBid 3 k l.length then k + 3 * l.length else -1)) (Tab.of []) := by
  refine pco_of_run [] (E := ⟨[], []⟩) (m := false) (base := 0) Env.ok_nil G_ok mix 300 6 Try.func67 (by kernel_rfl) rfl (by kernel_rfl) (by kernel_rfl) rfl ?_
  simp [Try.f67]
  obtain ⟨pre1, pre2, pre3⟩ := hpre
  refine loop_inv (fun p : Nat => p ≤ l.length ∧ l.take p = (mkL mk_TBid 3 k l.length).take p) (fun p => [(0, encLTBid l), (1, dI (k + 3 * p)), (5, dI p)]) (fun _ => []) 1 (fun p => l.length - p) 0 100 (by simp) (by simp) (by simp) ?_
  intro p ⟨hp, hi⟩
  simp
  refine ⟨fun hlt => ?_, fun hge => ?_⟩
  · have hx := mkL_get (f := mk_TBid) (m := 3) (k := k) (d := default) hlt
    by_cases he : l[p]?.getD default = mk_TBid (k + 3 * (p : Int))
    · generalize hA : Again _ _ _ _ _ _ _ = A
      have hAA : A := by rw [← hA]; exact Again.mk (p + 1) ⟨by omega, take_eq_step hi (by omega) (by simp; omega) (by rw [hx]; exact he)⟩ (by simp; omega) (by first | omega | (simp; omega))
      clear hA
      simp only [he, mk_TBid]
      repeat' (first | exact hAA | omega | refine And.intro ?_ ?_ | intro _)
      all_goals first | (exfalso; exact absurd trivial (by assumption)) | (exfalso; omega)
    · have hne : ¬ l = mkL mk_TBid 3 k l.length := fun e => he (by rw [← hx]; exact congrArg (fun z => z[p]?.getD default) e)
      generalize Again _ _ _ _ _ _ _ = A
      repeat' (first | omega | rfl | refine And.intro ?_ ?_ | intro _)
      all_goals first | (exfalso; apply hne; assumption) | (exfalso; apply he; obtain ⟨x, hq⟩ : ∃ x, l[p]?.getD default = x := ⟨_, rfl⟩; simp only [hq] at *; obtain ⟨x1, x2, x3⟩ := x; simp [mk_TBid] at *; omega)
  · have h4 := take_eq_full hi hge (by simp; omega)
    rw [if_pos h4]; omega
theorem c67_ok : c67.ok Try.prog := mkCon_ok fun ⟨l, k⟩ hpre => c67_pc l k hpre
/-- slices.Clone[[]loop.example/g03007/impl.Bi -/
noncomputable def c135 : Con := mkCon 135 false (α := (List TBid)) (fun x => (fun (l : List TBid) => [encLTBid l]) x) (fun _ => []) (fun x => (fun (l : List TBid) => l.length ≤ 1073741824) x) (fun x => (fun (l : List TBid) => (.own (0, 1) 3 0 l.length : D)) x) (fun x => (fun (l : List TBid) => [((0, 1), .arr false 3 yTBid (ML encTBid l))]) x)
@[simp] theorem c135_f : c135.f = 135 := rfl
@[simp] theorem c135_own : c135.own = false := rfl
theorem c135_inj : ∀ u_ v_ : (List TBid), ((fun x => (fun (l : List TBid) => [encLTBid l]) x) u_).map nz = ((fun x => (fun (l : List TBid) => [encLTBid l]) x) v_).map nz → u_ = v_ := by
  intro u_ v_ h
  obtain l := u_
  obtain l' := v_
  simp [nz_lit, nz1_lit, nz_agg, nz_sl, nz1_sl, encLTBid] at h
  first | (simp [h]; done) | (obtain ⟨⟩ := h; simp_all; done) | simp_all
@[simp] theorem c135_fn (l : List TBid) : c135.fn [.sl false 3 yTBid (ML encTBid l)] [] = some ((fun (l : List TBid) => l.length ≤ 1073741824) l, (fun (l : List TBid) => (.own (0, 1) 3 0 l.length : D)) l, (fun (l : List TBid) => [((0, 1), .arr false 3 yTBid (ML encTBid l))]) l) :=
  mkCon_fn (fun x y h _ => c135_inj x y h) (l : (List TBid)) (by simp [nz, nz1, ML_nil, encLTBid]) rfl
@[simp] theorem c135_fn1 (s_l : Nat) (z_l : D) : c135.fn [.sl false s_l z_l []] [] = some ((fun (l : List TBid) => l.length ≤ 1073741824) [], (fun (l : List TBid) => (.own (0, 1) 3 0 l.length : D)) [], (fun (l : List TBid) => [((0, 1), .arr false 3 yTBid (ML encTBid l))]) []) :=
  mkCon_fn (fun x y h _ => c135_inj x y h) ([] : (List TBid)) (by simp [nz, nz1, ML_nil, encLTBid]) rfl
theorem c135_pc (l : List TBid) (hpre : l.length ≤ 1073741824) : PCo Try.prog 135 [encLTBid l] (Tab.of []) (.own (0, 1) 3 0 l.length) (Tab.of [((0, 1), .arr false 3 yTBid (ML encTBid l))]) := by
  by_cases hl : l = []
  · subst hl
    show PCo Try.prog 135 [.sl false 3 yTBid []] Tab.nil (.own (0, 1) 3 0 0) (Tab.of [((0, 1), .arr false 3 yTBid [])])
    refine pco_slice fun a cap => ?_
    cases a with
    | none =>
      refine pc_ghost (s' := 0) (z' := .any) ?_
      refine pco_of_run [] (tin := []) (E := ⟨[], []⟩) (m := false) (base := 0) Env.ok_nil G_ok mix 300 6 Try.func135 (by kernel_rfl) rfl (by kernel_rfl) (by kernel_rfl) rfl ?_
      simp [Try.f135]
    | some q =>
      refine pco_of_run [] (tin := []) (E := ⟨[], []⟩) (m := false) (base := 0) Env.ok_nil G_ok mix 300 6 Try.func135 (by kernel_rfl) rfl (by kernel_rfl) (by kernel_rfl) rfl ?_
      simp [Try.f135]
  · refine pco_of_run [] (E := ⟨[], []⟩) (m := false) (base := 0) Env.ok_nil G_ok mix 300 6 Try.func135 (by kernel_rfl) rfl (by kernel_rfl) (by kernel_rfl) rfl ?_
    simp [Try.f135, -nilS, nilS_ML hl]
    omega
theorem c135_ok : c135.ok Try.prog := mkCon_ok fun l hpre => c135_pc l hpre
def whoIs (k : Int) (x : TBid) : Bool := decide (x.Who = k)
def whoNot (k : Int) (x : TBid) : Bool := !whoIs k x
def mWithout (l : List TBid) (k : Int) : List TBid := l.filter (whoNot k)
theorem mWithout_len (l : List TBid) (k : Int) : (mWithout l k).length ≤ l.length := List.length_filter_le _ _
theorem filt_at {l : List TBid} {k : Int} {p : Nat} (h : p < l.length) : (l.take (p + 1)).filter (whoNot k) = (l.take p).filter (whoNot k) ++ if (l[p]?.getD default).Who = k then [] else [l[p]?.getD default] := by
  rw [take_at (d := default) h, List.filter_append]
  congr 1
  by_cases hk : (l[p]?.getD default).Who = k <;> simp [List.filter, whoNot, whoIs, hk]
theorem filt_len (l : List TBid) (k : Int) (p : Nat) : ((l.take p).filter (whoNot k)).length ≤ p := by
  refine Nat.le_trans (List.length_filter_le _ _) ?_
  simp; omega
/-- loop.example/g03007/spec.WithoutBid -/
noncomputable def c62 : Con := mkCon 62 false (α := (List TBid) × Int) (fun x => (fun (l : List TBid) (k : Int) => [encLTBid l, dI k]) x.1 x.2) (fun _ => []) (fun x => (fun (l : List TBid) (k : Int) => l.length ≤ 1073741823) x.1 x.2) (fun x => (fun (l : List TBid) (k : Int) => (.own (0, 1) 3 0 (mWithout l k).length : D)) x.1 x.2) (fun x => (fun (l : List TBid) (k : Int) => [((0, 1), .arr false 3 yTBid (ML encTBid (mWithout l k)))]) x.1 x.2)
@[simp] theorem c62_f : c62.f = 62 := rfl
@[simp] theorem c62_own : c62.own = false := rfl
theorem c62_inj : ∀ u_ v_ : (List TBid) × Int, ((fun x => (fun (l : List TBid) (k : Int) => [encLTBid l, dI k]) x.1 x.2) u_).map nz = ((fun x => (fun (l : List TBid) (k : Int) => [encLTBid l, dI k]) x.1 x.2) v_).map nz → u_ = v_ := by
  intro u_ v_ h
  obtain ⟨l, k⟩ := u_
  obtain ⟨l', k'⟩ := v_
  simp [nz_lit, nz1_lit, nz_agg, nz_sl, nz1_sl, encLTBid] at h
  first | (simp [h]; done) | (obtain ⟨⟩ := h; simp_all; done) | simp_all
@[simp] theorem c62_fn (l : List TBid) (k : Int) : c62.fn [.sl false 3 yTBid (ML encTBid l), .lit (.int .i64 k)] [] = some ((fun (l : List TBid) (k : Int) => l.length ≤ 1073741823) l k, (fun (l : List TBid) (k : Int) => (.own (0, 1) 3 0 (mWithout l k).length : D)) l k, (fun (l : List TBid) (k : Int) => [((0, 1), .arr false 3 yTBid (ML encTBid (mWithout l k)))]) l k) :=
  mkCon_fn (fun x y h _ => c62_inj x y h) ((l, k) : (List TBid) × Int) (by simp [nz, nz1, ML_nil, encLTBid]) rfl
@[simp] theorem c62_fn1 (s_l : Nat) (z_l : D) (k : Int) : c62.fn [.sl false s_l z_l [], .lit (.int .i64 k)] [] = some ((fun (l : List TBid) (k : Int) => l.length ≤ 1073741823) [] k, (fun (l : List TBid) (k : Int) => (.own (0, 1) 3 0 (mWithout l k).length : D)) [] k, (fun (l : List TBid) (k : Int) => [((0, 1), .arr false 3 yTBid (ML encTBid (mWithout l k)))]) [] k) :=
  mkCon_fn (fun x y h _ => c62_inj x y h) (([], k) : (List TBid) × Int) (by simp [nz, nz1, ML_nil, encLTBid]) rfl
theorem c62_pc (l : List TBid) (k : Int) (hpre : l.length ≤ 1073741823) : PCo Try.prog 62 [encLTBid l, dI k] (Tab.of []) (.own (0, 1) 3 0 (mWithout l k).length) (Tab.of [((0, 1), .arr false 3 yTBid (ML encTBid (mWithout l k)))]) := by
  refine pco_of_run [] (E := ⟨[], []⟩) (m := false) (base := 0) Env.ok_nil G_ok mix 300 6 Try.func62 (by kernel_rfl) rfl (by kernel_rfl) (by kernel_rfl) rfl ?_
  simp [Try.f62]
  refine loop_inv (fun p : Nat => p ≤ l.length) (fun p => [(0, encLTBid l), (1, dI k), (5, .own (0, 1) 3 0 ((l.take p).filter (whoNot k)).length), (6, dI p)]) (fun p => [((0, 1), .arr false 3 yTBid (ML encTBid ((l.take p).filter (whoNot k))))]) 2 (fun p => l.length - p) 0 400 (by simp) (by simp) (by simp) ?_
  intro p hp
  simp
  refine ⟨fun hlt => ?_, fun hge => ?_⟩
  · have hs := filt_at (k := k) hlt
    have hl := filt_len l k p
    repeat' (first | omega | refine And.intro ?_ ?_ | intro _)
    all_goals first | (rename_i hw; rw [if_pos hw, List.append_nil] at hs; exact Again.mk (p + 1) (by omega) (by simp [hs]) (by first | omega | (simp; omega))) | (rename_i hw; rw [if_neg hw] at hs; exact Again.mk (p + 1) (by omega) (by simp [hs]) (by first | omega | (simp; omega)))
  · rw [List.take_of_length_le hge]; simp [mWithout]
theorem c62_ok : c62.ok Try.prog := mkCon_ok fun ⟨l, k⟩ hpre => c62_pc l k hpre
/-- loop.example/g03007/impl.WithoutBid$1 -/
noncomputable def c136 : Con := mkCon 136 false (α := TBid × Int) (fun x => (fun (x : TBid) (k : Int) => ([encTBid x, .el (dI k)] : List D)) x.1 x.2) (fun x => (fun (x : TBid) (k : Int) => ([] : List (Nm × OO))) x.1 x.2) (fun x => (fun (x : TBid) (k : Int) => True) x.1 x.2) (fun x => (fun (x : TBid) (k : Int) => (dB (whoIs k x) : D)) x.1 x.2) (fun x => (fun (x : TBid) (k : Int) => ([] : List (Nm × OO))) x.1 x.2)
@[simp] theorem c136_f : c136.f = 136 := rfl
@[simp] theorem c136_own : c136.own = false := rfl
theorem c136_inj : ∀ u_ v_ : TBid × Int, ((fun x => (fun (x : TBid) (k : Int) => ([encTBid x, .el (dI k)] : List D)) x.1 x.2) u_).map nz = ((fun x => (fun (x : TBid) (k : Int) => ([encTBid x, .el (dI k)] : List D)) x.1 x.2) v_).map nz → (fun x => (fun (x : TBid) (k : Int) => ([] : List (Nm × OO))) x.1 x.2) u_ = (fun x => (fun (x : TBid) (k : Int) => ([] : List (Nm × OO))) x.1 x.2) v_ → u_ = v_ := by
  intro u_ v_ h h2_
  obtain ⟨⟨x_Who, x_Cents, x_Seal⟩, k⟩ := u_
  obtain ⟨⟨x_Who', x_Cents', x_Seal'⟩, k'⟩ := v_
  simp [nz_lit, nz1_lit, nz_agg, nz_sl, nz1_sl, nz_sx, nz_el, nz1_el, nz_own, nz1_own, nz_ptr, nz_fn, nz_iface] at h h2_
  first | (simp [h, h2_]; done) | (obtain ⟨h3_, h4_⟩ := List.append_inj h2_ h.1; simp_all; done) | simp_all | grind
@[simp] theorem c136_fn (x_Who : Int) (x_Cents : Int) (x_Seal : Int) (k : Int) : c136.fn ([.agg [.lit (.int .i64 x_Who), .lit (.int .i64 x_Cents), .lit (.int .i64 x_Seal)], .el (dI k)]) ([]) = some (True, dB (whoIs k (⟨x_Who, x_Cents, x_Seal⟩ : TBid)), []) :=
  mkCon_fn c136_inj ((⟨x_Who, x_Cents, x_Seal⟩, k) : TBid × Int) rfl rfl
theorem c136_pc (x : TBid) (k : Int) : PCo Try.prog 136 ([encTBid x, .el (dI k)]) (Tab.of ([])) (dB (whoIs k x)) (Tab.of ([])) := by
  refine pco_of_run [] (E := ⟨[], []⟩) (m := false) (base := 0) Env.ok_nil G_ok mix 300 6 Try.func136 (by kernel_rfl) rfl (by kernel_rfl) (by kernel_rfl) rfl ?_
  simp [Try.f136]
  first | done | rfl
theorem c136_ok : c136.ok Try.prog := mkCon_ok fun ⟨x, k⟩ hpre => c136_pc x k
/-- slices.IndexFunc[[]loop.example/g03007/impl.Bi -/
noncomputable def c204 : Con := mkCon 204 false (α := (List TBid) × Int) (fun x => (fun (l : List TBid) (k : Int) => ([encLTBid l, .fn (.func 136) [] [.el (dI k)]] : List D)) x.1 x.2) (fun x => (fun (l : List TBid) (k : Int) => ([] : List (Nm × OO))) x.1 x.2) (fun x => (fun (l : List TBid) (k : Int) => l.length ≤ 1099511627776) x.1 x.2) (fun x => (fun (l : List TBid) (k : Int) => (dI (indexBy (whoIs k) 0 l) : D)) x.1 x.2) (fun x => (fun (l : List TBid) (k : Int) => ([] : List (Nm × OO))) x.1 x.2)
@[simp] theorem c204_f : c204.f = 204 := rfl
@[simp] theorem c204_own : c204.own = false := rfl
theorem c204_inj : ∀ u_ v_ : (List TBid) × Int, ((fun x => (fun (l : List TBid) (k : Int) => ([encLTBid l, .fn (.func 136) [] [.el (dI k)]] : List D)) x.1 x.2) u_).map nz = ((fun x => (fun (l : List TBid) (k : Int) => ([encLTBid l, .fn (.func 136) [] [.el (dI k)]] : List D)) x.1 x.2) v_).map nz → (fun x => (fun (l : List TBid) (k : Int) => ([] : List (Nm × OO))) x.1 x.2) u_ = (fun x => (fun (l : List TBid) (k : Int) => ([] : List (Nm × OO))) x.1 x.2) v_ → u_ = v_ := by
  intro u_ v_ h h2_
  obtain ⟨l, k⟩ := u_
  obtain ⟨l', k'⟩ := v_
  simp [nz_lit, nz1_lit, nz_agg, nz_sl, nz1_sl, nz_sx, nz_el, nz1_el, nz_own, nz1_own, nz_ptr, nz_fn, nz_iface] at h h2_
  first | (simp [h, h2_]; done) | (obtain ⟨h3_, h4_⟩ := List.append_inj h2_ h.1; simp_all; done) | simp_all | grind
@[simp] theorem c204_fn (l : List TBid) (k : Int) : c204.fn ([(.sl false 3 yTBid (ML encTBid l)), .fn (.func 136) [] [.el (dI k)]]) ([]) = some (l.length ≤ 1099511627776, dI (indexBy (whoIs k) 0 l), []) :=
  mkCon_fn c204_inj ((l, k) : (List TBid) × Int) rfl rfl
theorem c204_pc (l : List TBid) (k : Int) (hpre : l.length ≤ 1099511627776) : PCo Try.prog 204 ([encLTBid l, .fn (.func 136) [] [.el (dI k)]]) (Tab.of ([])) (dI (indexBy (whoIs k) 0 l)) (Tab.of ([])) := by
  refine pco_of_run [] (E := ⟨[c136], []⟩) (m := false) (base := 0) (Env.ok_cons c136_ok Env.ok_nil) G_ok mix 300 6 Try.func204 (by kernel_rfl) rfl (by kernel_rfl) (by kernel_rfl) rfl ?_
  simp [Try.f204]
  refine loop_inv (fun p : Nat => p ≤ l.length ∧ indexBy (whoIs k) 0 l = indexBy (whoIs k) p (l.drop p)) (fun p => [(0, encLTBid l), (1, .fn (.func 136) [] [.el (dI k)]), (7, dI l.length), (8, dI p)]) (fun _ => []) 1 (fun p => l.length - p) 0 400 (by simp) (by simp) (by simp) ?_
  intro p ⟨hp, hi⟩
  simp
  refine ⟨fun hlt => ?_, fun hge => ?_⟩
  · rw [indexBy_at (d := default) hlt] at hi
    repeat' (first | omega | refine And.intro ?_ ?_ | intro _)
    all_goals first | exact Again.mk (p + 1) ⟨by omega, by rw [hi]; grind⟩ (by simp) (by first | omega | (simp; omega)) | (rw [hi]; grind)
  · rw [hi, indexBy_end hge]
theorem c204_ok : c204.ok Try.prog := mkCon_ok fun ⟨l, k⟩ hpre => c204_pc l k hpre
theorem preL_app {α : Type} (l t : List α) : preL l.length (l ++ t) = l := by simp [preL]
attribute [simp] preL_app
def tailD (l : List TBid) (k : Int) : List TBid := List.replicate (l.length - (mWithout l k).length) default
theorem view_app {α : Type} (A T : List α) : (if A.length = A.length + T.length then A ++ T else A) = A := by
  split
  · rename_i h
    have : T = [] := by apply List.eq_nil_of_length_eq_zero; omega
    simp [this]
  · rfl
theorem view_app2 {α : Type} (A T : List α) [Decidable (T = [])] : (if T = [] then A ++ T else A) = A := by
  split
  · rename_i h; simp [h]
  · rfl
attribute [simp] view_app view_app2
theorem indexBy_spec {α : Type} {w : α → Bool} {d : α} : ∀ (l : List α) (i : Int), 0 ≤ i → (indexBy w i l = -1 ∧ ∀ x ∈ l, w x = false) ∨ ∃ n : Nat, n < l.length ∧ indexBy w i l = i + n ∧ (∀ x ∈ l.take n, w x = false) ∧ w (l[n]?.getD d) = true
  | [], i, _ => .inl ⟨rfl, by simp⟩
  | x :: l, i, hi => by
    simp only [indexBy]
    by_cases h : w x = true
    · right; exact ⟨0, by simp, by simp [h], by simp, by simpa using h⟩
    · rw [if_neg h]
      rcases indexBy_spec (w := w) (d := d) l (i + 1) (by omega) with ⟨h1, h2⟩ | ⟨n, h1, h2, h3, h4⟩
      · left
        refine ⟨h1, fun y hy => ?_⟩
        rcases List.mem_cons.1 hy with rfl | hy
        · simpa using h
        · exact h2 y hy
      · right
        refine ⟨n + 1, by simp; omega, by rw [h2]; push_cast; omega, fun y hy => ?_, by simpa using h4⟩
        rw [List.take_succ_cons] at hy
        rcases List.mem_cons.1 hy with rfl | hy
        · simpa using h
        · exact h3 y hy
theorem filt_all {l : List TBid} {k : Int} (h : ∀ x ∈ l, whoIs k x = false) : l.filter (whoNot k) = l := by
  rw [List.filter_eq_self]; intro x hx; simp [whoNot, h x hx]
def rowD (l : List TBid) (k : Int) (q : Nat × List TBid) : List TBid := (l.take q.1).filter (whoNot k) ++ (q.2 ++ l.drop q.1)
theorem rowD_get {l : List TBid} {k : Int} {p : Nat} {M : List TBid} (h : ((l.take p).filter (whoNot k)).length + M.length = p) : (rowD l k (p, M))[p]?.getD default = l[p]?.getD default := by
  simp only [rowD]
  rw [List.getElem?_append_right (by omega), List.getElem?_append_right (by omega)]
  have : p - ((l.take p).filter (whoNot k)).length - M.length = 0 := by omega
  rw [this]; simp
theorem rowD_len {l : List TBid} {k : Int} {p : Nat} {M : List TBid} (h : ((l.take p).filter (whoNot k)).length + M.length = p) (hp : p ≤ l.length) : (rowD l k (p, M)).length = l.length := by
  simp [rowD]; omega
theorem rowD_set {l : List TBid} {k : Int} {p : Nat} {M : List TBid} (hM : 0 < M.length) (hp : p < l.length) (hw : ¬ (l[p]?.getD default).Who = k) : (rowD l k (p, M)).set ((l.take p).filter (whoNot k)).length (l[p]?.getD default) = rowD l k (p + 1, M.tail ++ [l[p]?.getD default]) := by
  simp only [rowD]
  rw [List.set_append_right _ _ (Nat.le_refl _), Nat.sub_self, filt_at hp, if_neg hw]
  cases M with
  | nil => simp at hM
  | cons m M => simp [drop_at (d := default) hp]
theorem rowD_stay {l : List TBid} {k : Int} {p : Nat} {M : List TBid} (hp : p < l.length) (hw : (l[p]?.getD default).Who = k) : rowD l k (p, M) = rowD l k (p + 1, M ++ [l[p]?.getD default]) := by
  simp only [rowD]
  rw [filt_at hp, if_pos hw, drop_at (d := default) hp]; simp
theorem rowD_end {l : List TBid} {k : Int} {M : List TBid} : rowD l k (l.length, M) = mWithout l k ++ M := by simp [rowD, mWithout]
/-- slices.DeleteFunc[[]loop.example/g03007/impl.Bi -/
noncomputable def c134 : Con := mkCon 134 true (α := (List TBid) × Int) (fun x => (fun (l : List TBid) (k : Int) => ([.own (0, 0) 3 0 l.length, .fn (.func 136) [] [.ptr (1, 0) 0]] : List D)) x.1 x.2) (fun x => (fun (l : List TBid) (k : Int) => ([((0, 0), .arr false 3 yTBid (ML encTBid l)), ((1, 0), .box (dI k))] : List (Nm × OO))) x.1 x.2) (fun x => (fun (l : List TBid) (k : Int) => l.length ≤ 1099511627776) x.1 x.2) (fun x => (fun (l : List TBid) (k : Int) => (.own (0, 0) 3 0 (mWithout l k).length : D)) x.1 x.2) (fun x => (fun (l : List TBid) (k : Int) => ([((0, 0), .arr false 3 yTBid (ML encTBid (mWithout l k ++ tailD l k))), ((1, 0), .box (dI k))] : List (Nm × OO))) x.1 x.2)
@[simp] theorem c134_f : c134.f = 134 := rfl
@[simp] theorem c134_own : c134.own = true := rfl
theorem c134_inj : ∀ u_ v_ : (List TBid) × Int, ((fun x => (fun (l : List TBid) (k : Int) => ([.own (0, 0) 3 0 l.length, .fn (.func 136) [] [.ptr (1, 0) 0]] : List D)) x.1 x.2) u_).map nz = ((fun x => (fun (l : List TBid) (k : Int) => ([.own (0, 0) 3 0 l.length, .fn (.func 136) [] [.ptr (1, 0) 0]] : List D)) x.1 x.2) v_).map nz → (fun x => (fun (l : List TBid) (k : Int) => ([((0, 0), .arr false 3 yTBid (ML encTBid l)), ((1, 0), .box (dI k))] : List (Nm × OO))) x.1 x.2) u_ = (fun x => (fun (l : List TBid) (k : Int) => ([((0, 0), .arr false 3 yTBid (ML encTBid l)), ((1, 0), .box (dI k))] : List (Nm × OO))) x.1 x.2) v_ → u_ = v_ := by
  intro u_ v_ h h2_
  obtain ⟨l, k⟩ := u_
  obtain ⟨l', k'⟩ := v_
  simp [nz_lit, nz1_lit, nz_agg, nz_sl, nz1_sl, nz_sx, nz_el, nz1_el, nz_own, nz1_own, nz_ptr, nz_fn, nz_iface] at h h2_
  first | (simp [h, h2_]; done) | (obtain ⟨h3_, h4_⟩ := List.append_inj h2_ h.1; simp_all; done) | simp_all | grind
@[simp] theorem c134_fn (l : List TBid) (k : Int) : c134.fn ([.own (0, 0) 3 0 l.length, .fn (.func 136) [] [.ptr (1, 0) 0]]) ([((0, 0), .arr false 3 yTBid (ML encTBid l)), ((1, 0), .box (dI k))]) = some (l.length ≤ 1099511627776, .own (0, 0) 3 0 (mWithout l k).length, [((0, 0), .arr false 3 yTBid (ML encTBid (mWithout l k ++ tailD l k))), ((1, 0), .box (dI k))]) :=
  mkCon_fn c134_inj ((l, k) : (List TBid) × Int) rfl rfl
theorem c134_pc (l : List TBid) (k : Int) (hpre : l.length ≤ 1099511627776) : PCo Try.prog 134 ([.own (0, 0) 3 0 l.length, .fn (.func 136) [] [.ptr (1, 0) 0]]) (Tab.of ([((0, 0), .arr false 3 yTBid (ML encTBid l)), ((1, 0), .box (dI k))])) (.own (0, 0) 3 0 (mWithout l k).length) (Tab.of ([((0, 0), .arr false 3 yTBid (ML encTBid (mWithout l k ++ tailD l k))), ((1, 0), .box (dI k))])) := by
  refine pco_of_run [] (E := ⟨[c204, c136], []⟩) (m := false) (base := 0) (Env.ok_cons c204_ok (Env.ok_cons c136_ok Env.ok_nil)) G_ok mix 300 6 Try.func134 (by kernel_rfl) rfl (by kernel_rfl) (by kernel_rfl) rfl ?_
  simp [Try.f134]
  rcases indexBy_spec (w := whoIs k) (d := default) l 0 (by omega) with ⟨h1, h2⟩ | ⟨n, h1, h2, h3, h4⟩
  · have hf : mWithout l k = l := filt_all h2
    refine ⟨hpre, fun _ => ?_, fun h => absurd h1 h⟩
    simp [tailD, hf]
  have h2' : indexBy (whoIs k) 0 l = n := by omega
  simp only [h2']
  refine ⟨hpre, fun h => by omega, fun _ => ⟨by omega, ?_⟩⟩
  have hA : (l.take n).filter (whoNot k) = l.take n := filt_all h3
  have hA2 : (l.take (n + 1)).filter (whoNot k) = l.take n := by
    rw [filt_at h1, if_pos (by simpa [whoIs] using h4), hA, List.append_nil]
  have hR : l = rowD l k (n + 1, [l[n]?.getD default]) := by
    simp only [rowD, hA2]
    have := drop_at (d := default) h1
    rw [← List.append_assoc]
    conv => lhs; rw [← List.take_append_drop n l, this]
    simp
  have hn : min n l.length = n := by omega
  refine loop_inv (fun q : Nat × List TBid => q.1 ≤ l.length ∧ ((l.take q.1).filter (whoNot k)).length + q.2.length = q.1 ∧ 0 < q.2.length) (fun q => [(0, .own (0, 0) 3 0 l.length), (1, .fn (.func 136) [] [.ptr (1, 0) 0]), (5, dI ((l.take q.1).filter (whoNot k)).length), (6, dI q.1)]) (fun q => [((0, 0), .arr false 3 yTBid (ML encTBid (rowD l k q))), ((1, 0), .box (dI k))]) 2 (fun q => l.length - q.1) (n + 1, [l[n]?.getD default]) 400 (by simp) (by simp [hA2]; omega) (by simp [hA2, ← hR, hn]) ?_
  intro ⟨p, M⟩ ⟨hp, hM, hM0⟩
  simp only at hp hM hM0
  have hl := rowD_len hM hp
  simp [hl]
  refine ⟨fun hlt => ?_, fun hge => ?_⟩
  · simp only [rowD_get hM]
    have hA3 := filt_at (k := k) hlt
    refine ⟨hlt, fun hw => ?_, fun hw => ?_⟩
    · have hw2 : ¬ (l[p]?.getD default).Who = k := by simpa [whoIs] using hw
      rw [if_neg hw2] at hA3
      have hs := rowD_set hM0 hlt hw2
      repeat' (first | omega | refine And.intro ?_ ?_ | intro _)
      refine Again.mk (p + 1, M.tail ++ [l[p]?.getD default]) ⟨by simp; omega, by simp [hA3]; omega, by simp⟩ ?_ (by first | omega | (simp; omega))
      simp [hA3, hs]
    · have hw2 : (l[p]?.getD default).Who = k := by simpa [whoIs] using hw
      rw [if_pos hw2, List.append_nil] at hA3
      have hs := rowD_stay (M := M) hlt hw2
      repeat' (first | omega | refine And.intro ?_ ?_ | intro _)
      refine Again.mk (p + 1, M ++ [l[p]?.getD default]) ⟨by simp; omega, by simp [hA3]; omega, by simp⟩ ?_ (by first | omega | (simp; omega))
      simp [hA3, ← hs]
  · have : p = l.length := by omega
    subst this
    simp only [rowD_end]
    have hA4 : (l.take l.length).filter (whoNot k) = mWithout l k := by rw [List.take_length]; rfl
    have hml := mWithout_len l k
    simp only [hA4] at hM ⊢
    refine ⟨⟨by omega, by omega⟩, by omega, trivial, ?_⟩
    rw [List.take_left' rfl, List.drop_of_length_le (by simp; omega), List.append_nil]; rfl
theorem c134_ok : c134.ok Try.prog := mkCon_ok fun ⟨l, k⟩ hpre => c134_pc l k hpre
/-- loop.example/g03007/impl.WithoutBid -/
noncomputable def c64 : Con := mkCon 64 false (α := (List TBid) × Int) (fun x => (fun (l : List TBid) (k : Int) => [encLTBid l, dI k]) x.1 x.2) (fun _ => []) (fun x => (fun (l : List TBid) (k : Int) => l.length ≤ 1073741823) x.1 x.2) (fun x => (fun (l : List TBid) (k : Int) => (.own (0, 1) 3 0 (mWithout l k).length : D)) x.1 x.2) (fun x => (fun (l : List TBid) (k : Int) => [((0, 1), .arr false 3 yTBid (ML encTBid (mWithout l k ++ tailD l k)))]) x.1 x.2)
@[simp] theorem c64_f : c64.f = 64 := rfl
@[simp] theorem c64_own : c64.own = false := rfl
theorem c64_inj : ∀ u_ v_ : (List TBid) × Int, ((fun x => (fun (l : List TBid) (k : Int) => [encLTBid l, dI k]) x.1 x.2) u_).map nz = ((fun x => (fun (l : List TBid) (k : Int) => [encLTBid l, dI k]) x.1 x.2) v_).map nz → u_ = v_ := by
  intro u_ v_ h
  obtain ⟨l, k⟩ := u_
  obtain ⟨l', k'⟩ := v_
  simp [nz_lit, nz1_lit, nz_agg, nz_sl, nz1_sl, encLTBid] at h
  first | (simp [h]; done) | (obtain ⟨⟩ := h; simp_all; done) | simp_all
@[simp] theorem c64_fn (l : List TBid) (k : Int) : c64.fn [.sl false 3 yTBid (ML encTBid l), .lit (.int .i64 k)] [] = some ((fun (l : List TBid) (k : Int) => l.length ≤ 1073741823) l k, (fun (l : List TBid) (k : Int) => (.own (0, 1) 3 0 (mWithout l k).length : D)) l k, (fun (l : List TBid) (k : Int) => [((0, 1), .arr false 3 yTBid (ML encTBid (mWithout l k ++ tailD l k)))]) l k) :=
  mkCon_fn (fun x y h _ => c64_inj x y h) ((l, k) : (List TBid) × Int) (by simp [nz, nz1, ML_nil, encLTBid]) rfl
@[simp] theorem c64_fn1 (s_l : Nat) (z_l : D) (k : Int) : c64.fn [.sl false s_l z_l [], .lit (.int .i64 k)] [] = some ((fun (l : List TBid) (k : Int) => l.length ≤ 1073741823) [] k, (fun (l : List TBid) (k : Int) => (.own (0, 1) 3 0 (mWithout l k).length : D)) [] k, (fun (l : List TBid) (k : Int) => [((0, 1), .arr false 3 yTBid (ML encTBid (mWithout l k ++ tailD l k)))]) [] k) :=
  mkCon_fn (fun x y h _ => c64_inj x y h) (([], k) : (List TBid) × Int) (by simp [nz, nz1, ML_nil, encLTBid]) rfl
theorem c64_pc (l : List TBid) (k : Int) (hpre : l.length ≤ 1073741823) : PCo Try.prog 64 [encLTBid l, dI k] (Tab.of []) (.own (0, 1) 3 0 (mWithout l k).length) (Tab.of [((0, 1), .arr false 3 yTBid (ML encTBid (mWithout l k ++ tailD l k)))]) := by
  refine pco_of_run [] (E := ⟨[c134, c135, c136], []⟩) (m := false) (base := 0) (Env.ok_cons c134_ok (Env.ok_cons c135_ok (Env.ok_cons c136_ok Env.ok_nil))) G_ok mix 300 6 Try.func64 (by kernel_rfl) rfl (by kernel_rfl) (by kernel_rfl) rfl ?_
  simp [Try.f64]
  omega
theorem c64_ok : c64.ok Try.prog := mkCon_ok fun ⟨l, k⟩ hpre => c64_pc l k hpre
@[simp] theorem markB_nil (l : List TBid) (k : Int) : c66.fn [.own (0, 0) 3 0 l.length, dI k] [((0, 0), .arr false 3 yTBid (ML encTBid l))] = some (l.length ≤ 1099511627776 ∧ 0 ≤ k ∧ k ≤ 1152921504606846976, dI (k + 3 * l.length), [((0, 0), .arr false 3 yTBid (ML encTBid (mkL mk_TBid 3 k l.length)))]) := by
  have h := c66_fn (l := l) (t := []) (k := k)
  simpa using h

end Go.Proofs.YtmhbciaolpamaaaR
