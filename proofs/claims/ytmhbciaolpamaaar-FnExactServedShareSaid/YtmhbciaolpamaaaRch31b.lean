/- Contracts of the functions that the laws run. -/
import Derived.Test.YtmhbciaolpamaaaRch31
import Derived.Test.YtmhbciaolpamaaaRgen
import Derived.Test.YtmhbciaolpamaaaREngB
namespace Go.Proofs.YtmhbciaolpamaaaR
open Go Go.Eng
set_option linter.unusedSimpArgs false
set_option linter.unusedVariables false
set_option maxRecDepth 10000
set_option maxHeartbeats 1000000
theorem szSec_le (r : TSecret) (q : Int) (h : 0 ≤ szSec r q) : szSec r q ≤ q := by
  simp only [szSec] at h ⊢; split at h <;> rename_i h2
  · omega
  · rw [if_neg h2]; omega
/-- loop.example/g03007/laws.szSecretS -/
noncomputable def c83 : Con := mkCon 83 false (α := (List TSecret) × Int) (fun x => (fun (l : List TSecret) (left : Int) => [encLTSecret l, dI left]) x.1 x.2) (fun _ => []) (fun x => (fun (l : List TSecret) (left : Int) => l.length ≤ maxLen ∧ (∀ x ∈ l, smSM x) ∧ 0 ≤ left ∧ left ≤ 1099511627776) x.1 x.2) (fun x => (fun (l : List TSecret) (left : Int) => (dI (szDeep szSec l left) : D)) x.1 x.2) (fun x => (fun (l : List TSecret) (left : Int) => []) x.1 x.2)
@[simp] theorem c83_f : c83.f = 83 := rfl
@[simp] theorem c83_own : c83.own = false := rfl
theorem c83_inj : ∀ u_ v_ : (List TSecret) × Int, ((fun x => (fun (l : List TSecret) (left : Int) => [encLTSecret l, dI left]) x.1 x.2) u_).map nz = ((fun x => (fun (l : List TSecret) (left : Int) => [encLTSecret l, dI left]) x.1 x.2) v_).map nz → u_ = v_ := by
  intro u_ v_ h
  obtain ⟨l, left⟩ := u_
  obtain ⟨l', left'⟩ := v_
  simp [nz_lit, nz1_lit, nz_agg, nz_sl, nz1_sl, encLTSecret] at h
  first | (simp [h]; done) | (obtain ⟨⟩ := h; simp_all; done) | simp_all
@[simp] theorem c83_fn (l : List TSecret) (left : Int) : c83.fn [.sl false 3 yTSecret (ML encTSecret l), .lit (.int .i64 left)] [] = some ((fun (l : List TSecret) (left : Int) => l.length ≤ maxLen ∧ (∀ x ∈ l, smSM x) ∧ 0 ≤ left ∧ left ≤ 1099511627776) l left, (fun (l : List TSecret) (left : Int) => (dI (szDeep szSec l left) : D)) l left, (fun (l : List TSecret) (left : Int) => []) l left) :=
  mkCon_fn (fun x y h _ => c83_inj x y h) ((l, left) : (List TSecret) × Int) (by simp [nz, nz1, ML_nil, encLTSecret]) rfl
@[simp] theorem c83_fn1 (s_l : Nat) (z_l : D) (left : Int) : c83.fn [.sl false s_l z_l [], .lit (.int .i64 left)] [] = some ((fun (l : List TSecret) (left : Int) => l.length ≤ maxLen ∧ (∀ x ∈ l, smSM x) ∧ 0 ≤ left ∧ left ≤ 1099511627776) [] left, (fun (l : List TSecret) (left : Int) => (dI (szDeep szSec l left) : D)) [] left, (fun (l : List TSecret) (left : Int) => []) [] left) :=
  mkCon_fn (fun x y h _ => c83_inj x y h) (([], left) : (List TSecret) × Int) (by simp [nz, nz1, ML_nil, encLTSecret]) rfl
theorem c83_pc (l : List TSecret) (left : Int) (hpre : l.length ≤ maxLen ∧ (∀ x ∈ l, smSM x) ∧ 0 ≤ left ∧ left ≤ 1099511627776) : PCo Try.prog 83 [encLTSecret l, dI left] (Tab.of []) (dI (szDeep szSec l left)) (Tab.of []) := by
  refine pco_of_run [] (E := ⟨[c147], []⟩) (m := false) (base := 0) (Env.ok_cons c147_ok Env.ok_nil) G_ok mix 300 6 Try.func83 (by kernel_rfl) rfl (by kernel_rfl) (by kernel_rfl) rfl ?_
  simp [Try.f83]
  obtain ⟨hp1, hp2, hp3, hp4⟩ := hpre
  simp [maxLen] at hp1
  refine ⟨by omega, fun h => ?_, fun hn => ?_⟩
  · rw [szDeep, if_pos h]
  have hd : szDeep szSec l left = szRun szSec (left - l.length) l := by rw [szDeep, if_neg (by omega)]
  refine loop_inv (fun p : Nat × Int => p.1 ≤ l.length ∧ 0 ≤ p.2 ∧ p.2 ≤ left ∧ szDeep szSec l left = szRun szSec p.2 (l.drop p.1)) (fun p => [(0, encLTSecret l), (1, dI p.2), (5, dI p.1)]) (fun _ => []) 1 (fun p => l.length - p.1) (0, left - l.length) 400 (by simp) (by simp [hd]; omega) (by simp) ?_
  intro ⟨p, q⟩ ⟨hp, hq1, hq2, hi⟩
  simp at hp hq1 hq2 hi ⊢
  refine ⟨fun hlt => ?_, fun hge => ?_⟩
  · rw [szRun_at (d := default) hlt] at hi
    have hx := hp2 _ (getD_mem (d := default) hlt)
    simp at hx
    have hle := szSec_le (l[p]?.getD default) q
    refine ⟨⟨hlt, hx, hq1, by omega⟩, fun h => by rw [hi, if_pos h], fun h => ⟨by omega, ?_⟩⟩
    rw [if_neg (by omega)] at hi
    exact Again.mk (p + 1, szSec (l[p]?.getD default) q) ⟨by simp; omega, by simp; omega, by have := hle (by omega); simp; omega, by simpa using hi⟩ (by simp) (by first | omega | (simp; omega))
  · rw [hi, szRun_end hge]
theorem c83_ok : c83.ok Try.prog := mkCon_ok fun ⟨l, left⟩ hpre => c83_pc l left hpre
/-- loop.example/g03007/laws.toSecretS -/
noncomputable def c85 : Con := mkCon 85 false (α := (List TSecret)) (fun x => (fun (l : List TSecret) => [encLTSecret l]) x) (fun _ => []) (fun x => (fun (l : List TSecret) => l.length ≤ 1099511627776 ∧ ∀ x ∈ l, smS x) x) (fun x => (fun (l : List TSecret) => (encLTSecret l : D)) x) (fun x => (fun (l : List TSecret) => []) x)
@[simp] theorem c85_f : c85.f = 85 := rfl
@[simp] theorem c85_own : c85.own = false := rfl
theorem c85_inj : ∀ u_ v_ : (List TSecret), ((fun x => (fun (l : List TSecret) => [encLTSecret l]) x) u_).map nz = ((fun x => (fun (l : List TSecret) => [encLTSecret l]) x) v_).map nz → u_ = v_ := by
  intro u_ v_ h
  obtain l := u_
  obtain l' := v_
  simp [nz_lit, nz1_lit, nz_agg, nz_sl, nz1_sl, encLTSecret] at h
  first | (simp [h]; done) | (obtain ⟨⟩ := h; simp_all; done) | simp_all
@[simp] theorem c85_fn (l : List TSecret) : c85.fn [.sl false 3 yTSecret (ML encTSecret l)] [] = some ((fun (l : List TSecret) => l.length ≤ 1099511627776 ∧ ∀ x ∈ l, smS x) l, (fun (l : List TSecret) => (encLTSecret l : D)) l, (fun (l : List TSecret) => []) l) :=
  mkCon_fn (fun x y h _ => c85_inj x y h) (l : (List TSecret)) (by simp [nz, nz1, ML_nil, encLTSecret]) rfl
@[simp] theorem c85_fn1 (s_l : Nat) (z_l : D) : c85.fn [.sl false s_l z_l []] [] = some ((fun (l : List TSecret) => l.length ≤ 1099511627776 ∧ ∀ x ∈ l, smS x) [], (fun (l : List TSecret) => (encLTSecret l : D)) [], (fun (l : List TSecret) => []) []) :=
  mkCon_fn (fun x y h _ => c85_inj x y h) ([] : (List TSecret)) (by simp [nz, nz1, ML_nil, encLTSecret]) rfl
theorem c85_pc (l : List TSecret) (hpre : l.length ≤ 1099511627776 ∧ ∀ x ∈ l, smS x) : PCo Try.prog 85 [encLTSecret l] (Tab.of []) (encLTSecret l) (Tab.of []) := by
  refine pco_of_run [] (E := ⟨[c149], []⟩) (m := false) (base := 0) (Env.ok_cons c149_ok Env.ok_nil) G_ok mix 300 6 Try.func85 (by kernel_rfl) rfl (by kernel_rfl) (by kernel_rfl) rfl ?_
  simp [Try.f85]
  obtain ⟨hp1, hp2⟩ := hpre
  refine ⟨by omega, ?_⟩
  refine loop_inv (fun p : Nat => p ≤ l.length) (fun p => [(0, encLTSecret l), (3, .own (0, 1) 3 0 l.length), (4, dI p)]) (fun p => [((0, 1), .arr false 3 (.agg [dI 0, .sl true 0 .any [], dI 0]) (ML encTSecret (l.take p) ++ List.replicate (l.length - p) (.agg [dI 0, .sl true 0 .any [], dI 0])))]) 2 (fun p => l.length - p) 0 400 (by simp) (by simp) (by simp) ?_
  intro p hp
  by_cases hlt : p < l.length
  · have hx := hp2 _ (getD_mem (d := default) hlt)
    simp at hx
    have hg := fillZ (e := encTSecret) (z := (.agg [dI 0, .sl true 0 .any [], dI 0])) (d := (.agg [dI 0, .sl true 0 .any [], dI 0])) hlt
    have hs := fillS (e := encTSecret) (z := (.agg [dI 0, .sl true 0 .any [], dI 0])) (d := default) hlt rfl
    simp at hs
    simp [hg]
    refine ⟨fun _ => ?_, fun h => absurd hlt (by omega)⟩
    repeat' (first | exact hx | omega | refine And.intro ?_ ?_ | intro _)
    refine Again.mk (p + 1) (by omega) ?_ (by first | omega | (simp; omega))
    simp [hs]
  · have : p = l.length := by omega
    subst this; simp
theorem c85_ok : c85.ok Try.prog := mkCon_ok fun l hpre => c85_pc l hpre
/-- loop.example/g03007/laws.eqSecretS -/
noncomputable def c87 : Con := mkCon 87 false (α := (List TSecret) × (List TSecret)) (fun x => (fun (a : List TSecret) (b : List TSecret) => [encLTSecret a, encLTSecret b]) x.1 x.2) (fun _ => []) (fun x => (fun (a : List TSecret) (b : List TSecret) => a.length ≤ 1099511627776 ∧ b.length ≤ 1099511627776 ∧ (∀ x ∈ a, smS x) ∧ ∀ x ∈ b, smS x) x.1 x.2) (fun x => (fun (a : List TSecret) (b : List TSecret) => (dB (decide (a = b)) : D)) x.1 x.2) (fun x => (fun (a : List TSecret) (b : List TSecret) => []) x.1 x.2)
@[simp] theorem c87_f : c87.f = 87 := rfl
@[simp] theorem c87_own : c87.own = false := rfl
theorem c87_inj : ∀ u_ v_ : (List TSecret) × (List TSecret), ((fun x => (fun (a : List TSecret) (b : List TSecret) => [encLTSecret a, encLTSecret b]) x.1 x.2) u_).map nz = ((fun x => (fun (a : List TSecret) (b : List TSecret) => [encLTSecret a, encLTSecret b]) x.1 x.2) v_).map nz → u_ = v_ := by
  intro u_ v_ h
  obtain ⟨a, b⟩ := u_
  obtain ⟨a', b'⟩ := v_
  simp [nz_lit, nz1_lit, nz_agg, nz_sl, nz1_sl, encLTSecret] at h
  first | (simp [h]; done) | (obtain ⟨⟩ := h; simp_all; done) | simp_all
@[simp] theorem c87_fn (a : List TSecret) (b : List TSecret) : c87.fn [.sl false 3 yTSecret (ML encTSecret a), .sl false 3 yTSecret (ML encTSecret b)] [] = some ((fun (a : List TSecret) (b : List TSecret) => a.length ≤ 1099511627776 ∧ b.length ≤ 1099511627776 ∧ (∀ x ∈ a, smS x) ∧ ∀ x ∈ b, smS x) a b, (fun (a : List TSecret) (b : List TSecret) => (dB (decide (a = b)) : D)) a b, (fun (a : List TSecret) (b : List TSecret) => []) a b) :=
  mkCon_fn (fun x y h _ => c87_inj x y h) ((a, b) : (List TSecret) × (List TSecret)) (by simp [nz, nz1, ML_nil, encLTSecret]) rfl
@[simp] theorem c87_fn1 (s_a : Nat) (z_a : D) (b : List TSecret) : c87.fn [.sl false s_a z_a [], .sl false 3 yTSecret (ML encTSecret b)] [] = some ((fun (a : List TSecret) (b : List TSecret) => a.length ≤ 1099511627776 ∧ b.length ≤ 1099511627776 ∧ (∀ x ∈ a, smS x) ∧ ∀ x ∈ b, smS x) [] b, (fun (a : List TSecret) (b : List TSecret) => (dB (decide (a = b)) : D)) [] b, (fun (a : List TSecret) (b : List TSecret) => []) [] b) :=
  mkCon_fn (fun x y h _ => c87_inj x y h) (([], b) : (List TSecret) × (List TSecret)) (by simp [nz, nz1, ML_nil, encLTSecret]) rfl
@[simp] theorem c87_fn2 (a : List TSecret) (s_b : Nat) (z_b : D) : c87.fn [.sl false 3 yTSecret (ML encTSecret a), .sl false s_b z_b []] [] = some ((fun (a : List TSecret) (b : List TSecret) => a.length ≤ 1099511627776 ∧ b.length ≤ 1099511627776 ∧ (∀ x ∈ a, smS x) ∧ ∀ x ∈ b, smS x) a [], (fun (a : List TSecret) (b : List TSecret) => (dB (decide (a = b)) : D)) a [], (fun (a : List TSecret) (b : List TSecret) => []) a []) :=
  mkCon_fn (fun x y h _ => c87_inj x y h) ((a, []) : (List TSecret) × (List TSecret)) (by simp [nz, nz1, ML_nil, encLTSecret]) rfl
@[simp] theorem c87_fn3 (s_a : Nat) (z_a : D) (s_b : Nat) (z_b : D) : c87.fn [.sl false s_a z_a [], .sl false s_b z_b []] [] = some ((fun (a : List TSecret) (b : List TSecret) => a.length ≤ 1099511627776 ∧ b.length ≤ 1099511627776 ∧ (∀ x ∈ a, smS x) ∧ ∀ x ∈ b, smS x) [] [], (fun (a : List TSecret) (b : List TSecret) => (dB (decide (a = b)) : D)) [] [], (fun (a : List TSecret) (b : List TSecret) => []) [] []) :=
  mkCon_fn (fun x y h _ => c87_inj x y h) (([], []) : (List TSecret) × (List TSecret)) (by simp [nz, nz1, ML_nil, encLTSecret]) rfl
theorem c87_pc (a : List TSecret) (b : List TSecret) (hpre : a.length ≤ 1099511627776 ∧ b.length ≤ 1099511627776 ∧ (∀ x ∈ a, smS x) ∧ ∀ x ∈ b, smS x) : PCo Try.prog 87 [encLTSecret a, encLTSecret b] (Tab.of []) (dB (decide (a = b))) (Tab.of []) := by
  refine pco_of_run [] (E := ⟨[c153], []⟩) (m := false) (base := 0) (Env.ok_cons c153_ok Env.ok_nil) G_ok mix 300 6 Try.func87 (by kernel_rfl) rfl (by kernel_rfl) (by kernel_rfl) rfl ?_
  simp [Try.f87]
  obtain ⟨pre1, pre2, pre3, pre4⟩ := hpre
  refine ⟨fun h => ?_, fun h => by intro e; subst e; exact absurd rfl h⟩
  refine loop_inv (fun p : Nat => p ≤ a.length ∧ a.take p = b.take p) (fun p => [(0, encLTSecret a), (1, encLTSecret b), (5, dI p)]) (fun _ => []) 1 (fun p => a.length - p) 0 100 (by simp) (by simp) (by simp) ?_
  intro p ⟨hp, hi⟩
  simp
  refine ⟨fun hlt => ?_, fun hge => take_eq_full hi (by omega) (by omega)⟩
  have ha := pre3 _ (getD_mem (d := default) hlt)
  have hb := pre4 _ (getD_mem (d := default) (show p < b.length by omega))
  simp at ha hb
  refine ⟨⟨hlt, by omega, ha, hb⟩, fun h2 => ⟨by omega, Again.mk (p + 1) ⟨by omega, take_eq_step hi (by omega) (by omega) h2⟩ (by simp) (by first | omega | (simp; omega))⟩, fun h2 => by intro e; subst e; exact absurd rfl h2⟩
theorem c87_ok : c87.ok Try.prog := mkCon_ok fun ⟨a, b⟩ hpre => c87_pc a b hpre
theorem szSS_ok {l : List TSecret} {left : Int} (h : 0 ≤ szDeep szSec l left) : l.length ≤ left ∧ szDeep szSec l left ≤ left ∧ ∀ x ∈ l, (x.Marks.length : Int) ≤ left :=
  szDeep_all (R := fun q x => (x.Marks.length : Int) ≤ q) (fun x q h => ⟨szSec_le x q h, szSec_len h⟩) (fun a b x h h2 => by omega) h
@[simp] def nSecret (x : TSecret) : Int := x.Thing
def mIsSecret (x : TSecret) : Bool := mIn x.Thing 1 999 && decide (0 < x.Marks.length) && mAreMarks x.Marks && mIn x.Salt 0 1000000
/-- loop.example/g03007/impl.isSecret -/
noncomputable def c152 : Con := mkCon 152 false (α := TSecret) (fun x => (fun (x : TSecret) => [encTSecret x]) x) (fun _ => []) (fun x => (fun (x : TSecret) => smS x) x) (fun x => (fun (x : TSecret) => (dB (mIsSecret x) : D)) x) (fun x => (fun (x : TSecret) => []) x)
@[simp] theorem c152_f : c152.f = 152 := rfl
@[simp] theorem c152_own : c152.own = false := rfl
theorem c152_inj : ∀ u_ v_ : TSecret, ((fun x => (fun (x : TSecret) => [encTSecret x]) x) u_).map nz = ((fun x => (fun (x : TSecret) => [encTSecret x]) x) v_).map nz → u_ = v_ := by
  intro u_ v_ h
  obtain ⟨x_Thing, x_Marks, x_Salt⟩ := u_
  obtain ⟨x_Thing', x_Marks', x_Salt'⟩ := v_
  simp [nz_lit, nz1_lit, nz_agg, nz_sl, nz1_sl, encLTMark, encTSecret] at h
  first | (simp [h]; done) | (obtain ⟨⟩ := h; simp_all; done) | simp_all
@[simp] theorem c152_fn (x_Thing : Int) (x_Marks : List TMark) (x_Salt : Int) : c152.fn [.agg [.lit (.int .i64 x_Thing), .sl false 2 yTMark (ML encTMark x_Marks), .lit (.int .i64 x_Salt)]] [] = some ((fun (x : TSecret) => smS x) ⟨x_Thing, x_Marks, x_Salt⟩, (fun (x : TSecret) => (dB (mIsSecret x) : D)) ⟨x_Thing, x_Marks, x_Salt⟩, (fun (x : TSecret) => []) ⟨x_Thing, x_Marks, x_Salt⟩) :=
  mkCon_fn (fun x y h _ => c152_inj x y h) (⟨x_Thing, x_Marks, x_Salt⟩ : TSecret) (by simp [nz, nz1, ML_nil, encLTMark, encTSecret]) rfl
theorem c152_pc (x : TSecret) (hpre : smS x) : PCo Try.prog 152 [encTSecret x] (Tab.of []) (dB (mIsSecret x)) (Tab.of []) := by
  obtain ⟨x_Thing, x_Marks, x_Salt⟩ := x
  refine pco_of_run [] (E := ⟨[c138, c209], []⟩) (m := false) (base := 0) (Env.ok_cons c138_ok (Env.ok_cons c209_ok Env.ok_nil)) G_ok mix 300 6 Try.func152 (by kernel_rfl) rfl (by kernel_rfl) (by kernel_rfl) rfl ?_
  simp [Try.f152]
  simp at hpre
  simp [mIsSecret]
  repeat' (first | omega | refine And.intro ?_ ?_ | intro _)
  all_goals first | omega | first | rfl | omega | (rw [Bool.eq_iff_iff]; simp; done) | (rw [Bool.eq_iff_iff]; simp; omega) | (rw [Bool.eq_iff_iff]; simp; grind) | grind
theorem c152_ok : c152.ok Try.prog := mkCon_ok fun x hpre => c152_pc x hpre
/-- loop.example/g03007/impl.secretsInOrder -/
noncomputable def c150 : Con := mkCon 150 false (α := (List TSecret)) (fun x => (fun (l : List TSecret) => [encLTSecret l]) x) (fun _ => []) (fun x => (fun (l : List TSecret) => True) x) (fun x => (fun (l : List TSecret) => (.agg [.sl false 3 yTSecret (ML encTSecret l), .fn (.func 208) [] []] : D)) x) (fun x => (fun (l : List TSecret) => []) x)
@[simp] theorem c150_f : c150.f = 150 := rfl
@[simp] theorem c150_own : c150.own = false := rfl
theorem c150_inj : ∀ u_ v_ : (List TSecret), ((fun x => (fun (l : List TSecret) => [encLTSecret l]) x) u_).map nz = ((fun x => (fun (l : List TSecret) => [encLTSecret l]) x) v_).map nz → u_ = v_ := by
  intro u_ v_ h
  obtain l := u_
  obtain l' := v_
  simp [nz_lit, nz1_lit, nz_agg, nz_sl, nz1_sl, encLTSecret] at h
  first | (simp [h]; done) | (obtain ⟨⟩ := h; simp_all; done) | simp_all
@[simp] theorem c150_fn (l : List TSecret) : c150.fn [.sl false 3 yTSecret (ML encTSecret l)] [] = some ((fun (l : List TSecret) => True) l, (fun (l : List TSecret) => (.agg [.sl false 3 yTSecret (ML encTSecret l), .fn (.func 208) [] []] : D)) l, (fun (l : List TSecret) => []) l) :=
  mkCon_fn (fun x y h _ => c150_inj x y h) (l : (List TSecret)) (by simp [nz, nz1, ML_nil, encLTSecret]) rfl
@[simp] theorem c150_fn1 (s_l : Nat) (z_l : D) : c150.fn [.sl false s_l z_l []] [] = some ((fun (l : List TSecret) => True) [], (fun (l : List TSecret) => (.agg [.sl false 3 yTSecret (ML encTSecret l), .fn (.func 208) [] []] : D)) [], (fun (l : List TSecret) => []) []) :=
  mkCon_fn (fun x y h _ => c150_inj x y h) ([] : (List TSecret)) (by simp [nz, nz1, ML_nil, encLTSecret]) rfl
theorem c150_pc (l : List TSecret) : PCo Try.prog 150 [encLTSecret l] (Tab.of []) (.agg [.sl false 3 yTSecret (ML encTSecret l), .fn (.func 208) [] []]) (Tab.of []) := by
  refine pco_of_run [] (E := ⟨[], []⟩) (m := false) (base := 0) Env.ok_nil G_ok mix 300 6 Try.func150 (by kernel_rfl) rfl (by kernel_rfl) (by kernel_rfl) rfl ?_
  simp [Try.f150]
  all_goals first | omega | (rw [Bool.eq_iff_iff]; simp; omega) | grind
theorem c150_ok : c150.ok Try.prog := mkCon_ok fun l hpre => c150_pc l
/-- loop.example/g03007/impl.secretsInOrder$1 -/
noncomputable def c208 : Con := mkCon 208 false (α := TSecret) (fun x => (fun (x : TSecret) => [encTSecret x]) x) (fun _ => []) (fun x => (fun (x : TSecret) => True) x) (fun x => (fun (x : TSecret) => (dI (nSecret x) : D)) x) (fun x => (fun (x : TSecret) => []) x)
@[simp] theorem c208_f : c208.f = 208 := rfl
@[simp] theorem c208_own : c208.own = false := rfl
theorem c208_inj : ∀ u_ v_ : TSecret, ((fun x => (fun (x : TSecret) => [encTSecret x]) x) u_).map nz = ((fun x => (fun (x : TSecret) => [encTSecret x]) x) v_).map nz → u_ = v_ := by
  intro u_ v_ h
  obtain ⟨x_Thing, x_Marks, x_Salt⟩ := u_
  obtain ⟨x_Thing', x_Marks', x_Salt'⟩ := v_
  simp [nz_lit, nz1_lit, nz_agg, nz_sl, nz1_sl, encLTMark, encTSecret] at h
  first | (simp [h]; done) | (obtain ⟨⟩ := h; simp_all; done) | simp_all
@[simp] theorem c208_fn (x_Thing : Int) (x_Marks : List TMark) (x_Salt : Int) : c208.fn [.agg [.lit (.int .i64 x_Thing), .sl false 2 yTMark (ML encTMark x_Marks), .lit (.int .i64 x_Salt)]] [] = some ((fun (x : TSecret) => True) ⟨x_Thing, x_Marks, x_Salt⟩, (fun (x : TSecret) => (dI (nSecret x) : D)) ⟨x_Thing, x_Marks, x_Salt⟩, (fun (x : TSecret) => []) ⟨x_Thing, x_Marks, x_Salt⟩) :=
  mkCon_fn (fun x y h _ => c208_inj x y h) (⟨x_Thing, x_Marks, x_Salt⟩ : TSecret) (by simp [nz, nz1, ML_nil, encLTMark, encTSecret]) rfl
theorem c208_pc (x : TSecret) : PCo Try.prog 208 [encTSecret x] (Tab.of []) (dI (nSecret x)) (Tab.of []) := by
  obtain ⟨x_Thing, x_Marks, x_Salt⟩ := x
  refine pco_of_run [] (E := ⟨[], []⟩) (m := false) (base := 0) Env.ok_nil G_ok mix 300 6 Try.func208 (by kernel_rfl) rfl (by kernel_rfl) (by kernel_rfl) rfl ?_
  simp [Try.f208]
  all_goals first | omega | (rw [Bool.eq_iff_iff]; simp; omega) | grind
theorem c208_ok : c208.ok Try.prog := mkCon_ok fun x hpre => c208_pc x
/-- (loop.example/g03007/impl.sortedList[loop.example/g03007/impl.Secret]).isValid -/
noncomputable def c151 : Con := mkCon 151 false (α := (List TSecret) × Int) (fun x => (fun (l : List TSecret) (lim : Int) => ([.agg [.sl false 3 yTSecret (ML encTSecret l), .fn (.func 208) [] []], dI lim, .fn (.func 152) [] []] : List D)) x.1 x.2) (fun x => (fun (l : List TSecret) (lim : Int) => ([] : List (Nm × OO))) x.1 x.2) (fun x => (fun (l : List TSecret) (lim : Int) => l.length ≤ 1099511627776 ∧ ∀ x ∈ l, smS x) x.1 x.2) (fun x => (fun (l : List TSecret) (lim : Int) => (dB (decide (l.length ≤ lim) && ascBy mIsSecret nSecret none l) : D)) x.1 x.2) (fun x => (fun (l : List TSecret) (lim : Int) => ([] : List (Nm × OO))) x.1 x.2)
@[simp] theorem c151_f : c151.f = 151 := rfl
@[simp] theorem c151_own : c151.own = false := rfl
theorem c151_inj : ∀ u_ v_ : (List TSecret) × Int, ((fun x => (fun (l : List TSecret) (lim : Int) => ([.agg [.sl false 3 yTSecret (ML encTSecret l), .fn (.func 208) [] []], dI lim, .fn (.func 152) [] []] : List D)) x.1 x.2) u_).map nz = ((fun x => (fun (l : List TSecret) (lim : Int) => ([.agg [.sl false 3 yTSecret (ML encTSecret l), .fn (.func 208) [] []], dI lim, .fn (.func 152) [] []] : List D)) x.1 x.2) v_).map nz → (fun x => (fun (l : List TSecret) (lim : Int) => ([] : List (Nm × OO))) x.1 x.2) u_ = (fun x => (fun (l : List TSecret) (lim : Int) => ([] : List (Nm × OO))) x.1 x.2) v_ → u_ = v_ := by
  intro u_ v_ h h2_
  obtain ⟨l, lim⟩ := u_
  obtain ⟨l', lim'⟩ := v_
  simp [nz_lit, nz1_lit, nz_agg, nz_sl, nz1_sl, nz_sx, nz_el, nz1_el, nz_own, nz1_own, nz_ptr, nz_fn, nz_iface] at h h2_
  first | (simp [h, h2_]; done) | (obtain ⟨h3_, h4_⟩ := List.append_inj h2_ h.1; simp_all; done) | simp_all | grind
@[simp] theorem c151_fn (l : List TSecret) (lim : Int) : c151.fn ([.agg [.sl false 3 yTSecret (ML encTSecret l), .fn (.func 208) [] []], dI lim, .fn (.func 152) [] []]) ([]) = some (l.length ≤ 1099511627776 ∧ ∀ x ∈ l, smS x, dB (decide (l.length ≤ lim) && ascBy mIsSecret nSecret none l), []) :=
  mkCon_fn c151_inj ((l, lim) : (List TSecret) × Int) rfl rfl
theorem c151_pc (l : List TSecret) (lim : Int) (hpre : l.length ≤ 1099511627776 ∧ ∀ x ∈ l, smS x) : PCo Try.prog 151 ([.agg [.sl false 3 yTSecret (ML encTSecret l), .fn (.func 208) [] []], dI lim, .fn (.func 152) [] []]) (Tab.of ([])) (dB (decide (l.length ≤ lim) && ascBy mIsSecret nSecret none l)) (Tab.of ([])) := by
  refine pco_of_run [6] (E := ⟨[c208, c152], []⟩) (m := false) (base := 0) (Env.ok_cons c208_ok (Env.ok_cons c152_ok Env.ok_nil)) G_ok mix 300 6 Try.func151 (by kernel_rfl) rfl (by kernel_rfl) (by kernel_rfl) rfl ?_
  simp [Try.f151]
  obtain ⟨hp1, hp2⟩ := hpre
  refine ⟨fun h h2 => by omega, fun hlim => ?_⟩
  refine loop_inv (fun p : Nat => p ≤ l.length ∧ ascBy mIsSecret nSecret none l = ascBy mIsSecret nSecret (prevO nSecret l p) (l.drop p)) (fun p => [(2, .fn (.func 152) [] []), (3, .ptr (0, 1) 0), (6, dB false), (15, .sl false 3 yTSecret (ML encTSecret l)), (16, dI l.length), (17, dI p)]) (fun _ => [((0, 1), .box (.agg [.sl false 3 yTSecret (ML encTSecret l), .fn (.func 208) [] []]))]) 2 (fun p => l.length - p) 0 400 (by simp) (by simp) (by simp) ?_
  intro p ⟨hp, hi⟩
  simp
  refine ⟨fun hlt => ?_, fun hge => ?_⟩
  · have hx := hp2 _ (getD_mem (d := default) hlt)
    simp at hx
    rw [ascBy_at hlt] at hi; simp only [nSecret, wantN] at hi
    repeat' (first | exact hx | omega | refine And.intro ?_ ?_ | intro _)
    all_goals first | exact Again.mk (p + 1) ⟨by omega, by rw [hi]; grind⟩ (by simp) (by first | omega | (simp; omega)) | (rw [hi]; grind)
  · rw [hi, ascBy_end hge]; simp; omega
theorem c151_ok : c151.ok Try.prog := mkCon_ok fun ⟨l, lim⟩ hpre => c151_pc l lim hpre
def mAreSecrets (l : List TSecret) : Bool := decide (l.length ≤ 20) && ascBy mIsSecret nSecret none l
/-- loop.example/g03007/spec.AreSecrets -/
noncomputable def c84 : Con := mkCon 84 false (α := (List TSecret)) (fun x => (fun (l : List TSecret) => [encLTSecret l]) x) (fun _ => []) (fun x => (fun (l : List TSecret) => l.length ≤ 1073741823 ∧ ∀ x ∈ l, smS x) x) (fun x => (fun (l : List TSecret) => (dB (mAreSecrets l) : D)) x) (fun x => (fun (l : List TSecret) => []) x)
@[simp] theorem c84_f : c84.f = 84 := rfl
@[simp] theorem c84_own : c84.own = false := rfl
theorem c84_inj : ∀ u_ v_ : (List TSecret), ((fun x => (fun (l : List TSecret) => [encLTSecret l]) x) u_).map nz = ((fun x => (fun (l : List TSecret) => [encLTSecret l]) x) v_).map nz → u_ = v_ := by
  intro u_ v_ h
  obtain l := u_
  obtain l' := v_
  simp [nz_lit, nz1_lit, nz_agg, nz_sl, nz1_sl, encLTSecret] at h
  first | (simp [h]; done) | (obtain ⟨⟩ := h; simp_all; done) | simp_all
@[simp] theorem c84_fn (l : List TSecret) : c84.fn [.sl false 3 yTSecret (ML encTSecret l)] [] = some ((fun (l : List TSecret) => l.length ≤ 1073741823 ∧ ∀ x ∈ l, smS x) l, (fun (l : List TSecret) => (dB (mAreSecrets l) : D)) l, (fun (l : List TSecret) => []) l) :=
  mkCon_fn (fun x y h _ => c84_inj x y h) (l : (List TSecret)) (by simp [nz, nz1, ML_nil, encLTSecret]) rfl
@[simp] theorem c84_fn1 (s_l : Nat) (z_l : D) : c84.fn [.sl false s_l z_l []] [] = some ((fun (l : List TSecret) => l.length ≤ 1073741823 ∧ ∀ x ∈ l, smS x) [], (fun (l : List TSecret) => (dB (mAreSecrets l) : D)) [], (fun (l : List TSecret) => []) []) :=
  mkCon_fn (fun x y h _ => c84_inj x y h) ([] : (List TSecret)) (by simp [nz, nz1, ML_nil, encLTSecret]) rfl
theorem c84_pc (l : List TSecret) (hpre : l.length ≤ 1073741823 ∧ ∀ x ∈ l, smS x) : PCo Try.prog 84 [encLTSecret l] (Tab.of []) (dB (mAreSecrets l)) (Tab.of []) := by
  refine pco_of_run [] (E := ⟨[c102, c148], []⟩) (m := false) (base := 0) (Env.ok_cons c102_ok (Env.ok_cons c148_ok Env.ok_nil)) G_ok mix 300 6 Try.func84 (by kernel_rfl) rfl (by kernel_rfl) (by kernel_rfl) rfl ?_
  simp [Try.f84]
  obtain ⟨hp1, hp2⟩ := hpre
  refine loop_inv (fun p : Nat => p ≤ l.length ∧ ascBy mIsSecret nSecret none l = ascBy mIsSecret nSecret (prevO nSecret l p) (l.drop p)) (fun p => [(0, encLTSecret l), (3, dI p)]) (fun _ => []) 1 (fun p => l.length - p) 0 400 (by simp) (by simp) (by simp) ?_
  intro p ⟨hp, hi⟩
  simp
  refine ⟨fun hlt => ?_, fun hge => ?_⟩
  · have hx := hp2 _ (getD_mem (d := default) hlt)
    simp at hx
    rw [ascBy_at hlt] at hi; simp only [nSecret, wantN, mIsSecret] at hi
    repeat' (first | exact hx | omega | refine And.intro ?_ ?_ | intro _)
    all_goals first | exact Again.mk (p + 1) ⟨by omega, by rw [hi]; grind⟩ (by simp) (by first | omega | (simp; omega)) | (rw [mAreSecrets, hi]; grind)
  · rw [mAreSecrets, hi, ascBy_end hge]; simp; omega
theorem c84_ok : c84.ok Try.prog := mkCon_ok fun l hpre => c84_pc l hpre
/-- loop.example/g03007/impl.AreSecrets -/
noncomputable def c86 : Con := mkCon 86 false (α := (List TSecret)) (fun x => (fun (l : List TSecret) => [encLTSecret l]) x) (fun _ => []) (fun x => (fun (l : List TSecret) => l.length ≤ 1073741823 ∧ ∀ x ∈ l, smS x) x) (fun x => (fun (l : List TSecret) => (dB (mAreSecrets l) : D)) x) (fun x => (fun (l : List TSecret) => []) x)
@[simp] theorem c86_f : c86.f = 86 := rfl
@[simp] theorem c86_own : c86.own = false := rfl
theorem c86_inj : ∀ u_ v_ : (List TSecret), ((fun x => (fun (l : List TSecret) => [encLTSecret l]) x) u_).map nz = ((fun x => (fun (l : List TSecret) => [encLTSecret l]) x) v_).map nz → u_ = v_ := by
  intro u_ v_ h
  obtain l := u_
  obtain l' := v_
  simp [nz_lit, nz1_lit, nz_agg, nz_sl, nz1_sl, encLTSecret] at h
  first | (simp [h]; done) | (obtain ⟨⟩ := h; simp_all; done) | simp_all
@[simp] theorem c86_fn (l : List TSecret) : c86.fn [.sl false 3 yTSecret (ML encTSecret l)] [] = some ((fun (l : List TSecret) => l.length ≤ 1073741823 ∧ ∀ x ∈ l, smS x) l, (fun (l : List TSecret) => (dB (mAreSecrets l) : D)) l, (fun (l : List TSecret) => []) l) :=
  mkCon_fn (fun x y h _ => c86_inj x y h) (l : (List TSecret)) (by simp [nz, nz1, ML_nil, encLTSecret]) rfl
@[simp] theorem c86_fn1 (s_l : Nat) (z_l : D) : c86.fn [.sl false s_l z_l []] [] = some ((fun (l : List TSecret) => l.length ≤ 1073741823 ∧ ∀ x ∈ l, smS x) [], (fun (l : List TSecret) => (dB (mAreSecrets l) : D)) [], (fun (l : List TSecret) => []) []) :=
  mkCon_fn (fun x y h _ => c86_inj x y h) ([] : (List TSecret)) (by simp [nz, nz1, ML_nil, encLTSecret]) rfl
theorem c86_pc (l : List TSecret) (hpre : l.length ≤ 1073741823 ∧ ∀ x ∈ l, smS x) : PCo Try.prog 86 [encLTSecret l] (Tab.of []) (dB (mAreSecrets l)) (Tab.of []) := by
  refine pco_of_run [] (E := ⟨[c150, c151, c152, c152], []⟩) (m := false) (base := 0) (Env.ok_cons c150_ok (Env.ok_cons c151_ok (Env.ok_cons c152_ok (Env.ok_cons c152_ok Env.ok_nil)))) G_ok mix 300 6 Try.func86 (by kernel_rfl) rfl (by kernel_rfl) (by kernel_rfl) rfl ?_
  simp [Try.f86]
  have h : ((l.length : Int) ≤ 20) ↔ l.length ≤ 20 := by omega
  simp at hpre
  simp [mAreSecrets, h]
  exact ⟨by omega, hpre.2⟩
theorem c86_ok : c86.ok Try.prog := mkCon_ok fun l hpre => c86_pc l hpre
theorem mark_eqc (x y : TMark) : (x = y) = (x.Question = y.Question ∧ x.Answer = y.Answer) := by cases x; cases y; simp
/-- loop.example/g03007/spec.l31Marks -/
noncomputable def c154 : Con := mkCon 154 false (α := (List TMark) × (List TMark)) (fun x => (fun (a : List TMark) (b : List TMark) => [encLTMark a, encLTMark b]) x.1 x.2) (fun _ => []) (fun x => (fun (a : List TMark) (b : List TMark) => a.length ≤ 1099511627776 ∧ b.length ≤ 1099511627776) x.1 x.2) (fun x => (fun (a : List TMark) (b : List TMark) => (dB (decide (a = b)) : D)) x.1 x.2) (fun x => (fun (a : List TMark) (b : List TMark) => []) x.1 x.2)
@[simp] theorem c154_f : c154.f = 154 := rfl
@[simp] theorem c154_own : c154.own = false := rfl
theorem c154_inj : ∀ u_ v_ : (List TMark) × (List TMark), ((fun x => (fun (a : List TMark) (b : List TMark) => [encLTMark a, encLTMark b]) x.1 x.2) u_).map nz = ((fun x => (fun (a : List TMark) (b : List TMark) => [encLTMark a, encLTMark b]) x.1 x.2) v_).map nz → u_ = v_ := by
  intro u_ v_ h
  obtain ⟨a, b⟩ := u_
  obtain ⟨a', b'⟩ := v_
  simp [nz_lit, nz1_lit, nz_agg, nz_sl, nz1_sl, encLTMark] at h
  first | (simp [h]; done) | (obtain ⟨⟩ := h; simp_all; done) | simp_all
@[simp] theorem c154_fn (a : List TMark) (b : List TMark) : c154.fn [.sl false 2 yTMark (ML encTMark a), .sl false 2 yTMark (ML encTMark b)] [] = some ((fun (a : List TMark) (b : List TMark) => a.length ≤ 1099511627776 ∧ b.length ≤ 1099511627776) a b, (fun (a : List TMark) (b : List TMark) => (dB (decide (a = b)) : D)) a b, (fun (a : List TMark) (b : List TMark) => []) a b) :=
  mkCon_fn (fun x y h _ => c154_inj x y h) ((a, b) : (List TMark) × (List TMark)) (by simp [nz, nz1, ML_nil, encLTMark]) rfl
@[simp] theorem c154_fn1 (s_a : Nat) (z_a : D) (b : List TMark) : c154.fn [.sl false s_a z_a [], .sl false 2 yTMark (ML encTMark b)] [] = some ((fun (a : List TMark) (b : List TMark) => a.length ≤ 1099511627776 ∧ b.length ≤ 1099511627776) [] b, (fun (a : List TMark) (b : List TMark) => (dB (decide (a = b)) : D)) [] b, (fun (a : List TMark) (b : List TMark) => []) [] b) :=
  mkCon_fn (fun x y h _ => c154_inj x y h) (([], b) : (List TMark) × (List TMark)) (by simp [nz, nz1, ML_nil, encLTMark]) rfl
@[simp] theorem c154_fn2 (a : List TMark) (s_b : Nat) (z_b : D) : c154.fn [.sl false 2 yTMark (ML encTMark a), .sl false s_b z_b []] [] = some ((fun (a : List TMark) (b : List TMark) => a.length ≤ 1099511627776 ∧ b.length ≤ 1099511627776) a [], (fun (a : List TMark) (b : List TMark) => (dB (decide (a = b)) : D)) a [], (fun (a : List TMark) (b : List TMark) => []) a []) :=
  mkCon_fn (fun x y h _ => c154_inj x y h) ((a, []) : (List TMark) × (List TMark)) (by simp [nz, nz1, ML_nil, encLTMark]) rfl
@[simp] theorem c154_fn3 (s_a : Nat) (z_a : D) (s_b : Nat) (z_b : D) : c154.fn [.sl false s_a z_a [], .sl false s_b z_b []] [] = some ((fun (a : List TMark) (b : List TMark) => a.length ≤ 1099511627776 ∧ b.length ≤ 1099511627776) [] [], (fun (a : List TMark) (b : List TMark) => (dB (decide (a = b)) : D)) [] [], (fun (a : List TMark) (b : List TMark) => []) [] []) :=
  mkCon_fn (fun x y h _ => c154_inj x y h) (([], []) : (List TMark) × (List TMark)) (by simp [nz, nz1, ML_nil, encLTMark]) rfl
theorem c154_pc (a : List TMark) (b : List TMark) (hpre : a.length ≤ 1099511627776 ∧ b.length ≤ 1099511627776) : PCo Try.prog 154 [encLTMark a, encLTMark b] (Tab.of []) (dB (decide (a = b))) (Tab.of []) := by
  refine pco_of_run [] (E := ⟨[], []⟩) (m := false) (base := 0) Env.ok_nil G_ok mix 300 6 Try.func154 (by kernel_rfl) rfl (by kernel_rfl) (by kernel_rfl) rfl ?_
  simp [Try.f154]
  obtain ⟨pre1, pre2⟩ := hpre
  refine ⟨fun h => ?_, fun h => by intro e; subst e; exact absurd rfl h⟩
  refine loop_inv (fun p : Nat => p ≤ a.length ∧ a.take p = b.take p) (fun p => [(0, encLTMark a), (1, encLTMark b), (5, dI p)]) (fun _ => []) 1 (fun p => a.length - p) 0 100 (by simp) (by simp) (by simp) ?_
  intro p ⟨hp, hi⟩
  simp
  refine ⟨fun hlt => ?_, fun hge => take_eq_full hi (by omega) (by omega)⟩
  have hx := mark_eqc (a[p]?.getD default) (b[p]?.getD default)
  by_cases he : a[p]?.getD default = b[p]?.getD default
  · simp only [he]
    repeat' (first | omega | refine And.intro ?_ ?_ | intro _)
    all_goals first | exact Again.mk (p + 1) ⟨by omega, take_eq_step hi (by omega) (by omega) he⟩ (by simp) (by first | omega | (simp; omega)) | (exfalso; simp_all; done)
  · have hne : ¬ a = b := fun e => he (by rw [e])
    rw [hx] at he
    generalize Again _ _ _ _ _ _ _ = A
    repeat' (first | omega | exact hne | refine And.intro ?_ ?_ | intro _)
    all_goals first | (exfalso; simp_all; done) | grind
theorem c154_ok : c154.ok Try.prog := mkCon_ok fun ⟨a, b⟩ hpre => c154_pc a b hpre
/-- slices.Equal[[]loop.example/g03007/impl.Mar -/
noncomputable def c157 : Con := mkCon 157 false (α := (List TMark) × (List TMark)) (fun x => (fun (a : List TMark) (b : List TMark) => [encLTMark a, encLTMark b]) x.1 x.2) (fun _ => []) (fun x => (fun (a : List TMark) (b : List TMark) => a.length ≤ 1099511627776 ∧ b.length ≤ 1099511627776) x.1 x.2) (fun x => (fun (a : List TMark) (b : List TMark) => (dB (decide (a = b)) : D)) x.1 x.2) (fun x => (fun (a : List TMark) (b : List TMark) => []) x.1 x.2)
@[simp] theorem c157_f : c157.f = 157 := rfl
@[simp] theorem c157_own : c157.own = false := rfl
theorem c157_inj : ∀ u_ v_ : (List TMark) × (List TMark), ((fun x => (fun (a : List TMark) (b : List TMark) => [encLTMark a, encLTMark b]) x.1 x.2) u_).map nz = ((fun x => (fun (a : List TMark) (b : List TMark) => [encLTMark a, encLTMark b]) x.1 x.2) v_).map nz → u_ = v_ := by
  intro u_ v_ h
  obtain ⟨a, b⟩ := u_
  obtain ⟨a', b'⟩ := v_
  simp [nz_lit, nz1_lit, nz_agg, nz_sl, nz1_sl, encLTMark] at h
  first | (simp [h]; done) | (obtain ⟨⟩ := h; simp_all; done) | simp_all
@[simp] theorem c157_fn (a : List TMark) (b : List TMark) : c157.fn [.sl false 2 yTMark (ML encTMark a), .sl false 2 yTMark (ML encTMark b)] [] = some ((fun (a : List TMark) (b : List TMark) => a.length ≤ 1099511627776 ∧ b.length ≤ 1099511627776) a b, (fun (a : List TMark) (b : List TMark) => (dB (decide (a = b)) : D)) a b, (fun (a : List TMark) (b : List TMark) => []) a b) :=
  mkCon_fn (fun x y h _ => c157_inj x y h) ((a, b) : (List TMark) × (List TMark)) (by simp [nz, nz1, ML_nil, encLTMark]) rfl
@[simp] theorem c157_fn1 (s_a : Nat) (z_a : D) (b : List TMark) : c157.fn [.sl false s_a z_a [], .sl false 2 yTMark (ML encTMark b)] [] = some ((fun (a : List TMark) (b : List TMark) => a.length ≤ 1099511627776 ∧ b.length ≤ 1099511627776) [] b, (fun (a : List TMark) (b : List TMark) => (dB (decide (a = b)) : D)) [] b, (fun (a : List TMark) (b : List TMark) => []) [] b) :=
  mkCon_fn (fun x y h _ => c157_inj x y h) (([], b) : (List TMark) × (List TMark)) (by simp [nz, nz1, ML_nil, encLTMark]) rfl
@[simp] theorem c157_fn2 (a : List TMark) (s_b : Nat) (z_b : D) : c157.fn [.sl false 2 yTMark (ML encTMark a), .sl false s_b z_b []] [] = some ((fun (a : List TMark) (b : List TMark) => a.length ≤ 1099511627776 ∧ b.length ≤ 1099511627776) a [], (fun (a : List TMark) (b : List TMark) => (dB (decide (a = b)) : D)) a [], (fun (a : List TMark) (b : List TMark) => []) a []) :=
  mkCon_fn (fun x y h _ => c157_inj x y h) ((a, []) : (List TMark) × (List TMark)) (by simp [nz, nz1, ML_nil, encLTMark]) rfl
@[simp] theorem c157_fn3 (s_a : Nat) (z_a : D) (s_b : Nat) (z_b : D) : c157.fn [.sl false s_a z_a [], .sl false s_b z_b []] [] = some ((fun (a : List TMark) (b : List TMark) => a.length ≤ 1099511627776 ∧ b.length ≤ 1099511627776) [] [], (fun (a : List TMark) (b : List TMark) => (dB (decide (a = b)) : D)) [] [], (fun (a : List TMark) (b : List TMark) => []) [] []) :=
  mkCon_fn (fun x y h _ => c157_inj x y h) (([], []) : (List TMark) × (List TMark)) (by simp [nz, nz1, ML_nil, encLTMark]) rfl
theorem c157_pc (a : List TMark) (b : List TMark) (hpre : a.length ≤ 1099511627776 ∧ b.length ≤ 1099511627776) : PCo Try.prog 157 [encLTMark a, encLTMark b] (Tab.of []) (dB (decide (a = b))) (Tab.of []) := by
  refine pco_of_run [] (E := ⟨[], []⟩) (m := false) (base := 0) Env.ok_nil G_ok mix 300 6 Try.func157 (by kernel_rfl) rfl (by kernel_rfl) (by kernel_rfl) rfl ?_
  simp [Try.f157]
  obtain ⟨pre1, pre2⟩ := hpre
  refine ⟨fun h => ?_, fun h => by intro e; subst e; exact absurd rfl h⟩
  refine loop_inv (fun p : Nat => p ≤ a.length ∧ a.take p = b.take p) (fun p => [(0, encLTMark a), (1, encLTMark b), (12, dI a.length), (13, dI p)]) (fun _ => []) 1 (fun p => a.length - p) 0 100 (by simp) (by simp) (by simp) ?_
  intro p ⟨hp, hi⟩
  simp
  refine ⟨fun hlt => ?_, fun hge => take_eq_full hi (by omega) (by omega)⟩
  have hx := mark_eqc (a[p]?.getD default) (b[p]?.getD default)
  by_cases he : a[p]?.getD default = b[p]?.getD default
  · simp only [he]
    repeat' (first | omega | refine And.intro ?_ ?_ | intro _)
    all_goals first | exact Again.mk (p + 1) ⟨by omega, take_eq_step hi (by omega) (by omega) he⟩ (by simp) (by first | omega | (simp; omega)) | (exfalso; simp_all; done)
  · have hne : ¬ a = b := fun e => he (by rw [e])
    rw [hx] at he
    generalize Again _ _ _ _ _ _ _ = A
    repeat' (first | omega | exact hne | refine And.intro ?_ ?_ | intro _)
    all_goals first | (exfalso; simp_all; done) | grind
theorem c157_ok : c157.ok Try.prog := mkCon_ok fun ⟨a, b⟩ hpre => c157_pc a b hpre
theorem sec_eq (x y : TSecret) : (x = y) = (x.Thing = y.Thing ∧ x.Marks = y.Marks ∧ x.Salt = y.Salt) := by cases x; cases y; simp
/-- loop.example/g03007/impl.EqualSecrets$1 -/
noncomputable def c156 : Con := mkCon 156 false (α := TSecret × TSecret) (fun x => (fun (x : TSecret) (y : TSecret) => [encTSecret x, encTSecret y]) x.1 x.2) (fun _ => []) (fun x => (fun (x : TSecret) (y : TSecret) => smS x ∧ smS y) x.1 x.2) (fun x => (fun (x : TSecret) (y : TSecret) => (dB (decide (x = y)) : D)) x.1 x.2) (fun x => (fun (x : TSecret) (y : TSecret) => []) x.1 x.2)
@[simp] theorem c156_f : c156.f = 156 := rfl
@[simp] theorem c156_own : c156.own = false := rfl
theorem c156_inj : ∀ u_ v_ : TSecret × TSecret, ((fun x => (fun (x : TSecret) (y : TSecret) => [encTSecret x, encTSecret y]) x.1 x.2) u_).map nz = ((fun x => (fun (x : TSecret) (y : TSecret) => [encTSecret x, encTSecret y]) x.1 x.2) v_).map nz → u_ = v_ := by
  intro u_ v_ h
  obtain ⟨⟨x_Thing, x_Marks, x_Salt⟩, ⟨y_Thing, y_Marks, y_Salt⟩⟩ := u_
  obtain ⟨⟨x_Thing', x_Marks', x_Salt'⟩, ⟨y_Thing', y_Marks', y_Salt'⟩⟩ := v_
  simp [nz_lit, nz1_lit, nz_agg, nz_sl, nz1_sl, encLTMark, encTSecret] at h
  first | (simp [h]; done) | (obtain ⟨⟩ := h; simp_all; done) | simp_all
@[simp] theorem c156_fn (x_Thing : Int) (x_Marks : List TMark) (x_Salt : Int) (y_Thing : Int) (y_Marks : List TMark) (y_Salt : Int) : c156.fn [.agg [.lit (.int .i64 x_Thing), .sl false 2 yTMark (ML encTMark x_Marks), .lit (.int .i64 x_Salt)], .agg [.lit (.int .i64 y_Thing), .sl false 2 yTMark (ML encTMark y_Marks), .lit (.int .i64 y_Salt)]] [] = some ((fun (x : TSecret) (y : TSecret) => smS x ∧ smS y) ⟨x_Thing, x_Marks, x_Salt⟩ ⟨y_Thing, y_Marks, y_Salt⟩, (fun (x : TSecret) (y : TSecret) => (dB (decide (x = y)) : D)) ⟨x_Thing, x_Marks, x_Salt⟩ ⟨y_Thing, y_Marks, y_Salt⟩, (fun (x : TSecret) (y : TSecret) => []) ⟨x_Thing, x_Marks, x_Salt⟩ ⟨y_Thing, y_Marks, y_Salt⟩) :=
  mkCon_fn (fun x y h _ => c156_inj x y h) ((⟨x_Thing, x_Marks, x_Salt⟩, ⟨y_Thing, y_Marks, y_Salt⟩) : TSecret × TSecret) (by simp [nz, nz1, ML_nil, encLTMark, encTSecret]) rfl
theorem c156_pc (x : TSecret) (y : TSecret) (hpre : smS x ∧ smS y) : PCo Try.prog 156 [encTSecret x, encTSecret y] (Tab.of []) (dB (decide (x = y))) (Tab.of []) := by
  obtain ⟨x_Thing, x_Marks, x_Salt⟩ := x
  obtain ⟨y_Thing, y_Marks, y_Salt⟩ := y
  refine pco_of_run [] (E := ⟨[c157], []⟩) (m := false) (base := 0) (Env.ok_cons c157_ok Env.ok_nil) G_ok mix 300 6 Try.func156 (by kernel_rfl) rfl (by kernel_rfl) (by kernel_rfl) rfl ?_
  simp [Try.f156]
  simp at hpre
  repeat' (first | omega | refine And.intro ?_ ?_ | intro _)
  first | rfl | omega | (rw [Bool.eq_iff_iff]; simp; done) | (rw [Bool.eq_iff_iff]; simp; omega) | (rw [Bool.eq_iff_iff]; simp; grind) | grind
theorem c156_ok : c156.ok Try.prog := mkCon_ok fun ⟨x, y⟩ hpre => c156_pc x y hpre
/-- slices.EqualFunc[[]loop.example/g03007/impl.Secre -/
noncomputable def c155 : Con := mkCon 155 false (α := (List TSecret) × (List TSecret)) (fun x => (fun (a : List TSecret) (b : List TSecret) => ([encLTSecret a, encLTSecret b, .fn (.func 156) [] []] : List D)) x.1 x.2) (fun x => (fun (a : List TSecret) (b : List TSecret) => ([] : List (Nm × OO))) x.1 x.2) (fun x => (fun (a : List TSecret) (b : List TSecret) => a.length ≤ 1073741823 ∧ b.length ≤ 1073741823 ∧ (∀ x ∈ a, smS x) ∧ ∀ x ∈ b, smS x) x.1 x.2) (fun x => (fun (a : List TSecret) (b : List TSecret) => (dB (decide (a = b)) : D)) x.1 x.2) (fun x => (fun (a : List TSecret) (b : List TSecret) => ([] : List (Nm × OO))) x.1 x.2)
@[simp] theorem c155_f : c155.f = 155 := rfl
@[simp] theorem c155_own : c155.own = false := rfl
theorem c155_inj : ∀ u_ v_ : (List TSecret) × (List TSecret), ((fun x => (fun (a : List TSecret) (b : List TSecret) => ([encLTSecret a, encLTSecret b, .fn (.func 156) [] []] : List D)) x.1 x.2) u_).map nz = ((fun x => (fun (a : List TSecret) (b : List TSecret) => ([encLTSecret a, encLTSecret b, .fn (.func 156) [] []] : List D)) x.1 x.2) v_).map nz → (fun x => (fun (a : List TSecret) (b : List TSecret) => ([] : List (Nm × OO))) x.1 x.2) u_ = (fun x => (fun (a : List TSecret) (b : List TSecret) => ([] : List (Nm × OO))) x.1 x.2) v_ → u_ = v_ := by
  intro u_ v_ h h2_
  obtain ⟨a, b⟩ := u_
  obtain ⟨a', b'⟩ := v_
  simp [nz_lit, nz1_lit, nz_agg, nz_sl, nz1_sl, nz_sx, nz_el, nz1_el, nz_own, nz1_own, nz_ptr, nz_fn, nz_iface] at h h2_
  first | (simp [h, h2_]; done) | (obtain ⟨h3_, h4_⟩ := List.append_inj h2_ h.1; simp_all; done) | simp_all | grind
@[simp] theorem c155_fn (a : List TSecret) (b : List TSecret) : c155.fn ([(.sl false 3 yTSecret (ML encTSecret a)), (.sl false 3 yTSecret (ML encTSecret b)), .fn (.func 156) [] []]) ([]) = some (a.length ≤ 1073741823 ∧ b.length ≤ 1073741823 ∧ (∀ x ∈ a, smS x) ∧ ∀ x ∈ b, smS x, dB (decide (a = b)), []) :=
  mkCon_fn c155_inj ((a, b) : (List TSecret) × (List TSecret)) rfl rfl
theorem c155_pc (a : List TSecret) (b : List TSecret) (hpre : a.length ≤ 1073741823 ∧ b.length ≤ 1073741823 ∧ (∀ x ∈ a, smS x) ∧ ∀ x ∈ b, smS x) : PCo Try.prog 155 ([encLTSecret a, encLTSecret b, .fn (.func 156) [] []]) (Tab.of ([])) (dB (decide (a = b))) (Tab.of ([])) := by
  refine pco_of_run [] (E := ⟨[c156], []⟩) (m := false) (base := 0) (Env.ok_cons c156_ok Env.ok_nil) G_ok mix 300 6 Try.func155 (by kernel_rfl) rfl (by kernel_rfl) (by kernel_rfl) rfl ?_
  simp [Try.f155]
  obtain ⟨pre1, pre2, pre3, pre4⟩ := hpre
  refine ⟨fun h => ?_, fun h => by intro e; subst e; exact absurd rfl h⟩
  refine loop_inv (fun p : Nat => p ≤ a.length ∧ a.take p = b.take p) (fun p => [(1, encLTSecret b), (2, .fn (.func 156) [] []), (15, encLTSecret a), (16, dI a.length), (17, dI p)]) (fun _ => []) 1 (fun p => a.length - p) 0 400 (by simp) (by simp) (by simp) ?_
  intro p ⟨hp, hi⟩
  simp
  refine ⟨fun hlt => ?_, fun hge => take_eq_full hi (by omega) (by omega)⟩
  have ha := pre3 _ (getD_mem (d := default) hlt)
  have hb := pre4 _ (getD_mem (d := default) (show p < b.length by omega))
  simp at ha hb
  have hxx := sec_eq (a[p]?.getD default) (b[p]?.getD default)
  by_cases he : a[p]?.getD default = b[p]?.getD default
  · simp only [he]
    repeat' (first | omega | exact hb | exact ha.1 | refine And.intro ?_ ?_ | intro _)
    all_goals first | exact Again.mk (p + 1) ⟨by omega, take_eq_step hi (by omega) (by omega) he⟩ (by simp) (by first | omega | (simp; omega)) | (exfalso; simp_all; done)
  · have hne : ¬ a = b := fun e => he (by rw [e])
    have he2 := he
    rw [hxx] at he2
    generalize Again _ _ _ _ _ _ _ = A
    repeat' (first | omega | exact hne | exact hb | exact ha | refine And.intro ?_ ?_ | intro _)
    all_goals first | (exfalso; simp_all; done) | grind
theorem c155_ok : c155.ok Try.prog := mkCon_ok fun ⟨a, b⟩ hpre => c155_pc a b hpre
/-- loop.example/g03007/impl.EqualSecrets -/
noncomputable def c89 : Con := mkCon 89 false (α := (List TSecret) × (List TSecret)) (fun x => (fun (a : List TSecret) (b : List TSecret) => [encLTSecret a, encLTSecret b]) x.1 x.2) (fun _ => []) (fun x => (fun (a : List TSecret) (b : List TSecret) => a.length ≤ 1073741823 ∧ b.length ≤ 1073741823 ∧ (∀ x ∈ a, smS x) ∧ ∀ x ∈ b, smS x) x.1 x.2) (fun x => (fun (a : List TSecret) (b : List TSecret) => (dB (decide (a = b)) : D)) x.1 x.2) (fun x => (fun (a : List TSecret) (b : List TSecret) => []) x.1 x.2)
@[simp] theorem c89_f : c89.f = 89 := rfl
@[simp] theorem c89_own : c89.own = false := rfl
theorem c89_inj : ∀ u_ v_ : (List TSecret) × (List TSecret), ((fun x => (fun (a : List TSecret) (b : List TSecret) => [encLTSecret a, encLTSecret b]) x.1 x.2) u_).map nz = ((fun x => (fun (a : List TSecret) (b : List TSecret) => [encLTSecret a, encLTSecret b]) x.1 x.2) v_).map nz → u_ = v_ := by
  intro u_ v_ h
  obtain ⟨a, b⟩ := u_
  obtain ⟨a', b'⟩ := v_
  simp [nz_lit, nz1_lit, nz_agg, nz_sl, nz1_sl, encLTSecret] at h
  first | (simp [h]; done) | (obtain ⟨⟩ := h; simp_all; done) | simp_all
@[simp] theorem c89_fn (a : List TSecret) (b : List TSecret) : c89.fn [.sl false 3 yTSecret (ML encTSecret a), .sl false 3 yTSecret (ML encTSecret b)] [] = some ((fun (a : List TSecret) (b : List TSecret) => a.length ≤ 1073741823 ∧ b.length ≤ 1073741823 ∧ (∀ x ∈ a, smS x) ∧ ∀ x ∈ b, smS x) a b, (fun (a : List TSecret) (b : List TSecret) => (dB (decide (a = b)) : D)) a b, (fun (a : List TSecret) (b : List TSecret) => []) a b) :=
  mkCon_fn (fun x y h _ => c89_inj x y h) ((a, b) : (List TSecret) × (List TSecret)) (by simp [nz, nz1, ML_nil, encLTSecret]) rfl
@[simp] theorem c89_fn1 (s_a : Nat) (z_a : D) (b : List TSecret) : c89.fn [.sl false s_a z_a [], .sl false 3 yTSecret (ML encTSecret b)] [] = some ((fun (a : List TSecret) (b : List TSecret) => a.length ≤ 1073741823 ∧ b.length ≤ 1073741823 ∧ (∀ x ∈ a, smS x) ∧ ∀ x ∈ b, smS x) [] b, (fun (a : List TSecret) (b : List TSecret) => (dB (decide (a = b)) : D)) [] b, (fun (a : List TSecret) (b : List TSecret) => []) [] b) :=
  mkCon_fn (fun x y h _ => c89_inj x y h) (([], b) : (List TSecret) × (List TSecret)) (by simp [nz, nz1, ML_nil, encLTSecret]) rfl
@[simp] theorem c89_fn2 (a : List TSecret) (s_b : Nat) (z_b : D) : c89.fn [.sl false 3 yTSecret (ML encTSecret a), .sl false s_b z_b []] [] = some ((fun (a : List TSecret) (b : List TSecret) => a.length ≤ 1073741823 ∧ b.length ≤ 1073741823 ∧ (∀ x ∈ a, smS x) ∧ ∀ x ∈ b, smS x) a [], (fun (a : List TSecret) (b : List TSecret) => (dB (decide (a = b)) : D)) a [], (fun (a : List TSecret) (b : List TSecret) => []) a []) :=
  mkCon_fn (fun x y h _ => c89_inj x y h) ((a, []) : (List TSecret) × (List TSecret)) (by simp [nz, nz1, ML_nil, encLTSecret]) rfl
@[simp] theorem c89_fn3 (s_a : Nat) (z_a : D) (s_b : Nat) (z_b : D) : c89.fn [.sl false s_a z_a [], .sl false s_b z_b []] [] = some ((fun (a : List TSecret) (b : List TSecret) => a.length ≤ 1073741823 ∧ b.length ≤ 1073741823 ∧ (∀ x ∈ a, smS x) ∧ ∀ x ∈ b, smS x) [] [], (fun (a : List TSecret) (b : List TSecret) => (dB (decide (a = b)) : D)) [] [], (fun (a : List TSecret) (b : List TSecret) => []) [] []) :=
  mkCon_fn (fun x y h _ => c89_inj x y h) (([], []) : (List TSecret) × (List TSecret)) (by simp [nz, nz1, ML_nil, encLTSecret]) rfl
theorem c89_pc (a : List TSecret) (b : List TSecret) (hpre : a.length ≤ 1073741823 ∧ b.length ≤ 1073741823 ∧ (∀ x ∈ a, smS x) ∧ ∀ x ∈ b, smS x) : PCo Try.prog 89 [encLTSecret a, encLTSecret b] (Tab.of []) (dB (decide (a = b))) (Tab.of []) := by
  refine pco_of_run [] (E := ⟨[c155, c156, c156], []⟩) (m := false) (base := 0) (Env.ok_cons c155_ok (Env.ok_cons c156_ok (Env.ok_cons c156_ok Env.ok_nil))) G_ok mix 300 6 Try.func89 (by kernel_rfl) rfl (by kernel_rfl) (by kernel_rfl) rfl ?_
  simp [Try.f89]
  simpa using hpre
theorem c89_ok : c89.ok Try.prog := mkCon_ok fun ⟨a, b⟩ hpre => c89_pc a b hpre
/-- loop.example/g03007/spec.EqualSecrets -/
noncomputable def c88 : Con := mkCon 88 false (α := (List TSecret) × (List TSecret)) (fun x => (fun (a : List TSecret) (b : List TSecret) => [encLTSecret a, encLTSecret b]) x.1 x.2) (fun _ => []) (fun x => (fun (a : List TSecret) (b : List TSecret) => a.length ≤ 1073741823 ∧ b.length ≤ 1073741823 ∧ (∀ x ∈ a, smS x) ∧ ∀ x ∈ b, smS x) x.1 x.2) (fun x => (fun (a : List TSecret) (b : List TSecret) => (dB (decide (a = b)) : D)) x.1 x.2) (fun x => (fun (a : List TSecret) (b : List TSecret) => []) x.1 x.2)
@[simp] theorem c88_f : c88.f = 88 := rfl
@[simp] theorem c88_own : c88.own = false := rfl
theorem c88_inj : ∀ u_ v_ : (List TSecret) × (List TSecret), ((fun x => (fun (a : List TSecret) (b : List TSecret) => [encLTSecret a, encLTSecret b]) x.1 x.2) u_).map nz = ((fun x => (fun (a : List TSecret) (b : List TSecret) => [encLTSecret a, encLTSecret b]) x.1 x.2) v_).map nz → u_ = v_ := by
  intro u_ v_ h
  obtain ⟨a, b⟩ := u_
  obtain ⟨a', b'⟩ := v_
  simp [nz_lit, nz1_lit, nz_agg, nz_sl, nz1_sl, encLTSecret] at h
  first | (simp [h]; done) | (obtain ⟨⟩ := h; simp_all; done) | simp_all
@[simp] theorem c88_fn (a : List TSecret) (b : List TSecret) : c88.fn [.sl false 3 yTSecret (ML encTSecret a), .sl false 3 yTSecret (ML encTSecret b)] [] = some ((fun (a : List TSecret) (b : List TSecret) => a.length ≤ 1073741823 ∧ b.length ≤ 1073741823 ∧ (∀ x ∈ a, smS x) ∧ ∀ x ∈ b, smS x) a b, (fun (a : List TSecret) (b : List TSecret) => (dB (decide (a = b)) : D)) a b, (fun (a : List TSecret) (b : List TSecret) => []) a b) :=
  mkCon_fn (fun x y h _ => c88_inj x y h) ((a, b) : (List TSecret) × (List TSecret)) (by simp [nz, nz1, ML_nil, encLTSecret]) rfl
@[simp] theorem c88_fn1 (s_a : Nat) (z_a : D) (b : List TSecret) : c88.fn [.sl false s_a z_a [], .sl false 3 yTSecret (ML encTSecret b)] [] = some ((fun (a : List TSecret) (b : List TSecret) => a.length ≤ 1073741823 ∧ b.length ≤ 1073741823 ∧ (∀ x ∈ a, smS x) ∧ ∀ x ∈ b, smS x) [] b, (fun (a : List TSecret) (b : List TSecret) => (dB (decide (a = b)) : D)) [] b, (fun (a : List TSecret) (b : List TSecret) => []) [] b) :=
  mkCon_fn (fun x y h _ => c88_inj x y h) (([], b) : (List TSecret) × (List TSecret)) (by simp [nz, nz1, ML_nil, encLTSecret]) rfl
@[simp] theorem c88_fn2 (a : List TSecret) (s_b : Nat) (z_b : D) : c88.fn [.sl false 3 yTSecret (ML encTSecret a), .sl false s_b z_b []] [] = some ((fun (a : List TSecret) (b : List TSecret) => a.length ≤ 1073741823 ∧ b.length ≤ 1073741823 ∧ (∀ x ∈ a, smS x) ∧ ∀ x ∈ b, smS x) a [], (fun (a : List TSecret) (b : List TSecret) => (dB (decide (a = b)) : D)) a [], (fun (a : List TSecret) (b : List TSecret) => []) a []) :=
  mkCon_fn (fun x y h _ => c88_inj x y h) ((a, []) : (List TSecret) × (List TSecret)) (by simp [nz, nz1, ML_nil, encLTSecret]) rfl
@[simp] theorem c88_fn3 (s_a : Nat) (z_a : D) (s_b : Nat) (z_b : D) : c88.fn [.sl false s_a z_a [], .sl false s_b z_b []] [] = some ((fun (a : List TSecret) (b : List TSecret) => a.length ≤ 1073741823 ∧ b.length ≤ 1073741823 ∧ (∀ x ∈ a, smS x) ∧ ∀ x ∈ b, smS x) [] [], (fun (a : List TSecret) (b : List TSecret) => (dB (decide (a = b)) : D)) [] [], (fun (a : List TSecret) (b : List TSecret) => []) [] []) :=
  mkCon_fn (fun x y h _ => c88_inj x y h) (([], []) : (List TSecret) × (List TSecret)) (by simp [nz, nz1, ML_nil, encLTSecret]) rfl
theorem c88_pc (a : List TSecret) (b : List TSecret) (hpre : a.length ≤ 1073741823 ∧ b.length ≤ 1073741823 ∧ (∀ x ∈ a, smS x) ∧ ∀ x ∈ b, smS x) : PCo Try.prog 88 [encLTSecret a, encLTSecret b] (Tab.of []) (dB (decide (a = b))) (Tab.of []) := by
  refine pco_of_run [] (E := ⟨[c154], []⟩) (m := false) (base := 0) (Env.ok_cons c154_ok Env.ok_nil) G_ok mix 300 6 Try.func88 (by kernel_rfl) rfl (by kernel_rfl) (by kernel_rfl) rfl ?_
  simp [Try.f88]
  obtain ⟨pre1, pre2, pre3, pre4⟩ := hpre
  refine ⟨fun h => ?_, fun h => by intro e; subst e; exact absurd rfl h⟩
  refine loop_inv (fun p : Nat => p ≤ a.length ∧ a.take p = b.take p) (fun p => [(0, encLTSecret a), (1, encLTSecret b), (5, dI p)]) (fun _ => []) 1 (fun p => a.length - p) 0 400 (by simp) (by simp) (by simp) ?_
  intro p ⟨hp, hi⟩
  simp
  refine ⟨fun hlt => ?_, fun hge => take_eq_full hi (by omega) (by omega)⟩
  have ha := pre3 _ (getD_mem (d := default) hlt)
  have hb := pre4 _ (getD_mem (d := default) (show p < b.length by omega))
  simp at ha hb
  have hxx := sec_eq (a[p]?.getD default) (b[p]?.getD default)
  by_cases he : a[p]?.getD default = b[p]?.getD default
  · simp only [he]
    repeat' (first | omega | exact hb | exact ha.1 | refine And.intro ?_ ?_ | intro _)
    all_goals first | exact Again.mk (p + 1) ⟨by omega, take_eq_step hi (by omega) (by omega) he⟩ (by simp) (by first | omega | (simp; omega)) | (exfalso; simp_all; done)
  · have hne : ¬ a = b := fun e => he (by rw [e])
    have he2 := he
    rw [hxx] at he2
    generalize Again _ _ _ _ _ _ _ = A
    repeat' (first | omega | exact hne | exact hb | exact ha | refine And.intro ?_ ?_ | intro _)
    all_goals first | (exfalso; simp_all; done) | grind
theorem c88_ok : c88.ok Try.prog := mkCon_ok fun ⟨a, b⟩ hpre => c88_pc a b hpre
theorem wfSS {l : List TSecret} (h : wfLTSecret l) : l.length ≤ maxLen ∧ ∀ x ∈ l, x.Marks.length ≤ maxLen := ⟨h.1, fun x hx => wfS_len (h.2 x hx)⟩
/-- loop.example/g03007/laws.FnExactAreSecrets -/
theorem law17 (l : List TSecret) (wl : wfLTSecret l) : PCo Try.prog 17 [encLTSecret l] (Tab.of []) (dB true) (Tab.of []) := by
  refine pco_of_run [] (E := ⟨[c83, c84, c85, c86, c87], []⟩) (m := false) (base := 0) (Env.ok_cons c83_ok (Env.ok_cons c84_ok (Env.ok_cons c85_ok (Env.ok_cons c86_ok (Env.ok_cons c87_ok Env.ok_nil))))) G_ok mix 400 6 Try.func17 (by kernel_rfl) rfl (by kernel_rfl) (by kernel_rfl) rfl ?_
  simp (config := {maxSteps := 3000000}) [Try.f17]
  have h1 := wfSS wl
  refine ⟨h1, fun h => ?_⟩
  have h2 := szSS_ok h
  have h3 : ∀ x ∈ l, x.Marks.length ≤ 1073741823 := fun x hx => by have := h2.2.2 x hx; omega
  repeat' (first | exact h3 | omega | refine And.intro ?_ ?_ | intro _)
theorem law17_pc (D0 : D) (h0 : Sh G 9 101 D0) : PC Try.prog 17 [D0] (dB true) [] := by
  obtain ⟨l, rfl, wl⟩ := sh101 (n := 4) h0
  exact law17 l wl
/-- loop.example/g03007/laws.FnExactEqualSecrets -/
theorem law18 (a : List TSecret) (wa : wfLTSecret a) (b : List TSecret) (wb : wfLTSecret b) : PCo Try.prog 18 [encLTSecret a, encLTSecret b] (Tab.of []) (dB true) (Tab.of []) := by
  refine pco_of_run [] (E := ⟨[c83, c85, c87, c88, c89], []⟩) (m := false) (base := 0) (Env.ok_cons c83_ok (Env.ok_cons c85_ok (Env.ok_cons c87_ok (Env.ok_cons c88_ok (Env.ok_cons c89_ok Env.ok_nil))))) G_ok mix 400 6 Try.func18 (by kernel_rfl) rfl (by kernel_rfl) (by kernel_rfl) rfl ?_
  simp (config := {maxSteps := 3000000}) [Try.f18]
  have h1 := wfSS wa
  have h1b := wfSS wb
  refine ⟨h1, fun h => ?_⟩
  have h2 := szSS_ok h
  have h3 : ∀ x ∈ a, x.Marks.length ≤ 1073741823 := fun x hx => by have := h2.2.2 x hx; omega
  refine ⟨⟨h1b.1, h1b.2, by omega, by omega⟩, fun h' => ?_⟩
  have h5 := szSS_ok h'
  have h6 : ∀ x ∈ b, x.Marks.length ≤ 1073741823 := fun x hx => by have := h5.2.2 x hx; omega
  repeat' (first | exact h3 | exact h6 | omega | refine And.intro ?_ ?_ | intro _)
  all_goals first | done | trace_state
theorem law18_pc (D0 : D) (h0 : Sh G 9 101 D0) (D1 : D) (h1 : Sh G 9 101 D1) : PC Try.prog 18 [D0, D1] (dB true) [] := by
  obtain ⟨a, rfl, wa⟩ := sh101 (n := 4) h0
  obtain ⟨b, rfl, wb⟩ := sh101 (n := 4) h1
  exact law18 a wa b wb

end Go.Proofs.YtmhbciaolpamaaaR
