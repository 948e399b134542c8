/- Contracts of the functions that the laws run. -/
import Derived.Test.Ytnkggfhgmdbfpaach31
import Derived.Test.Ytnkggfhgmdbfpaagen
import Derived.Test.YtnkggfhgmdbfpaaEngB
namespace Go.Proofs.Ytnkggfhgmdbfpaa
open Go Go.Eng
set_option linter.unusedSimpArgs false
set_option linter.unusedVariables false
set_option maxRecDepth 10000
set_option maxHeartbeats 1000000
theorem szSec_le (r : TSecret) (q : Int) (h : 0 ≤ szSec r q) : szSec r q ≤ q := by
  simp only [szSec] at h ⊢; split at h <;> rename_i h2
  · omega
  · rw [if_neg h2]; omega
/-- loop.example/g03007/laws.szSecretS -/
noncomputable def c154 : Con := mkCon 154 false (α := (List TSecret) × Int) (fun x => (fun (l : List TSecret) (left : Int) => [encLTSecret l, dI left]) x.1 x.2) (fun _ => []) (fun x => (fun (l : List TSecret) (left : Int) => l.length ≤ maxLen ∧ (∀ x ∈ l, smSM x) ∧ 0 ≤ left ∧ left ≤ 1099511627776) x.1 x.2) (fun x => (fun (l : List TSecret) (left : Int) => (dI (szDeep szSec l left) : D)) x.1 x.2) (fun x => (fun (l : List TSecret) (left : Int) => []) x.1 x.2)
@[simp] theorem c154_f : c154.f = 154 := rfl
@[simp] theorem c154_own : c154.own = false := rfl
theorem c154_inj : ∀ u_ v_ : (List TSecret) × Int, ((fun x => (fun (l : List TSecret) (left : Int) => [encLTSecret l, dI left]) x.1 x.2) u_).map nz = ((fun x => (fun (l : List TSecret) (left : Int) => [encLTSecret l, dI left]) x.1 x.2) v_).map nz → u_ = v_ := by
  intro u_ v_ h
  obtain ⟨l, left⟩ := u_
  obtain ⟨l', left'⟩ := v_
  simp [nz_lit, nz1_lit, nz_agg, nz_sl, nz1_sl, encLTSecret] at h
  first | (simp [h]; done) | (obtain ⟨⟩ := h; simp_all; done) | simp_all
@[simp] theorem c154_fn (l : List TSecret) (left : Int) : c154.fn [.sl false 3 yTSecret (ML encTSecret l), .lit (.int .i64 left)] [] = some ((fun (l : List TSecret) (left : Int) => l.length ≤ maxLen ∧ (∀ x ∈ l, smSM x) ∧ 0 ≤ left ∧ left ≤ 1099511627776) l left, (fun (l : List TSecret) (left : Int) => (dI (szDeep szSec l left) : D)) l left, (fun (l : List TSecret) (left : Int) => []) l left) :=
  mkCon_fn (fun x y h _ => c154_inj x y h) ((l, left) : (List TSecret) × Int) (by simp [nz, nz1, ML_nil, encLTSecret]) rfl
@[simp] theorem c154_fn1 (s_l : Nat) (z_l : D) (left : Int) : c154.fn [.sl false s_l z_l [], .lit (.int .i64 left)] [] = some ((fun (l : List TSecret) (left : Int) => l.length ≤ maxLen ∧ (∀ x ∈ l, smSM x) ∧ 0 ≤ left ∧ left ≤ 1099511627776) [] left, (fun (l : List TSecret) (left : Int) => (dI (szDeep szSec l left) : D)) [] left, (fun (l : List TSecret) (left : Int) => []) [] left) :=
  mkCon_fn (fun x y h _ => c154_inj x y h) (([], left) : (List TSecret) × Int) (by simp [nz, nz1, ML_nil, encLTSecret]) rfl
theorem c154_pc (l : List TSecret) (left : Int) (hpre : l.length ≤ maxLen ∧ (∀ x ∈ l, smSM x) ∧ 0 ≤ left ∧ left ≤ 1099511627776) : PCo Try.prog 154 [encLTSecret l, dI left] (Tab.of []) (dI (szDeep szSec l left)) (Tab.of []) := by
  refine pco_of_run [] (E := ⟨[c223], []⟩) (m := false) (base := 0) (Env.ok_cons c223_ok Env.ok_nil) G_ok mix 300 6 Try.func154 (by kernel_rfl) rfl (by kernel_rfl) (by kernel_rfl) rfl ?_
  simp [Try.f154]
  obtain ⟨hp1, hp2, hp3, hp4⟩ := hpre
  simp [maxLen] at hp1
  refine ⟨by omega, fun h => ?_, fun hn => ?_⟩
  · rw [szDeep, if_pos h]
  have hd : szDeep szSec l left = szRun szSec (left - l.length) l := by rw [szDeep, if_neg (by omega)]
  refine loop_inv (fun p : Nat × Int => p.1 ≤ l.length ∧ 0 ≤ p.2 ∧ p.2 ≤ left ∧ szDeep szSec l left = szRun szSec p.2 (l.drop p.1)) (fun p => [(0, encLTSecret l), (1, dI p.2), (5, dI p.1)]) (fun _ => []) 1 (fun p => l.length - p.1) (0, left - l.length) 400 (by simp) (by simp [hd]; omega) (by simp) ?_
  intro ⟨p, q⟩ ⟨hp, hq1, hq2, hi⟩
  simp at hp hq1 hq2 hi ⊢
  refine ⟨fun hlt => ?_, fun hge => ?_⟩
  · rw [szRun_at (d := default) hlt] at hi
    have hx := hp2 _ (getD_mem (d := default) hlt)
    simp at hx
    have hle := szSec_le (l[p]?.getD default) q
    refine ⟨⟨hlt, hx, hq1, by omega⟩, fun h => by rw [hi, if_pos h], fun h => ⟨by omega, ?_⟩⟩
    rw [if_neg (by omega)] at hi
    exact Again.mk (p + 1, szSec (l[p]?.getD default) q) ⟨by simp; omega, by simp; omega, by have := hle (by omega); simp; omega, by simpa using hi⟩ (by simp) (by first | omega | (simp; omega))
  · rw [hi, szRun_end hge]
theorem c154_ok : c154.ok Try.prog := mkCon_ok fun ⟨l, left⟩ hpre => c154_pc l left hpre
/-- loop.example/g03007/laws.toSecretS -/
noncomputable def c162 : Con := mkCon 162 false (α := (List TSecret)) (fun x => (fun (l : List TSecret) => [encLTSecret l]) x) (fun _ => []) (fun x => (fun (l : List TSecret) => l.length ≤ 1099511627776 ∧ ∀ x ∈ l, smS x) x) (fun x => (fun (l : List TSecret) => (encLTSecret l : D)) x) (fun x => (fun (l : List TSecret) => []) x)
@[simp] theorem c162_f : c162.f = 162 := rfl
@[simp] theorem c162_own : c162.own = false := rfl
theorem c162_inj : ∀ u_ v_ : (List TSecret), ((fun x => (fun (l : List TSecret) => [encLTSecret l]) x) u_).map nz = ((fun x => (fun (l : List TSecret) => [encLTSecret l]) x) v_).map nz → u_ = v_ := by
  intro u_ v_ h
  obtain l := u_
  obtain l' := v_
  simp [nz_lit, nz1_lit, nz_agg, nz_sl, nz1_sl, encLTSecret] at h
  first | (simp [h]; done) | (obtain ⟨⟩ := h; simp_all; done) | simp_all
@[simp] theorem c162_fn (l : List TSecret) : c162.fn [.sl false 3 yTSecret (ML encTSecret l)] [] = some ((fun (l : List TSecret) => l.length ≤ 1099511627776 ∧ ∀ x ∈ l, smS x) l, (fun (l : List TSecret) => (encLTSecret l : D)) l, (fun (l : List TSecret) => []) l) :=
  mkCon_fn (fun x y h _ => c162_inj x y h) (l : (List TSecret)) (by simp [nz, nz1, ML_nil, encLTSecret]) rfl
@[simp] theorem c162_fn1 (s_l : Nat) (z_l : D) : c162.fn [.sl false s_l z_l []] [] = some ((fun (l : List TSecret) => l.length ≤ 1099511627776 ∧ ∀ x ∈ l, smS x) [], (fun (l : List TSecret) => (encLTSecret l : D)) [], (fun (l : List TSecret) => []) []) :=
  mkCon_fn (fun x y h _ => c162_inj x y h) ([] : (List TSecret)) (by simp [nz, nz1, ML_nil, encLTSecret]) rfl
theorem c162_pc (l : List TSecret) (hpre : l.length ≤ 1099511627776 ∧ ∀ x ∈ l, smS x) : PCo Try.prog 162 [encLTSecret l] (Tab.of []) (encLTSecret l) (Tab.of []) := by
  refine pco_of_run [] (E := ⟨[c225], []⟩) (m := false) (base := 0) (Env.ok_cons c225_ok Env.ok_nil) G_ok mix 300 6 Try.func162 (by kernel_rfl) rfl (by kernel_rfl) (by kernel_rfl) rfl ?_
  simp [Try.f162]
  obtain ⟨hp1, hp2⟩ := hpre
  refine ⟨by omega, ?_⟩
  refine loop_inv (fun p : Nat => p ≤ l.length) (fun p => [(0, encLTSecret l), (3, .own (0, 1) 3 0 l.length), (4, dI p)]) (fun p => [((0, 1), .arr false 3 (.agg [dI 0, .sl true 0 .any [], dI 0]) (ML encTSecret (l.take p) ++ List.replicate (l.length - p) (.agg [dI 0, .sl true 0 .any [], dI 0])))]) 2 (fun p => l.length - p) 0 400 (by simp) (by simp) (by simp) ?_
  intro p hp
  by_cases hlt : p < l.length
  · have hx := hp2 _ (getD_mem (d := default) hlt)
    simp at hx
    have hg := fillZ (e := encTSecret) (z := (.agg [dI 0, .sl true 0 .any [], dI 0])) (d := (.agg [dI 0, .sl true 0 .any [], dI 0])) hlt
    have hs := fillS (e := encTSecret) (z := (.agg [dI 0, .sl true 0 .any [], dI 0])) (d := default) hlt rfl
    simp at hs
    simp [hg]
    refine ⟨fun _ => ?_, fun h => absurd hlt (by omega)⟩
    repeat' (first | exact hx | omega | refine And.intro ?_ ?_ | intro _)
    refine Again.mk (p + 1) (by omega) ?_ (by first | omega | (simp; omega))
    simp [hs]
  · have : p = l.length := by omega
    subst this; simp
theorem c162_ok : c162.ok Try.prog := mkCon_ok fun l hpre => c162_pc l hpre
/-- loop.example/g03007/laws.eqSecretS -/
noncomputable def c174 : Con := mkCon 174 false (α := (List TSecret) × (List TSecret)) (fun x => (fun (a : List TSecret) (b : List TSecret) => [encLTSecret a, encLTSecret b]) x.1 x.2) (fun _ => []) (fun x => (fun (a : List TSecret) (b : List TSecret) => a.length ≤ 1099511627776 ∧ b.length ≤ 1099511627776 ∧ (∀ x ∈ a, smS x) ∧ ∀ x ∈ b, smS x) x.1 x.2) (fun x => (fun (a : List TSecret) (b : List TSecret) => (dB (decide (a = b)) : D)) x.1 x.2) (fun x => (fun (a : List TSecret) (b : List TSecret) => []) x.1 x.2)
@[simp] theorem c174_f : c174.f = 174 := rfl
@[simp] theorem c174_own : c174.own = false := rfl
theorem c174_inj : ∀ u_ v_ : (List TSecret) × (List TSecret), ((fun x => (fun (a : List TSecret) (b : List TSecret) => [encLTSecret a, encLTSecret b]) x.1 x.2) u_).map nz = ((fun x => (fun (a : List TSecret) (b : List TSecret) => [encLTSecret a, encLTSecret b]) x.1 x.2) v_).map nz → u_ = v_ := by
  intro u_ v_ h
  obtain ⟨a, b⟩ := u_
  obtain ⟨a', b'⟩ := v_
  simp [nz_lit, nz1_lit, nz_agg, nz_sl, nz1_sl, encLTSecret] at h
  first | (simp [h]; done) | (obtain ⟨⟩ := h; simp_all; done) | simp_all
@[simp] theorem c174_fn (a : List TSecret) (b : List TSecret) : c174.fn [.sl false 3 yTSecret (ML encTSecret a), .sl false 3 yTSecret (ML encTSecret b)] [] = some ((fun (a : List TSecret) (b : List TSecret) => a.length ≤ 1099511627776 ∧ b.length ≤ 1099511627776 ∧ (∀ x ∈ a, smS x) ∧ ∀ x ∈ b, smS x) a b, (fun (a : List TSecret) (b : List TSecret) => (dB (decide (a = b)) : D)) a b, (fun (a : List TSecret) (b : List TSecret) => []) a b) :=
  mkCon_fn (fun x y h _ => c174_inj x y h) ((a, b) : (List TSecret) × (List TSecret)) (by simp [nz, nz1, ML_nil, encLTSecret]) rfl
@[simp] theorem c174_fn1 (s_a : Nat) (z_a : D) (b : List TSecret) : c174.fn [.sl false s_a z_a [], .sl false 3 yTSecret (ML encTSecret b)] [] = some ((fun (a : List TSecret) (b : List TSecret) => a.length ≤ 1099511627776 ∧ b.length ≤ 1099511627776 ∧ (∀ x ∈ a, smS x) ∧ ∀ x ∈ b, smS x) [] b, (fun (a : List TSecret) (b : List TSecret) => (dB (decide (a = b)) : D)) [] b, (fun (a : List TSecret) (b : List TSecret) => []) [] b) :=
  mkCon_fn (fun x y h _ => c174_inj x y h) (([], b) : (List TSecret) × (List TSecret)) (by simp [nz, nz1, ML_nil, encLTSecret]) rfl
@[simp] theorem c174_fn2 (a : List TSecret) (s_b : Nat) (z_b : D) : c174.fn [.sl false 3 yTSecret (ML encTSecret a), .sl false s_b z_b []] [] = some ((fun (a : List TSecret) (b : List TSecret) => a.length ≤ 1099511627776 ∧ b.length ≤ 1099511627776 ∧ (∀ x ∈ a, smS x) ∧ ∀ x ∈ b, smS x) a [], (fun (a : List TSecret) (b : List TSecret) => (dB (decide (a = b)) : D)) a [], (fun (a : List TSecret) (b : List TSecret) => []) a []) :=
  mkCon_fn (fun x y h _ => c174_inj x y h) ((a, []) : (List TSecret) × (List TSecret)) (by simp [nz, nz1, ML_nil, encLTSecret]) rfl
@[simp] theorem c174_fn3 (s_a : Nat) (z_a : D) (s_b : Nat) (z_b : D) : c174.fn [.sl false s_a z_a [], .sl false s_b z_b []] [] = some ((fun (a : List TSecret) (b : List TSecret) => a.length ≤ 1099511627776 ∧ b.length ≤ 1099511627776 ∧ (∀ x ∈ a, smS x) ∧ ∀ x ∈ b, smS x) [] [], (fun (a : List TSecret) (b : List TSecret) => (dB (decide (a = b)) : D)) [] [], (fun (a : List TSecret) (b : List TSecret) => []) [] []) :=
  mkCon_fn (fun x y h _ => c174_inj x y h) (([], []) : (List TSecret) × (List TSecret)) (by simp [nz, nz1, ML_nil, encLTSecret]) rfl
theorem c174_pc (a : List TSecret) (b : List TSecret) (hpre : a.length ≤ 1099511627776 ∧ b.length ≤ 1099511627776 ∧ (∀ x ∈ a, smS x) ∧ ∀ x ∈ b, smS x) : PCo Try.prog 174 [encLTSecret a, encLTSecret b] (Tab.of []) (dB (decide (a = b))) (Tab.of []) := by
  refine pco_of_run [] (E := ⟨[c233], []⟩) (m := false) (base := 0) (Env.ok_cons c233_ok Env.ok_nil) G_ok mix 300 6 Try.func174 (by kernel_rfl) rfl (by kernel_rfl) (by kernel_rfl) rfl ?_
  simp [Try.f174]
  obtain ⟨pre1, pre2, pre3, pre4⟩ := hpre
  refine ⟨fun h => ?_, fun h => by intro e; subst e; exact absurd rfl h⟩
  refine loop_inv (fun p : Nat => p ≤ a.length ∧ a.take p = b.take p) (fun p => [(0, encLTSecret a), (1, encLTSecret b), (5, dI p)]) (fun _ => []) 1 (fun p => a.length - p) 0 100 (by simp) (by simp) (by simp) ?_
  intro p ⟨hp, hi⟩
  simp
  refine ⟨fun hlt => ?_, fun hge => take_eq_full hi (by omega) (by omega)⟩
  have ha := pre3 _ (getD_mem (d := default) hlt)
  have hb := pre4 _ (getD_mem (d := default) (show p < b.length by omega))
  simp at ha hb
  refine ⟨⟨hlt, by omega, ha, hb⟩, fun h2 => ⟨by omega, Again.mk (p + 1) ⟨by omega, take_eq_step hi (by omega) (by omega) h2⟩ (by simp) (by first | omega | (simp; omega))⟩, fun h2 => by intro e; subst e; exact absurd rfl h2⟩
theorem c174_ok : c174.ok Try.prog := mkCon_ok fun ⟨a, b⟩ hpre => c174_pc a b hpre
theorem szSS_ok {l : List TSecret} {left : Int} (h : 0 ≤ szDeep szSec l left) : l.length ≤ left ∧ szDeep szSec l left ≤ left ∧ ∀ x ∈ l, (x.Marks.length : Int) ≤ left :=
  szDeep_all (R := fun q x => (x.Marks.length : Int) ≤ q) (fun x q h => ⟨szSec_le x q h, szSec_len h⟩) (fun a b x h h2 => by omega) h
@[simp] def nSecret (x : TSecret) : Int := x.Thing
def mIsSecret (x : TSecret) : Bool := mIn x.Thing 1 999 && decide (0 < x.Marks.length) && mAreMarks x.Marks && mIn x.Salt 0 1000000
def mAreSecrets (l : List TSecret) : Bool := decide (l.length ≤ 20) && ascBy mIsSecret nSecret none l
theorem mark_eqc (x y : TMark) : (x = y) = (x.Question = y.Question ∧ x.Answer = y.Answer) := by cases x; cases y; simp
/-- loop.example/g03007/spec.l31Marks -/
noncomputable def c224 : Con := mkCon 224 false (α := (List TMark) × (List TMark)) (fun x => (fun (a : List TMark) (b : List TMark) => [encLTMark a, encLTMark b]) x.1 x.2) (fun _ => []) (fun x => (fun (a : List TMark) (b : List TMark) => a.length ≤ 1099511627776 ∧ b.length ≤ 1099511627776) x.1 x.2) (fun x => (fun (a : List TMark) (b : List TMark) => (dB (decide (a = b)) : D)) x.1 x.2) (fun x => (fun (a : List TMark) (b : List TMark) => []) x.1 x.2)
@[simp] theorem c224_f : c224.f = 224 := rfl
@[simp] theorem c224_own : c224.own = false := rfl
theorem c224_inj : ∀ u_ v_ : (List TMark) × (List TMark), ((fun x => (fun (a : List TMark) (b : List TMark) => [encLTMark a, encLTMark b]) x.1 x.2) u_).map nz = ((fun x => (fun (a : List TMark) (b : List TMark) => [encLTMark a, encLTMark b]) x.1 x.2) v_).map nz → u_ = v_ := by
  intro u_ v_ h
  obtain ⟨a, b⟩ := u_
  obtain ⟨a', b'⟩ := v_
  simp [nz_lit, nz1_lit, nz_agg, nz_sl, nz1_sl, encLTMark] at h
  first | (simp [h]; done) | (obtain ⟨⟩ := h; simp_all; done) | simp_all
@[simp] theorem c224_fn (a : List TMark) (b : List TMark) : c224.fn [.sl false 2 yTMark (ML encTMark a), .sl false 2 yTMark (ML encTMark b)] [] = some ((fun (a : List TMark) (b : List TMark) => a.length ≤ 1099511627776 ∧ b.length ≤ 1099511627776) a b, (fun (a : List TMark) (b : List TMark) => (dB (decide (a = b)) : D)) a b, (fun (a : List TMark) (b : List TMark) => []) a b) :=
  mkCon_fn (fun x y h _ => c224_inj x y h) ((a, b) : (List TMark) × (List TMark)) (by simp [nz, nz1, ML_nil, encLTMark]) rfl
@[simp] theorem c224_fn1 (s_a : Nat) (z_a : D) (b : List TMark) : c224.fn [.sl false s_a z_a [], .sl false 2 yTMark (ML encTMark b)] [] = some ((fun (a : List TMark) (b : List TMark) => a.length ≤ 1099511627776 ∧ b.length ≤ 1099511627776) [] b, (fun (a : List TMark) (b : List TMark) => (dB (decide (a = b)) : D)) [] b, (fun (a : List TMark) (b : List TMark) => []) [] b) :=
  mkCon_fn (fun x y h _ => c224_inj x y h) (([], b) : (List TMark) × (List TMark)) (by simp [nz, nz1, ML_nil, encLTMark]) rfl
@[simp] theorem c224_fn2 (a : List TMark) (s_b : Nat) (z_b : D) : c224.fn [.sl false 2 yTMark (ML encTMark a), .sl false s_b z_b []] [] = some ((fun (a : List TMark) (b : List TMark) => a.length ≤ 1099511627776 ∧ b.length ≤ 1099511627776) a [], (fun (a : List TMark) (b : List TMark) => (dB (decide (a = b)) : D)) a [], (fun (a : List TMark) (b : List TMark) => []) a []) :=
  mkCon_fn (fun x y h _ => c224_inj x y h) ((a, []) : (List TMark) × (List TMark)) (by simp [nz, nz1, ML_nil, encLTMark]) rfl
@[simp] theorem c224_fn3 (s_a : Nat) (z_a : D) (s_b : Nat) (z_b : D) : c224.fn [.sl false s_a z_a [], .sl false s_b z_b []] [] = some ((fun (a : List TMark) (b : List TMark) => a.length ≤ 1099511627776 ∧ b.length ≤ 1099511627776) [] [], (fun (a : List TMark) (b : List TMark) => (dB (decide (a = b)) : D)) [] [], (fun (a : List TMark) (b : List TMark) => []) [] []) :=
  mkCon_fn (fun x y h _ => c224_inj x y h) (([], []) : (List TMark) × (List TMark)) (by simp [nz, nz1, ML_nil, encLTMark]) rfl
theorem c224_pc (a : List TMark) (b : List TMark) (hpre : a.length ≤ 1099511627776 ∧ b.length ≤ 1099511627776) : PCo Try.prog 224 [encLTMark a, encLTMark b] (Tab.of []) (dB (decide (a = b))) (Tab.of []) := by
  refine pco_of_run [] (E := ⟨[], []⟩) (m := false) (base := 0) Env.ok_nil G_ok mix 300 6 Try.func224 (by kernel_rfl) rfl (by kernel_rfl) (by kernel_rfl) rfl ?_
  simp [Try.f224]
  obtain ⟨pre1, pre2⟩ := hpre
  refine ⟨fun h => ?_, fun h => by intro e; subst e; exact absurd rfl h⟩
  refine loop_inv (fun p : Nat => p ≤ a.length ∧ a.take p = b.take p) (fun p => [(0, encLTMark a), (1, encLTMark b), (5, dI p)]) (fun _ => []) 1 (fun p => a.length - p) 0 100 (by simp) (by simp) (by simp) ?_
  intro p ⟨hp, hi⟩
  simp
  refine ⟨fun hlt => ?_, fun hge => take_eq_full hi (by omega) (by omega)⟩
  have hx := mark_eqc (a[p]?.getD default) (b[p]?.getD default)
  by_cases he : a[p]?.getD default = b[p]?.getD default
  · simp only [he]
    repeat' (first | omega | refine And.intro ?_ ?_ | intro _)
    all_goals first | exact Again.mk (p + 1) ⟨by omega, take_eq_step hi (by omega) (by omega) he⟩ (by simp) (by first | omega | (simp; omega)) | (exfalso; simp_all; done)
  · have hne : ¬ a = b := fun e => he (by rw [e])
    rw [hx] at he
    generalize Again _ _ _ _ _ _ _ = A
    repeat' (first | omega | exact hne | refine And.intro ?_ ?_ | intro _)
    all_goals first | (exfalso; simp_all; done) | grind
theorem c224_ok : c224.ok Try.prog := mkCon_ok fun ⟨a, b⟩ hpre => c224_pc a b hpre
/-- slices.Equal[[]loop.example/g03007/impl.Mar -/
noncomputable def c232 : Con := mkCon 232 false (α := (List TMark) × (List TMark)) (fun x => (fun (a : List TMark) (b : List TMark) => [encLTMark a, encLTMark b]) x.1 x.2) (fun _ => []) (fun x => (fun (a : List TMark) (b : List TMark) => a.length ≤ 1099511627776 ∧ b.length ≤ 1099511627776) x.1 x.2) (fun x => (fun (a : List TMark) (b : List TMark) => (dB (decide (a = b)) : D)) x.1 x.2) (fun x => (fun (a : List TMark) (b : List TMark) => []) x.1 x.2)
@[simp] theorem c232_f : c232.f = 232 := rfl
@[simp] theorem c232_own : c232.own = false := rfl
theorem c232_inj : ∀ u_ v_ : (List TMark) × (List TMark), ((fun x => (fun (a : List TMark) (b : List TMark) => [encLTMark a, encLTMark b]) x.1 x.2) u_).map nz = ((fun x => (fun (a : List TMark) (b : List TMark) => [encLTMark a, encLTMark b]) x.1 x.2) v_).map nz → u_ = v_ := by
  intro u_ v_ h
  obtain ⟨a, b⟩ := u_
  obtain ⟨a', b'⟩ := v_
  simp [nz_lit, nz1_lit, nz_agg, nz_sl, nz1_sl, encLTMark] at h
  first | (simp [h]; done) | (obtain ⟨⟩ := h; simp_all; done) | simp_all
@[simp] theorem c232_fn (a : List TMark) (b : List TMark) : c232.fn [.sl false 2 yTMark (ML encTMark a), .sl false 2 yTMark (ML encTMark b)] [] = some ((fun (a : List TMark) (b : List TMark) => a.length ≤ 1099511627776 ∧ b.length ≤ 1099511627776) a b, (fun (a : List TMark) (b : List TMark) => (dB (decide (a = b)) : D)) a b, (fun (a : List TMark) (b : List TMark) => []) a b) :=
  mkCon_fn (fun x y h _ => c232_inj x y h) ((a, b) : (List TMark) × (List TMark)) (by simp [nz, nz1, ML_nil, encLTMark]) rfl
@[simp] theorem c232_fn1 (s_a : Nat) (z_a : D) (b : List TMark) : c232.fn [.sl false s_a z_a [], .sl false 2 yTMark (ML encTMark b)] [] = some ((fun (a : List TMark) (b : List TMark) => a.length ≤ 1099511627776 ∧ b.length ≤ 1099511627776) [] b, (fun (a : List TMark) (b : List TMark) => (dB (decide (a = b)) : D)) [] b, (fun (a : List TMark) (b : List TMark) => []) [] b) :=
  mkCon_fn (fun x y h _ => c232_inj x y h) (([], b) : (List TMark) × (List TMark)) (by simp [nz, nz1, ML_nil, encLTMark]) rfl
@[simp] theorem c232_fn2 (a : List TMark) (s_b : Nat) (z_b : D) : c232.fn [.sl false 2 yTMark (ML encTMark a), .sl false s_b z_b []] [] = some ((fun (a : List TMark) (b : List TMark) => a.length ≤ 1099511627776 ∧ b.length ≤ 1099511627776) a [], (fun (a : List TMark) (b : List TMark) => (dB (decide (a = b)) : D)) a [], (fun (a : List TMark) (b : List TMark) => []) a []) :=
  mkCon_fn (fun x y h _ => c232_inj x y h) ((a, []) : (List TMark) × (List TMark)) (by simp [nz, nz1, ML_nil, encLTMark]) rfl
@[simp] theorem c232_fn3 (s_a : Nat) (z_a : D) (s_b : Nat) (z_b : D) : c232.fn [.sl false s_a z_a [], .sl false s_b z_b []] [] = some ((fun (a : List TMark) (b : List TMark) => a.length ≤ 1099511627776 ∧ b.length ≤ 1099511627776) [] [], (fun (a : List TMark) (b : List TMark) => (dB (decide (a = b)) : D)) [] [], (fun (a : List TMark) (b : List TMark) => []) [] []) :=
  mkCon_fn (fun x y h _ => c232_inj x y h) (([], []) : (List TMark) × (List TMark)) (by simp [nz, nz1, ML_nil, encLTMark]) rfl
theorem c232_pc (a : List TMark) (b : List TMark) (hpre : a.length ≤ 1099511627776 ∧ b.length ≤ 1099511627776) : PCo Try.prog 232 [encLTMark a, encLTMark b] (Tab.of []) (dB (decide (a = b))) (Tab.of []) := by
  refine pco_of_run [] (E := ⟨[], []⟩) (m := false) (base := 0) Env.ok_nil G_ok mix 300 6 Try.func232 (by kernel_rfl) rfl (by kernel_rfl) (by kernel_rfl) rfl ?_
  simp [Try.f232]
  obtain ⟨pre1, pre2⟩ := hpre
  refine ⟨fun h => ?_, fun h => by intro e; subst e; exact absurd rfl h⟩
  refine loop_inv (fun p : Nat => p ≤ a.length ∧ a.take p = b.take p) (fun p => [(0, encLTMark a), (1, encLTMark b), (12, dI a.length), (13, dI p)]) (fun _ => []) 1 (fun p => a.length - p) 0 100 (by simp) (by simp) (by simp) ?_
  intro p ⟨hp, hi⟩
  simp
  refine ⟨fun hlt => ?_, fun hge => take_eq_full hi (by omega) (by omega)⟩
  have hx := mark_eqc (a[p]?.getD default) (b[p]?.getD default)
  by_cases he : a[p]?.getD default = b[p]?.getD default
  · simp only [he]
    repeat' (first | omega | refine And.intro ?_ ?_ | intro _)
    all_goals first | exact Again.mk (p + 1) ⟨by omega, take_eq_step hi (by omega) (by omega) he⟩ (by simp) (by first | omega | (simp; omega)) | (exfalso; simp_all; done)
  · have hne : ¬ a = b := fun e => he (by rw [e])
    rw [hx] at he
    generalize Again _ _ _ _ _ _ _ = A
    repeat' (first | omega | exact hne | refine And.intro ?_ ?_ | intro _)
    all_goals first | (exfalso; simp_all; done) | grind
theorem c232_ok : c232.ok Try.prog := mkCon_ok fun ⟨a, b⟩ hpre => c232_pc a b hpre
theorem sec_eq (x y : TSecret) : (x = y) = (x.Thing = y.Thing ∧ x.Marks = y.Marks ∧ x.Salt = y.Salt) := by cases x; cases y; simp
/-- loop.example/g03007/impl.EqualSecrets$1 -/
noncomputable def c231 : Con := mkCon 231 false (α := TSecret × TSecret) (fun x => (fun (x : TSecret) (y : TSecret) => [encTSecret x, encTSecret y]) x.1 x.2) (fun _ => []) (fun x => (fun (x : TSecret) (y : TSecret) => smS x ∧ smS y) x.1 x.2) (fun x => (fun (x : TSecret) (y : TSecret) => (dB (decide (x = y)) : D)) x.1 x.2) (fun x => (fun (x : TSecret) (y : TSecret) => []) x.1 x.2)
@[simp] theorem c231_f : c231.f = 231 := rfl
@[simp] theorem c231_own : c231.own = false := rfl
theorem c231_inj : ∀ u_ v_ : TSecret × TSecret, ((fun x => (fun (x : TSecret) (y : TSecret) => [encTSecret x, encTSecret y]) x.1 x.2) u_).map nz = ((fun x => (fun (x : TSecret) (y : TSecret) => [encTSecret x, encTSecret y]) x.1 x.2) v_).map nz → u_ = v_ := by
  intro u_ v_ h
  obtain ⟨⟨x_Thing, x_Marks, x_Salt⟩, ⟨y_Thing, y_Marks, y_Salt⟩⟩ := u_
  obtain ⟨⟨x_Thing', x_Marks', x_Salt'⟩, ⟨y_Thing', y_Marks', y_Salt'⟩⟩ := v_
  simp [nz_lit, nz1_lit, nz_agg, nz_sl, nz1_sl, encLTMark, encTSecret] at h
  first | (simp [h]; done) | (obtain ⟨⟩ := h; simp_all; done) | simp_all
@[simp] theorem c231_fn (x_Thing : Int) (x_Marks : List TMark) (x_Salt : Int) (y_Thing : Int) (y_Marks : List TMark) (y_Salt : Int) : c231.fn [.agg [.lit (.int .i64 x_Thing), .sl false 2 yTMark (ML encTMark x_Marks), .lit (.int .i64 x_Salt)], .agg [.lit (.int .i64 y_Thing), .sl false 2 yTMark (ML encTMark y_Marks), .lit (.int .i64 y_Salt)]] [] = some ((fun (x : TSecret) (y : TSecret) => smS x ∧ smS y) ⟨x_Thing, x_Marks, x_Salt⟩ ⟨y_Thing, y_Marks, y_Salt⟩, (fun (x : TSecret) (y : TSecret) => (dB (decide (x = y)) : D)) ⟨x_Thing, x_Marks, x_Salt⟩ ⟨y_Thing, y_Marks, y_Salt⟩, (fun (x : TSecret) (y : TSecret) => []) ⟨x_Thing, x_Marks, x_Salt⟩ ⟨y_Thing, y_Marks, y_Salt⟩) :=
  mkCon_fn (fun x y h _ => c231_inj x y h) ((⟨x_Thing, x_Marks, x_Salt⟩, ⟨y_Thing, y_Marks, y_Salt⟩) : TSecret × TSecret) (by simp [nz, nz1, ML_nil, encLTMark, encTSecret]) rfl
theorem c231_pc (x : TSecret) (y : TSecret) (hpre : smS x ∧ smS y) : PCo Try.prog 231 [encTSecret x, encTSecret y] (Tab.of []) (dB (decide (x = y))) (Tab.of []) := by
  obtain ⟨x_Thing, x_Marks, x_Salt⟩ := x
  obtain ⟨y_Thing, y_Marks, y_Salt⟩ := y
  refine pco_of_run [] (E := ⟨[c232], []⟩) (m := false) (base := 0) (Env.ok_cons c232_ok Env.ok_nil) G_ok mix 300 6 Try.func231 (by kernel_rfl) rfl (by kernel_rfl) (by kernel_rfl) rfl ?_
  simp [Try.f231]
  simp at hpre
  repeat' (first | omega | refine And.intro ?_ ?_ | intro _)
  first | rfl | omega | (rw [Bool.eq_iff_iff]; simp; done) | (rw [Bool.eq_iff_iff]; simp; omega) | (rw [Bool.eq_iff_iff]; simp; grind) | grind
theorem c231_ok : c231.ok Try.prog := mkCon_ok fun ⟨x, y⟩ hpre => c231_pc x y hpre
/-- slices.EqualFunc[[]loop.example/g03007/impl.Secre -/
noncomputable def c230 : Con := mkCon 230 false (α := (List TSecret) × (List TSecret)) (fun x => (fun (a : List TSecret) (b : List TSecret) => ([encLTSecret a, encLTSecret b, .fn (.func 231) [] []] : List D)) x.1 x.2) (fun x => (fun (a : List TSecret) (b : List TSecret) => ([] : List (Nm × OO))) x.1 x.2) (fun x => (fun (a : List TSecret) (b : List TSecret) => a.length ≤ 1073741823 ∧ b.length ≤ 1073741823 ∧ (∀ x ∈ a, smS x) ∧ ∀ x ∈ b, smS x) x.1 x.2) (fun x => (fun (a : List TSecret) (b : List TSecret) => (dB (decide (a = b)) : D)) x.1 x.2) (fun x => (fun (a : List TSecret) (b : List TSecret) => ([] : List (Nm × OO))) x.1 x.2)
@[simp] theorem c230_f : c230.f = 230 := rfl
@[simp] theorem c230_own : c230.own = false := rfl
theorem c230_inj : ∀ u_ v_ : (List TSecret) × (List TSecret), ((fun x => (fun (a : List TSecret) (b : List TSecret) => ([encLTSecret a, encLTSecret b, .fn (.func 231) [] []] : List D)) x.1 x.2) u_).map nz = ((fun x => (fun (a : List TSecret) (b : List TSecret) => ([encLTSecret a, encLTSecret b, .fn (.func 231) [] []] : List D)) x.1 x.2) v_).map nz → (fun x => (fun (a : List TSecret) (b : List TSecret) => ([] : List (Nm × OO))) x.1 x.2) u_ = (fun x => (fun (a : List TSecret) (b : List TSecret) => ([] : List (Nm × OO))) x.1 x.2) v_ → u_ = v_ := by
  intro u_ v_ h h2_
  obtain ⟨a, b⟩ := u_
  obtain ⟨a', b'⟩ := v_
  simp [nz_lit, nz1_lit, nz_agg, nz_sl, nz1_sl, nz_sx, nz_el, nz1_el, nz_own, nz1_own, nz_ptr, nz_fn, nz_iface] at h h2_
  first | (simp [h, h2_]; done) | (obtain ⟨h3_, h4_⟩ := List.append_inj h2_ h.1; simp_all; done) | simp_all | grind
@[simp] theorem c230_fn (a : List TSecret) (b : List TSecret) : c230.fn ([(.sl false 3 yTSecret (ML encTSecret a)), (.sl false 3 yTSecret (ML encTSecret b)), .fn (.func 231) [] []]) ([]) = some (a.length ≤ 1073741823 ∧ b.length ≤ 1073741823 ∧ (∀ x ∈ a, smS x) ∧ ∀ x ∈ b, smS x, dB (decide (a = b)), []) :=
  mkCon_fn c230_inj ((a, b) : (List TSecret) × (List TSecret)) rfl rfl
theorem c230_pc (a : List TSecret) (b : List TSecret) (hpre : a.length ≤ 1073741823 ∧ b.length ≤ 1073741823 ∧ (∀ x ∈ a, smS x) ∧ ∀ x ∈ b, smS x) : PCo Try.prog 230 ([encLTSecret a, encLTSecret b, .fn (.func 231) [] []]) (Tab.of ([])) (dB (decide (a = b))) (Tab.of ([])) := by
  refine pco_of_run [] (E := ⟨[c231], []⟩) (m := false) (base := 0) (Env.ok_cons c231_ok Env.ok_nil) G_ok mix 300 6 Try.func230 (by kernel_rfl) rfl (by kernel_rfl) (by kernel_rfl) rfl ?_
  simp [Try.f230]
  obtain ⟨pre1, pre2, pre3, pre4⟩ := hpre
  refine ⟨fun h => ?_, fun h => by intro e; subst e; exact absurd rfl h⟩
  refine loop_inv (fun p : Nat => p ≤ a.length ∧ a.take p = b.take p) (fun p => [(1, encLTSecret b), (2, .fn (.func 231) [] []), (15, encLTSecret a), (16, dI a.length), (17, dI p)]) (fun _ => []) 1 (fun p => a.length - p) 0 400 (by simp) (by simp) (by simp) ?_
  intro p ⟨hp, hi⟩
  simp
  refine ⟨fun hlt => ?_, fun hge => take_eq_full hi (by omega) (by omega)⟩
  have ha := pre3 _ (getD_mem (d := default) hlt)
  have hb := pre4 _ (getD_mem (d := default) (show p < b.length by omega))
  simp at ha hb
  have hxx := sec_eq (a[p]?.getD default) (b[p]?.getD default)
  by_cases he : a[p]?.getD default = b[p]?.getD default
  · simp only [he]
    repeat' (first | omega | exact hb | exact ha.1 | refine And.intro ?_ ?_ | intro _)
    all_goals first | exact Again.mk (p + 1) ⟨by omega, take_eq_step hi (by omega) (by omega) he⟩ (by simp) (by first | omega | (simp; omega)) | (exfalso; simp_all; done)
  · have hne : ¬ a = b := fun e => he (by rw [e])
    have he2 := he
    rw [hxx] at he2
    generalize Again _ _ _ _ _ _ _ = A
    repeat' (first | omega | exact hne | exact hb | exact ha | refine And.intro ?_ ?_ | intro _)
    all_goals first | (exfalso; simp_all; done) | grind
theorem c230_ok : c230.ok Try.prog := mkCon_ok fun ⟨a, b⟩ hpre => c230_pc a b hpre
/-- loop.example/g03007/impl.EqualSecrets -/
noncomputable def c168 : Con := mkCon 168 false (α := (List TSecret) × (List TSecret)) (fun x => (fun (a : List TSecret) (b : List TSecret) => [encLTSecret a, encLTSecret b]) x.1 x.2) (fun _ => []) (fun x => (fun (a : List TSecret) (b : List TSecret) => a.length ≤ 1073741823 ∧ b.length ≤ 1073741823 ∧ (∀ x ∈ a, smS x) ∧ ∀ x ∈ b, smS x) x.1 x.2) (fun x => (fun (a : List TSecret) (b : List TSecret) => (dB (decide (a = b)) : D)) x.1 x.2) (fun x => (fun (a : List TSecret) (b : List TSecret) => []) x.1 x.2)
@[simp] theorem c168_f : c168.f = 168 := rfl
@[simp] theorem c168_own : c168.own = false := rfl
theorem c168_inj : ∀ u_ v_ : (List TSecret) × (List TSecret), ((fun x => (fun (a : List TSecret) (b : List TSecret) => [encLTSecret a, encLTSecret b]) x.1 x.2) u_).map nz = ((fun x => (fun (a : List TSecret) (b : List TSecret) => [encLTSecret a, encLTSecret b]) x.1 x.2) v_).map nz → u_ = v_ := by
  intro u_ v_ h
  obtain ⟨a, b⟩ := u_
  obtain ⟨a', b'⟩ := v_
  simp [nz_lit, nz1_lit, nz_agg, nz_sl, nz1_sl, encLTSecret] at h
  first | (simp [h]; done) | (obtain ⟨⟩ := h; simp_all; done) | simp_all
@[simp] theorem c168_fn (a : List TSecret) (b : List TSecret) : c168.fn [.sl false 3 yTSecret (ML encTSecret a), .sl false 3 yTSecret (ML encTSecret b)] [] = some ((fun (a : List TSecret) (b : List TSecret) => a.length ≤ 1073741823 ∧ b.length ≤ 1073741823 ∧ (∀ x ∈ a, smS x) ∧ ∀ x ∈ b, smS x) a b, (fun (a : List TSecret) (b : List TSecret) => (dB (decide (a = b)) : D)) a b, (fun (a : List TSecret) (b : List TSecret) => []) a b) :=
  mkCon_fn (fun x y h _ => c168_inj x y h) ((a, b) : (List TSecret) × (List TSecret)) (by simp [nz, nz1, ML_nil, encLTSecret]) rfl
@[simp] theorem c168_fn1 (s_a : Nat) (z_a : D) (b : List TSecret) : c168.fn [.sl false s_a z_a [], .sl false 3 yTSecret (ML encTSecret b)] [] = some ((fun (a : List TSecret) (b : List TSecret) => a.length ≤ 1073741823 ∧ b.length ≤ 1073741823 ∧ (∀ x ∈ a, smS x) ∧ ∀ x ∈ b, smS x) [] b, (fun (a : List TSecret) (b : List TSecret) => (dB (decide (a = b)) : D)) [] b, (fun (a : List TSecret) (b : List TSecret) => []) [] b) :=
  mkCon_fn (fun x y h _ => c168_inj x y h) (([], b) : (List TSecret) × (List TSecret)) (by simp [nz, nz1, ML_nil, encLTSecret]) rfl
@[simp] theorem c168_fn2 (a : List TSecret) (s_b : Nat) (z_b : D) : c168.fn [.sl false 3 yTSecret (ML encTSecret a), .sl false s_b z_b []] [] = some ((fun (a : List TSecret) (b : List TSecret) => a.length ≤ 1073741823 ∧ b.length ≤ 1073741823 ∧ (∀ x ∈ a, smS x) ∧ ∀ x ∈ b, smS x) a [], (fun (a : List TSecret) (b : List TSecret) => (dB (decide (a = b)) : D)) a [], (fun (a : List TSecret) (b : List TSecret) => []) a []) :=
  mkCon_fn (fun x y h _ => c168_inj x y h) ((a, []) : (List TSecret) × (List TSecret)) (by simp [nz, nz1, ML_nil, encLTSecret]) rfl
@[simp] theorem c168_fn3 (s_a : Nat) (z_a : D) (s_b : Nat) (z_b : D) : c168.fn [.sl false s_a z_a [], .sl false s_b z_b []] [] = some ((fun (a : List TSecret) (b : List TSecret) => a.length ≤ 1073741823 ∧ b.length ≤ 1073741823 ∧ (∀ x ∈ a, smS x) ∧ ∀ x ∈ b, smS x) [] [], (fun (a : List TSecret) (b : List TSecret) => (dB (decide (a = b)) : D)) [] [], (fun (a : List TSecret) (b : List TSecret) => []) [] []) :=
  mkCon_fn (fun x y h _ => c168_inj x y h) (([], []) : (List TSecret) × (List TSecret)) (by simp [nz, nz1, ML_nil, encLTSecret]) rfl
theorem c168_pc (a : List TSecret) (b : List TSecret) (hpre : a.length ≤ 1073741823 ∧ b.length ≤ 1073741823 ∧ (∀ x ∈ a, smS x) ∧ ∀ x ∈ b, smS x) : PCo Try.prog 168 [encLTSecret a, encLTSecret b] (Tab.of []) (dB (decide (a = b))) (Tab.of []) := by
  refine pco_of_run [] (E := ⟨[c230, c231, c231], []⟩) (m := false) (base := 0) (Env.ok_cons c230_ok (Env.ok_cons c231_ok (Env.ok_cons c231_ok Env.ok_nil))) G_ok mix 300 6 Try.func168 (by kernel_rfl) rfl (by kernel_rfl) (by kernel_rfl) rfl ?_
  simp [Try.f168]
  simpa using hpre
theorem c168_ok : c168.ok Try.prog := mkCon_ok fun ⟨a, b⟩ hpre => c168_pc a b hpre
/-- loop.example/g03007/spec.EqualSecrets -/
noncomputable def c159 : Con := mkCon 159 false (α := (List TSecret) × (List TSecret)) (fun x => (fun (a : List TSecret) (b : List TSecret) => [encLTSecret a, encLTSecret b]) x.1 x.2) (fun _ => []) (fun x => (fun (a : List TSecret) (b : List TSecret) => a.length ≤ 1073741823 ∧ b.length ≤ 1073741823 ∧ (∀ x ∈ a, smS x) ∧ ∀ x ∈ b, smS x) x.1 x.2) (fun x => (fun (a : List TSecret) (b : List TSecret) => (dB (decide (a = b)) : D)) x.1 x.2) (fun x => (fun (a : List TSecret) (b : List TSecret) => []) x.1 x.2)
@[simp] theorem c159_f : c159.f = 159 := rfl
@[simp] theorem c159_own : c159.own = false := rfl
theorem c159_inj : ∀ u_ v_ : (List TSecret) × (List TSecret), ((fun x => (fun (a : List TSecret) (b : List TSecret) => [encLTSecret a, encLTSecret b]) x.1 x.2) u_).map nz = ((fun x => (fun (a : List TSecret) (b : List TSecret) => [encLTSecret a, encLTSecret b]) x.1 x.2) v_).map nz → u_ = v_ := by
  intro u_ v_ h
  obtain ⟨a, b⟩ := u_
  obtain ⟨a', b'⟩ := v_
  simp [nz_lit, nz1_lit, nz_agg, nz_sl, nz1_sl, encLTSecret] at h
  first | (simp [h]; done) | (obtain ⟨⟩ := h; simp_all; done) | simp_all
@[simp] theorem c159_fn (a : List TSecret) (b : List TSecret) : c159.fn [.sl false 3 yTSecret (ML encTSecret a), .sl false 3 yTSecret (ML encTSecret b)] [] = some ((fun (a : List TSecret) (b : List TSecret) => a.length ≤ 1073741823 ∧ b.length ≤ 1073741823 ∧ (∀ x ∈ a, smS x) ∧ ∀ x ∈ b, smS x) a b, (fun (a : List TSecret) (b : List TSecret) => (dB (decide (a = b)) : D)) a b, (fun (a : List TSecret) (b : List TSecret) => []) a b) :=
  mkCon_fn (fun x y h _ => c159_inj x y h) ((a, b) : (List TSecret) × (List TSecret)) (by simp [nz, nz1, ML_nil, encLTSecret]) rfl
@[simp] theorem c159_fn1 (s_a : Nat) (z_a : D) (b : List TSecret) : c159.fn [.sl false s_a z_a [], .sl false 3 yTSecret (ML encTSecret b)] [] = some ((fun (a : List TSecret) (b : List TSecret) => a.length ≤ 1073741823 ∧ b.length ≤ 1073741823 ∧ (∀ x ∈ a, smS x) ∧ ∀ x ∈ b, smS x) [] b, (fun (a : List TSecret) (b : List TSecret) => (dB (decide (a = b)) : D)) [] b, (fun (a : List TSecret) (b : List TSecret) => []) [] b) :=
  mkCon_fn (fun x y h _ => c159_inj x y h) (([], b) : (List TSecret) × (List TSecret)) (by simp [nz, nz1, ML_nil, encLTSecret]) rfl
@[simp] theorem c159_fn2 (a : List TSecret) (s_b : Nat) (z_b : D) : c159.fn [.sl false 3 yTSecret (ML encTSecret a), .sl false s_b z_b []] [] = some ((fun (a : List TSecret) (b : List TSecret) => a.length ≤ 1073741823 ∧ b.length ≤ 1073741823 ∧ (∀ x ∈ a, smS x) ∧ ∀ x ∈ b, smS x) a [], (fun (a : List TSecret) (b : List TSecret) => (dB (decide (a = b)) : D)) a [], (fun (a : List TSecret) (b : List TSecret) => []) a []) :=
  mkCon_fn (fun x y h _ => c159_inj x y h) ((a, []) : (List TSecret) × (List TSecret)) (by simp [nz, nz1, ML_nil, encLTSecret]) rfl
@[simp] theorem c159_fn3 (s_a : Nat) (z_a : D) (s_b : Nat) (z_b : D) : c159.fn [.sl false s_a z_a [], .sl false s_b z_b []] [] = some ((fun (a : List TSecret) (b : List TSecret) => a.length ≤ 1073741823 ∧ b.length ≤ 1073741823 ∧ (∀ x ∈ a, smS x) ∧ ∀ x ∈ b, smS x) [] [], (fun (a : List TSecret) (b : List TSecret) => (dB (decide (a = b)) : D)) [] [], (fun (a : List TSecret) (b : List TSecret) => []) [] []) :=
  mkCon_fn (fun x y h _ => c159_inj x y h) (([], []) : (List TSecret) × (List TSecret)) (by simp [nz, nz1, ML_nil, encLTSecret]) rfl
theorem c159_pc (a : List TSecret) (b : List TSecret) (hpre : a.length ≤ 1073741823 ∧ b.length ≤ 1073741823 ∧ (∀ x ∈ a, smS x) ∧ ∀ x ∈ b, smS x) : PCo Try.prog 159 [encLTSecret a, encLTSecret b] (Tab.of []) (dB (decide (a = b))) (Tab.of []) := by
  refine pco_of_run [] (E := ⟨[c224], []⟩) (m := false) (base := 0) (Env.ok_cons c224_ok Env.ok_nil) G_ok mix 300 6 Try.func159 (by kernel_rfl) rfl (by kernel_rfl) (by kernel_rfl) rfl ?_
  simp [Try.f159]
  obtain ⟨pre1, pre2, pre3, pre4⟩ := hpre
  refine ⟨fun h => ?_, fun h => by intro e; subst e; exact absurd rfl h⟩
  refine loop_inv (fun p : Nat => p ≤ a.length ∧ a.take p = b.take p) (fun p => [(0, encLTSecret a), (1, encLTSecret b), (5, dI p)]) (fun _ => []) 1 (fun p => a.length - p) 0 400 (by simp) (by simp) (by simp) ?_
  intro p ⟨hp, hi⟩
  simp
  refine ⟨fun hlt => ?_, fun hge => take_eq_full hi (by omega) (by omega)⟩
  have ha := pre3 _ (getD_mem (d := default) hlt)
  have hb := pre4 _ (getD_mem (d := default) (show p < b.length by omega))
  simp at ha hb
  have hxx := sec_eq (a[p]?.getD default) (b[p]?.getD default)
  by_cases he : a[p]?.getD default = b[p]?.getD default
  · simp only [he]
    repeat' (first | omega | exact hb | exact ha.1 | refine And.intro ?_ ?_ | intro _)
    all_goals first | exact Again.mk (p + 1) ⟨by omega, take_eq_step hi (by omega) (by omega) he⟩ (by simp) (by first | omega | (simp; omega)) | (exfalso; simp_all; done)
  · have hne : ¬ a = b := fun e => he (by rw [e])
    have he2 := he
    rw [hxx] at he2
    generalize Again _ _ _ _ _ _ _ = A
    repeat' (first | omega | exact hne | exact hb | exact ha | refine And.intro ?_ ?_ | intro _)
    all_goals first | (exfalso; simp_all; done) | grind
theorem c159_ok : c159.ok Try.prog := mkCon_ok fun ⟨a, b⟩ hpre => c159_pc a b hpre
theorem wfSS {l : List TSecret} (h : wfLTSecret l) : l.length ≤ maxLen ∧ ∀ x ∈ l, x.Marks.length ≤ maxLen := ⟨h.1, fun x hx => wfS_len (h.2 x hx)⟩
end Go.Proofs.Ytnkggfhgmdbfpaa
