/- Contracts of the functions that the laws run. -/
import Derived.Test.Ytnncheloiiannaach31
import Derived.Test.Ytnncheloiiannaagen
import Derived.Test.YtnncheloiiannaaEngB
namespace Go.Proofs.Ytnncheloiiannaa
open Go Go.Eng
set_option linter.unusedSimpArgs false
set_option linter.unusedVariables false
set_option maxRecDepth 10000
set_option maxHeartbeats 1000000
theorem szSec_le (r : TSecret) (q : Int) (h : 0 ≤ szSec r q) : szSec r q ≤ q := by
  simp only [szSec] at h ⊢; split at h <;> rename_i h2
  · omega
  · rw [if_neg h2]; omega
/-- loop.example/g03007/laws.szSecretS -/
noncomputable def c10 : Con := mkCon 10 false (α := (List TSecret) × Int) (fun x => (fun (l : List TSecret) (left : Int) => [encLTSecret l, dI left]) x.1 x.2) (fun _ => []) (fun x => (fun (l : List TSecret) (left : Int) => l.length ≤ maxLen ∧ (∀ x ∈ l, smSM x) ∧ 0 ≤ left ∧ left ≤ 1099511627776) x.1 x.2) (fun x => (fun (l : List TSecret) (left : Int) => (dI (szDeep szSec l left) : D)) x.1 x.2) (fun x => (fun (l : List TSecret) (left : Int) => []) x.1 x.2)
@[simp] theorem c10_f : c10.f = 10 := rfl
@[simp] theorem c10_own : c10.own = false := rfl
theorem c10_inj : ∀ u_ v_ : (List TSecret) × Int, ((fun x => (fun (l : List TSecret) (left : Int) => [encLTSecret l, dI left]) x.1 x.2) u_).map nz = ((fun x => (fun (l : List TSecret) (left : Int) => [encLTSecret l, dI left]) x.1 x.2) v_).map nz → u_ = v_ := by
  intro u_ v_ h
  obtain ⟨l, left⟩ := u_
  obtain ⟨l', left'⟩ := v_
  simp [nz_lit, nz1_lit, nz_agg, nz_sl, nz1_sl, encLTSecret] at h
  first | (simp [h]; done) | (obtain ⟨⟩ := h; simp_all; done) | simp_all
@[simp] theorem c10_fn (l : List TSecret) (left : Int) : c10.fn [.sl false 3 yTSecret (ML encTSecret l), .lit (.int .i64 left)] [] = some ((fun (l : List TSecret) (left : Int) => l.length ≤ maxLen ∧ (∀ x ∈ l, smSM x) ∧ 0 ≤ left ∧ left ≤ 1099511627776) l left, (fun (l : List TSecret) (left : Int) => (dI (szDeep szSec l left) : D)) l left, (fun (l : List TSecret) (left : Int) => []) l left) :=
  mkCon_fn (fun x y h _ => c10_inj x y h) ((l, left) : (List TSecret) × Int) (by simp [nz, nz1, ML_nil, encLTSecret]) rfl
@[simp] theorem c10_fn1 (s_l : Nat) (z_l : D) (left : Int) : c10.fn [.sl false s_l z_l [], .lit (.int .i64 left)] [] = some ((fun (l : List TSecret) (left : Int) => l.length ≤ maxLen ∧ (∀ x ∈ l, smSM x) ∧ 0 ≤ left ∧ left ≤ 1099511627776) [] left, (fun (l : List TSecret) (left : Int) => (dI (szDeep szSec l left) : D)) [] left, (fun (l : List TSecret) (left : Int) => []) [] left) :=
  mkCon_fn (fun x y h _ => c10_inj x y h) (([], left) : (List TSecret) × Int) (by simp [nz, nz1, ML_nil, encLTSecret]) rfl
theorem c10_pc (l : List TSecret) (left : Int) (hpre : l.length ≤ maxLen ∧ (∀ x ∈ l, smSM x) ∧ 0 ≤ left ∧ left ≤ 1099511627776) : PCo Try.prog 10 [encLTSecret l, dI left] (Tab.of []) (dI (szDeep szSec l left)) (Tab.of []) := by
  refine pco_of_run [] (E := ⟨[c34], [], []⟩) (m := false) (base := 0) (Env.ok_cons c34_ok Env.ok_nil) G_ok mix 300 6 Try.func10 (by kernel_rfl) rfl (by kernel_rfl) (by kernel_rfl) rfl ?_
  simp [Try.f10]
  obtain ⟨hp1, hp2, hp3, hp4⟩ := hpre
  simp [maxLen] at hp1
  refine ⟨by omega, fun h => ?_, fun hn => ?_⟩
  · rw [szDeep, if_pos h]
  have hd : szDeep szSec l left = szRun szSec (left - l.length) l := by rw [szDeep, if_neg (by omega)]
  refine loop_inv (fun p : Nat × Int => p.1 ≤ l.length ∧ 0 ≤ p.2 ∧ p.2 ≤ left ∧ szDeep szSec l left = szRun szSec p.2 (l.drop p.1)) (fun p => [(0, encLTSecret l), (1, dI p.2), (5, dI p.1)]) (fun _ => []) 1 (fun p => l.length - p.1) (0, left - l.length) 400 (by simp) (by simp [hd]; omega) (by simp) ?_
  intro ⟨p, q⟩ ⟨hp, hq1, hq2, hi⟩
  simp at hp hq1 hq2 hi ⊢
  refine ⟨fun hlt => ?_, fun hge => ?_⟩
  · rw [szRun_at (d := default) hlt] at hi
    have hx := hp2 _ (getD_mem (d := default) hlt)
    simp at hx
    have hle := szSec_le (l[p]?.getD default) q
    refine ⟨⟨hlt, hx, hq1, by omega⟩, fun h => by rw [hi, if_pos h], fun h => ⟨by omega, ?_⟩⟩
    rw [if_neg (by omega)] at hi
    exact Again.mk (p + 1, szSec (l[p]?.getD default) q) ⟨by simp; omega, by simp; omega, by have := hle (by omega); simp; omega, by simpa using hi⟩ (by simp) (by first | omega | (simp; omega))
  · rw [hi, szRun_end hge]
theorem c10_ok : c10.ok Try.prog := mkCon_ok fun ⟨l, left⟩ hpre => c10_pc l left hpre
/-- loop.example/g03007/laws.toSecretS -/
noncomputable def c19 : Con := mkCon 19 false (α := (List TSecret)) (fun x => (fun (l : List TSecret) => [encLTSecret l]) x) (fun _ => []) (fun x => (fun (l : List TSecret) => l.length ≤ 1099511627776 ∧ ∀ x ∈ l, smS x) x) (fun x => (fun (l : List TSecret) => (encLTSecret l : D)) x) (fun x => (fun (l : List TSecret) => []) x)
@[simp] theorem c19_f : c19.f = 19 := rfl
@[simp] theorem c19_own : c19.own = false := rfl
theorem c19_inj : ∀ u_ v_ : (List TSecret), ((fun x => (fun (l : List TSecret) => [encLTSecret l]) x) u_).map nz = ((fun x => (fun (l : List TSecret) => [encLTSecret l]) x) v_).map nz → u_ = v_ := by
  intro u_ v_ h
  obtain l := u_
  obtain l' := v_
  simp [nz_lit, nz1_lit, nz_agg, nz_sl, nz1_sl, encLTSecret] at h
  first | (simp [h]; done) | (obtain ⟨⟩ := h; simp_all; done) | simp_all
@[simp] theorem c19_fn (l : List TSecret) : c19.fn [.sl false 3 yTSecret (ML encTSecret l)] [] = some ((fun (l : List TSecret) => l.length ≤ 1099511627776 ∧ ∀ x ∈ l, smS x) l, (fun (l : List TSecret) => (encLTSecret l : D)) l, (fun (l : List TSecret) => []) l) :=
  mkCon_fn (fun x y h _ => c19_inj x y h) (l : (List TSecret)) (by simp [nz, nz1, ML_nil, encLTSecret]) rfl
@[simp] theorem c19_fn1 (s_l : Nat) (z_l : D) : c19.fn [.sl false s_l z_l []] [] = some ((fun (l : List TSecret) => l.length ≤ 1099511627776 ∧ ∀ x ∈ l, smS x) [], (fun (l : List TSecret) => (encLTSecret l : D)) [], (fun (l : List TSecret) => []) []) :=
  mkCon_fn (fun x y h _ => c19_inj x y h) ([] : (List TSecret)) (by simp [nz, nz1, ML_nil, encLTSecret]) rfl
theorem c19_pc (l : List TSecret) (hpre : l.length ≤ 1099511627776 ∧ ∀ x ∈ l, smS x) : PCo Try.prog 19 [encLTSecret l] (Tab.of []) (encLTSecret l) (Tab.of []) := by
  refine pco_of_run [] (E := ⟨[c38], [], []⟩) (m := false) (base := 0) (Env.ok_cons c38_ok Env.ok_nil) G_ok mix 300 6 Try.func19 (by kernel_rfl) rfl (by kernel_rfl) (by kernel_rfl) rfl ?_
  simp [Try.f19]
  obtain ⟨hp1, hp2⟩ := hpre
  refine ⟨by omega, ?_⟩
  refine loop_inv (fun p : Nat => p ≤ l.length) (fun p => [(0, encLTSecret l), (3, .own (0, 1) 3 0 l.length), (4, dI p)]) (fun p => [((0, 1), .arr false 3 (.agg [dI 0, .sl true 0 .any [], dI 0]) (ML encTSecret (l.take p) ++ List.replicate (l.length - p) (.agg [dI 0, .sl true 0 .any [], dI 0])))]) 2 (fun p => l.length - p) 0 400 (by simp) (by simp) (by simp) ?_
  intro p hp
  by_cases hlt : p < l.length
  · have hx := hp2 _ (getD_mem (d := default) hlt)
    simp at hx
    have hg := fillZ (e := encTSecret) (z := (.agg [dI 0, .sl true 0 .any [], dI 0])) (d := (.agg [dI 0, .sl true 0 .any [], dI 0])) hlt
    have hs := fillS (e := encTSecret) (z := (.agg [dI 0, .sl true 0 .any [], dI 0])) (d := default) hlt rfl
    simp at hs
    simp [hg]
    refine ⟨fun _ => ?_, fun h => absurd hlt (by omega)⟩
    repeat' (first | exact hx | omega | refine And.intro ?_ ?_ | intro _)
    refine Again.mk (p + 1) (by omega) ?_ (by first | omega | (simp; omega))
    simp [hs]
  · have : p = l.length := by omega
    subst this; simp
theorem c19_ok : c19.ok Try.prog := mkCon_ok fun l hpre => c19_pc l hpre
/-- loop.example/g03007/laws.eqSecretS -/
noncomputable def c28 : Con := mkCon 28 false (α := (List TSecret) × (List TSecret)) (fun x => (fun (a : List TSecret) (b : List TSecret) => [encLTSecret a, encLTSecret b]) x.1 x.2) (fun _ => []) (fun x => (fun (a : List TSecret) (b : List TSecret) => a.length ≤ 1099511627776 ∧ b.length ≤ 1099511627776 ∧ (∀ x ∈ a, smS x) ∧ ∀ x ∈ b, smS x) x.1 x.2) (fun x => (fun (a : List TSecret) (b : List TSecret) => (dB (decide (a = b)) : D)) x.1 x.2) (fun x => (fun (a : List TSecret) (b : List TSecret) => []) x.1 x.2)
@[simp] theorem c28_f : c28.f = 28 := rfl
@[simp] theorem c28_own : c28.own = false := rfl
theorem c28_inj : ∀ u_ v_ : (List TSecret) × (List TSecret), ((fun x => (fun (a : List TSecret) (b : List TSecret) => [encLTSecret a, encLTSecret b]) x.1 x.2) u_).map nz = ((fun x => (fun (a : List TSecret) (b : List TSecret) => [encLTSecret a, encLTSecret b]) x.1 x.2) v_).map nz → u_ = v_ := by
  intro u_ v_ h
  obtain ⟨a, b⟩ := u_
  obtain ⟨a', b'⟩ := v_
  simp [nz_lit, nz1_lit, nz_agg, nz_sl, nz1_sl, encLTSecret] at h
  first | (simp [h]; done) | (obtain ⟨⟩ := h; simp_all; done) | simp_all
@[simp] theorem c28_fn (a : List TSecret) (b : List TSecret) : c28.fn [.sl false 3 yTSecret (ML encTSecret a), .sl false 3 yTSecret (ML encTSecret b)] [] = some ((fun (a : List TSecret) (b : List TSecret) => a.length ≤ 1099511627776 ∧ b.length ≤ 1099511627776 ∧ (∀ x ∈ a, smS x) ∧ ∀ x ∈ b, smS x) a b, (fun (a : List TSecret) (b : List TSecret) => (dB (decide (a = b)) : D)) a b, (fun (a : List TSecret) (b : List TSecret) => []) a b) :=
  mkCon_fn (fun x y h _ => c28_inj x y h) ((a, b) : (List TSecret) × (List TSecret)) (by simp [nz, nz1, ML_nil, encLTSecret]) rfl
@[simp] theorem c28_fn1 (s_a : Nat) (z_a : D) (b : List TSecret) : c28.fn [.sl false s_a z_a [], .sl false 3 yTSecret (ML encTSecret b)] [] = some ((fun (a : List TSecret) (b : List TSecret) => a.length ≤ 1099511627776 ∧ b.length ≤ 1099511627776 ∧ (∀ x ∈ a, smS x) ∧ ∀ x ∈ b, smS x) [] b, (fun (a : List TSecret) (b : List TSecret) => (dB (decide (a = b)) : D)) [] b, (fun (a : List TSecret) (b : List TSecret) => []) [] b) :=
  mkCon_fn (fun x y h _ => c28_inj x y h) (([], b) : (List TSecret) × (List TSecret)) (by simp [nz, nz1, ML_nil, encLTSecret]) rfl
@[simp] theorem c28_fn2 (a : List TSecret) (s_b : Nat) (z_b : D) : c28.fn [.sl false 3 yTSecret (ML encTSecret a), .sl false s_b z_b []] [] = some ((fun (a : List TSecret) (b : List TSecret) => a.length ≤ 1099511627776 ∧ b.length ≤ 1099511627776 ∧ (∀ x ∈ a, smS x) ∧ ∀ x ∈ b, smS x) a [], (fun (a : List TSecret) (b : List TSecret) => (dB (decide (a = b)) : D)) a [], (fun (a : List TSecret) (b : List TSecret) => []) a []) :=
  mkCon_fn (fun x y h _ => c28_inj x y h) ((a, []) : (List TSecret) × (List TSecret)) (by simp [nz, nz1, ML_nil, encLTSecret]) rfl
@[simp] theorem c28_fn3 (s_a : Nat) (z_a : D) (s_b : Nat) (z_b : D) : c28.fn [.sl false s_a z_a [], .sl false s_b z_b []] [] = some ((fun (a : List TSecret) (b : List TSecret) => a.length ≤ 1099511627776 ∧ b.length ≤ 1099511627776 ∧ (∀ x ∈ a, smS x) ∧ ∀ x ∈ b, smS x) [] [], (fun (a : List TSecret) (b : List TSecret) => (dB (decide (a = b)) : D)) [] [], (fun (a : List TSecret) (b : List TSecret) => []) [] []) :=
  mkCon_fn (fun x y h _ => c28_inj x y h) (([], []) : (List TSecret) × (List TSecret)) (by simp [nz, nz1, ML_nil, encLTSecret]) rfl
theorem c28_pc (a : List TSecret) (b : List TSecret) (hpre : a.length ≤ 1099511627776 ∧ b.length ≤ 1099511627776 ∧ (∀ x ∈ a, smS x) ∧ ∀ x ∈ b, smS x) : PCo Try.prog 28 [encLTSecret a, encLTSecret b] (Tab.of []) (dB (decide (a = b))) (Tab.of []) := by
  refine pco_of_run [] (E := ⟨[c49], [], []⟩) (m := false) (base := 0) (Env.ok_cons c49_ok Env.ok_nil) G_ok mix 300 6 Try.func28 (by kernel_rfl) rfl (by kernel_rfl) (by kernel_rfl) rfl ?_
  simp [Try.f28]
  obtain ⟨pre1, pre2, pre3, pre4⟩ := hpre
  refine ⟨fun h => ?_, fun h => by intro e; subst e; exact absurd rfl h⟩
  refine loop_inv (fun p : Nat => p ≤ a.length ∧ a.take p = b.take p) (fun p => [(0, encLTSecret a), (1, encLTSecret b), (5, dI p)]) (fun _ => []) 1 (fun p => a.length - p) 0 100 (by simp) (by simp) (by simp) ?_
  intro p ⟨hp, hi⟩
  simp
  refine ⟨fun hlt => ?_, fun hge => take_eq_full hi (by omega) (by omega)⟩
  have ha := pre3 _ (getD_mem (d := default) hlt)
  have hb := pre4 _ (getD_mem (d := default) (show p < b.length by omega))
  simp at ha hb
  refine ⟨⟨hlt, by omega, ha, hb⟩, fun h2 => ⟨by omega, Again.mk (p + 1) ⟨by omega, take_eq_step hi (by omega) (by omega) h2⟩ (by simp) (by first | omega | (simp; omega))⟩, fun h2 => by intro e; subst e; exact absurd rfl h2⟩
theorem c28_ok : c28.ok Try.prog := mkCon_ok fun ⟨a, b⟩ hpre => c28_pc a b hpre
theorem szSS_ok {l : List TSecret} {left : Int} (h : 0 ≤ szDeep szSec l left) : l.length ≤ left ∧ szDeep szSec l left ≤ left ∧ ∀ x ∈ l, (x.Marks.length : Int) ≤ left :=
  szDeep_all (R := fun q x => (x.Marks.length : Int) ≤ q) (fun x q h => ⟨szSec_le x q h, szSec_len h⟩) (fun a b x h h2 => by omega) h
@[simp] def nSecret (x : TSecret) : Int := x.Thing
def mIsSecret (x : TSecret) : Bool := mIn x.Thing 1 999 && decide (0 < x.Marks.length) && mAreMarks x.Marks && mIn x.Salt 0 1000000
def mAreSecrets (l : List TSecret) : Bool := decide (l.length ≤ 20) && ascBy mIsSecret nSecret none l
theorem mark_eqc (x y : TMark) : (x = y) = (x.Question = y.Question ∧ x.Answer = y.Answer) := by cases x; cases y; simp
theorem sec_eq (x y : TSecret) : (x = y) = (x.Thing = y.Thing ∧ x.Marks = y.Marks ∧ x.Salt = y.Salt) := by cases x; cases y; simp
theorem wfSS {l : List TSecret} (h : wfLTSecret l) : l.length ≤ maxLen ∧ ∀ x ∈ l, x.Marks.length ≤ maxLen := ⟨h.1, fun x hx => wfS_len (h.2 x hx)⟩
end Go.Proofs.Ytnncheloiiannaa
