/- Contracts of the functions that the laws run. -/
import Derived.Test.Ytlnllkffifeggaach06
import Derived.Test.YtlnllkffifeggaahelpA
import Derived.Test.YtlnllkffifeggaaEngB
namespace Go.Proofs.Ytlnllkffifeggaa
open Go Go.Eng
set_option linter.unusedSimpArgs false
set_option linter.unusedVariables false
set_option maxRecDepth 10000
set_option maxHeartbeats 1000000
def ascW (hi : Int) : Int → List Int → Bool
  | _, [] => true
  | lo, x :: r => mIn x lo hi && ascW hi (x + 1) r
theorem ascW_at {hi lo : Int} {l : List Int} {p : Nat} (h : p < l.length) : ascW hi lo (l.drop p) = (mIn (l[p]?.getD 0) lo hi && ascW hi (l[p]?.getD 0 + 1) (l.drop (p + 1))) := by
  rw [drop_at (d := 0) h, ascW]
theorem ascW_end {hi lo : Int} {l : List Int} {p : Nat} (h : l.length ≤ p) : ascW hi lo (l.drop p) = true := by
  rw [List.drop_eq_nil_of_le h, ascW]
theorem ascW_by {hi lo : Int} : ∀ (l : List Int) (q : Int), lo ≤ q + 1 → ascW hi (q + 1) l = ascBy (fun x => mIn x lo hi) (fun x => x) (some q) l
  | [], _, _ => rfl
  | x :: r, q, hq => by
    simp only [ascW, ascBy]
    cases h : mIn x (q + 1) hi with
    | false =>
      have hn : (mIn x lo hi && decide (q < x)) = false := by
        rw [← Bool.not_eq_true, mIn_iff] at h
        rw [← Bool.not_eq_true, Bool.and_eq_true, mIn_iff, decide_eq_true_eq]; omega
      rw [hn]; simp
    | true =>
      rw [mIn_iff] at h
      have h1 : mIn x lo hi = true := mIn_iff.2 (by omega)
      rw [ascW_by (lo := lo) r x (by omega), h1]
      have : q < x := by omega
      simp [this]
theorem ascW_eq (hi lo : Int) : ∀ (l : List Int), ascW hi lo l = ascBy (fun x => mIn x lo hi) (fun x => x) none l
  | [] => rfl
  | x :: r => by
    simp only [ascW, ascBy]
    cases h : mIn x lo hi with
    | false => simp
    | true =>
      rw [mIn_iff] at h
      rw [ascW_by r x (lo := lo) (by omega)]; simp
/-- loop.example/g03007/impl.ascendWithin -/
noncomputable def c38 : Con := mkCon 38 false (α := (List Int) × Int × Int) (fun x => (fun (l : List Int) (lo : Int) (hi : Int) => [encLI l, dI lo, dI hi]) x.1 x.2.1 x.2.2) (fun _ => []) (fun x => (fun (l : List Int) (lo : Int) (hi : Int) => l.length ≤ 1099511627776 ∧ -1000 ≤ lo ∧ hi ≤ 1000000) x.1 x.2.1 x.2.2) (fun x => (fun (l : List Int) (lo : Int) (hi : Int) => (dB (ascW hi lo l) : D)) x.1 x.2.1 x.2.2) (fun x => (fun (l : List Int) (lo : Int) (hi : Int) => []) x.1 x.2.1 x.2.2)
@[simp] theorem c38_f : c38.f = 38 := rfl
@[simp] theorem c38_own : c38.own = false := rfl
theorem c38_inj : ∀ u_ v_ : (List Int) × Int × Int, ((fun x => (fun (l : List Int) (lo : Int) (hi : Int) => [encLI l, dI lo, dI hi]) x.1 x.2.1 x.2.2) u_).map nz = ((fun x => (fun (l : List Int) (lo : Int) (hi : Int) => [encLI l, dI lo, dI hi]) x.1 x.2.1 x.2.2) v_).map nz → u_ = v_ := by
  intro u_ v_ h
  obtain ⟨l, lo, hi⟩ := u_
  obtain ⟨l', lo', hi'⟩ := v_
  simp [nz_lit, nz1_lit, nz_agg, nz_sl, nz1_sl, encLI] at h
  first | (simp [h]; done) | (obtain ⟨⟩ := h; simp_all; done) | simp_all
@[simp] theorem c38_fn (l : List Int) (lo : Int) (hi : Int) : c38.fn [.sl false 1 (.lit (.int .i64 0)) (ML dI l), .lit (.int .i64 lo), .lit (.int .i64 hi)] [] = some ((fun (l : List Int) (lo : Int) (hi : Int) => l.length ≤ 1099511627776 ∧ -1000 ≤ lo ∧ hi ≤ 1000000) l lo hi, (fun (l : List Int) (lo : Int) (hi : Int) => (dB (ascW hi lo l) : D)) l lo hi, (fun (l : List Int) (lo : Int) (hi : Int) => []) l lo hi) :=
  mkCon_fn (fun x y h _ => c38_inj x y h) ((l, lo, hi) : (List Int) × Int × Int) (by simp [nz, nz1, ML_nil, encLI]) rfl
@[simp] theorem c38_fn1 (s_l : Nat) (z_l : D) (lo : Int) (hi : Int) : c38.fn [.sl false s_l z_l [], .lit (.int .i64 lo), .lit (.int .i64 hi)] [] = some ((fun (l : List Int) (lo : Int) (hi : Int) => l.length ≤ 1099511627776 ∧ -1000 ≤ lo ∧ hi ≤ 1000000) [] lo hi, (fun (l : List Int) (lo : Int) (hi : Int) => (dB (ascW hi lo l) : D)) [] lo hi, (fun (l : List Int) (lo : Int) (hi : Int) => []) [] lo hi) :=
  mkCon_fn (fun x y h _ => c38_inj x y h) (([], lo, hi) : (List Int) × Int × Int) (by simp [nz, nz1, ML_nil, encLI]) rfl
theorem c38_pc (l : List Int) (lo : Int) (hi : Int) (hpre : l.length ≤ 1099511627776 ∧ -1000 ≤ lo ∧ hi ≤ 1000000) : PCo Try.prog 38 [encLI l, dI lo, dI hi] (Tab.of []) (dB (ascW hi lo l)) (Tab.of []) := by
  refine pco_of_run [] (E := ⟨[c37], []⟩) (m := false) (base := 0) (Env.ok_cons c37_ok Env.ok_nil) G_ok mix 300 6 Try.func38 (by kernel_rfl) rfl (by kernel_rfl) (by kernel_rfl) rfl ?_
  simp [Try.f38]
  refine loop_inv (fun p : Nat × Int => p.1 ≤ l.length ∧ -1000 ≤ p.2 ∧ ascW hi lo l = ascW hi p.2 (l.drop p.1)) (fun p => [(1, dI p.2), (2, dI hi), (6, dB false), (9, encLI l), (10, dI l.length), (11, dI p.1)]) (fun _ => []) 1 (fun p => l.length - p.1) (0, lo) 400 (by simp) (by simp; omega) (by simp) ?_
  intro ⟨p, q⟩ ⟨hp, hq, hi_⟩
  simp at hp hq hi_ ⊢
  refine ⟨fun hlt => ?_, fun hge => ?_⟩
  · rw [ascW_at hlt] at hi_
    have hm := mIn_iff (x := l[p]?.getD 0) (y := q) (z := hi)
    refine ⟨hlt, fun h => by rw [hi_, h]; simp, fun h => ?_⟩
    have h2 := hm.1 h
    repeat' (first | omega | refine And.intro ?_ ?_ | intro _)
    exact Again.mk (p + 1, l[p]?.getD 0 + 1) ⟨by omega, by simp; omega, by rw [hi_, h]; simp⟩ (by simp) (by first | omega | (simp; omega))
  · rw [hi_, ascW_end hge]
theorem c38_ok : c38.ok Try.prog := mkCon_ok fun ⟨l, lo, hi⟩ hpre => c38_pc l lo hi hpre
/-- loop.example/g03007/spec.l7Ids -/
noncomputable def c31 : Con := mkCon 31 false (α := (List Int) × Int × Int) (fun x => (fun (l : List Int) (lo : Int) (hi : Int) => [encLI l, dI lo, dI hi]) x.1 x.2.1 x.2.2) (fun _ => []) (fun x => (fun (l : List Int) (lo : Int) (hi : Int) => l.length ≤ 1099511627776 ∧ -1000 ≤ lo ∧ hi ≤ 1000000) x.1 x.2.1 x.2.2) (fun x => (fun (l : List Int) (lo : Int) (hi : Int) => (dB (ascW hi lo l) : D)) x.1 x.2.1 x.2.2) (fun x => (fun (l : List Int) (lo : Int) (hi : Int) => []) x.1 x.2.1 x.2.2)
@[simp] theorem c31_f : c31.f = 31 := rfl
@[simp] theorem c31_own : c31.own = false := rfl
theorem c31_inj : ∀ u_ v_ : (List Int) × Int × Int, ((fun x => (fun (l : List Int) (lo : Int) (hi : Int) => [encLI l, dI lo, dI hi]) x.1 x.2.1 x.2.2) u_).map nz = ((fun x => (fun (l : List Int) (lo : Int) (hi : Int) => [encLI l, dI lo, dI hi]) x.1 x.2.1 x.2.2) v_).map nz → u_ = v_ := by
  intro u_ v_ h
  obtain ⟨l, lo, hi⟩ := u_
  obtain ⟨l', lo', hi'⟩ := v_
  simp [nz_lit, nz1_lit, nz_agg, nz_sl, nz1_sl, encLI] at h
  first | (simp [h]; done) | (obtain ⟨⟩ := h; simp_all; done) | simp_all
@[simp] theorem c31_fn (l : List Int) (lo : Int) (hi : Int) : c31.fn [.sl false 1 (.lit (.int .i64 0)) (ML dI l), .lit (.int .i64 lo), .lit (.int .i64 hi)] [] = some ((fun (l : List Int) (lo : Int) (hi : Int) => l.length ≤ 1099511627776 ∧ -1000 ≤ lo ∧ hi ≤ 1000000) l lo hi, (fun (l : List Int) (lo : Int) (hi : Int) => (dB (ascW hi lo l) : D)) l lo hi, (fun (l : List Int) (lo : Int) (hi : Int) => []) l lo hi) :=
  mkCon_fn (fun x y h _ => c31_inj x y h) ((l, lo, hi) : (List Int) × Int × Int) (by simp [nz, nz1, ML_nil, encLI]) rfl
@[simp] theorem c31_fn1 (s_l : Nat) (z_l : D) (lo : Int) (hi : Int) : c31.fn [.sl false s_l z_l [], .lit (.int .i64 lo), .lit (.int .i64 hi)] [] = some ((fun (l : List Int) (lo : Int) (hi : Int) => l.length ≤ 1099511627776 ∧ -1000 ≤ lo ∧ hi ≤ 1000000) [] lo hi, (fun (l : List Int) (lo : Int) (hi : Int) => (dB (ascW hi lo l) : D)) [] lo hi, (fun (l : List Int) (lo : Int) (hi : Int) => []) [] lo hi) :=
  mkCon_fn (fun x y h _ => c31_inj x y h) (([], lo, hi) : (List Int) × Int × Int) (by simp [nz, nz1, ML_nil, encLI]) rfl
theorem c31_pc (l : List Int) (lo : Int) (hi : Int) (hpre : l.length ≤ 1099511627776 ∧ -1000 ≤ lo ∧ hi ≤ 1000000) : PCo Try.prog 31 [encLI l, dI lo, dI hi] (Tab.of []) (dB (ascW hi lo l)) (Tab.of []) := by
  refine pco_of_run [] (E := ⟨[c30], []⟩) (m := false) (base := 0) (Env.ok_cons c30_ok Env.ok_nil) G_ok mix 300 6 Try.func31 (by kernel_rfl) rfl (by kernel_rfl) (by kernel_rfl) rfl ?_
  simp [Try.f31]
  rw [ascW_eq]
  refine loop_inv (fun p : Nat => p ≤ l.length ∧ ascBy (fun x => mIn x lo hi) (fun x => x) none l = ascBy (fun x => mIn x lo hi) (fun x => x) (prevO (fun x => x) l p) (l.drop p)) (fun p => [(0, encLI l), (1, dI lo), (2, dI hi), (6, dB false), (7, dI p)]) (fun _ => []) 1 (fun p => l.length - p) 0 400 (by simp) (by simp) (by simp) ?_
  intro p ⟨hp, hi_⟩
  simp
  refine ⟨fun hlt => ?_, fun hge => ?_⟩
  · rw [ascBy_at hlt] at hi_
    simp only [show (default : Int) = 0 from rfl] at hi_
    repeat' (first | omega | refine And.intro ?_ ?_ | intro _)
    all_goals first | exact Again.mk (p + 1) ⟨by omega, by rw [hi_]; grind⟩ (by simp) (by first | omega | (simp; omega)) | (rw [hi_]; grind)
  · rw [hi_, ascBy_end hge]
theorem c31_ok : c31.ok Try.prog := mkCon_ok fun ⟨l, lo, hi⟩ hpre => c31_pc l lo hi hpre
/-- loop.example/g03007/laws.szIntS -/
noncomputable def c15 : Con := mkCon 15 false (α := (List Int) × Int) (fun x => (fun (l : List Int) (left : Int) => [encLI l, dI left]) x.1 x.2) (fun _ => []) (fun x => (fun (l : List Int) (left : Int) => l.length ≤ maxLen ∧ 0 ≤ left ∧ left ≤ 1099511627776) x.1 x.2) (fun x => (fun (l : List Int) (left : Int) => (dI (if left - l.length < 0 then -1 else left - l.length) : D)) x.1 x.2) (fun x => (fun (l : List Int) (left : Int) => []) x.1 x.2)
@[simp] theorem c15_f : c15.f = 15 := rfl
@[simp] theorem c15_own : c15.own = false := rfl
theorem c15_inj : ∀ u_ v_ : (List Int) × Int, ((fun x => (fun (l : List Int) (left : Int) => [encLI l, dI left]) x.1 x.2) u_).map nz = ((fun x => (fun (l : List Int) (left : Int) => [encLI l, dI left]) x.1 x.2) v_).map nz → u_ = v_ := by
  intro u_ v_ h
  obtain ⟨l, left⟩ := u_
  obtain ⟨l', left'⟩ := v_
  simp [nz_lit, nz1_lit, nz_agg, nz_sl, nz1_sl, encLI] at h
  first | (simp [h]; done) | (obtain ⟨⟩ := h; simp_all; done) | simp_all
@[simp] theorem c15_fn (l : List Int) (left : Int) : c15.fn [.sl false 1 (.lit (.int .i64 0)) (ML dI l), .lit (.int .i64 left)] [] = some ((fun (l : List Int) (left : Int) => l.length ≤ maxLen ∧ 0 ≤ left ∧ left ≤ 1099511627776) l left, (fun (l : List Int) (left : Int) => (dI (if left - l.length < 0 then -1 else left - l.length) : D)) l left, (fun (l : List Int) (left : Int) => []) l left) :=
  mkCon_fn (fun x y h _ => c15_inj x y h) ((l, left) : (List Int) × Int) (by simp [nz, nz1, ML_nil, encLI]) rfl
@[simp] theorem c15_fn1 (s_l : Nat) (z_l : D) (left : Int) : c15.fn [.sl false s_l z_l [], .lit (.int .i64 left)] [] = some ((fun (l : List Int) (left : Int) => l.length ≤ maxLen ∧ 0 ≤ left ∧ left ≤ 1099511627776) [] left, (fun (l : List Int) (left : Int) => (dI (if left - l.length < 0 then -1 else left - l.length) : D)) [] left, (fun (l : List Int) (left : Int) => []) [] left) :=
  mkCon_fn (fun x y h _ => c15_inj x y h) (([], left) : (List Int) × Int) (by simp [nz, nz1, ML_nil, encLI]) rfl
theorem c15_pc (l : List Int) (left : Int) (hpre : l.length ≤ maxLen ∧ 0 ≤ left ∧ left ≤ 1099511627776) : PCo Try.prog 15 [encLI l, dI left] (Tab.of []) (dI (if left - l.length < 0 then -1 else left - l.length)) (Tab.of []) := by
  refine pco_of_run [] (E := ⟨[], []⟩) (m := false) (base := 0) Env.ok_nil G_ok mix 300 6 Try.func15 (by kernel_rfl) rfl (by kernel_rfl) (by kernel_rfl) rfl ?_
  simp [Try.f15]
  simp [maxLen] at hpre
  all_goals omega
theorem c15_ok : c15.ok Try.prog := mkCon_ok fun ⟨l, left⟩ hpre => c15_pc l left hpre
end Go.Proofs.Ytlnllkffifeggaa
