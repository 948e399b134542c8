/- Contracts of the functions that the laws run. -/
import Derived.Test.YthckkminlonbeaaDoorch11
import Derived.Test.YthckkminlonbeaaDoorEngB
namespace Go.Proofs.YthckkminlonbeaaDoor
open Go Go.Eng
set_option linter.unusedSimpArgs false
set_option linter.unusedVariables false
set_option maxRecDepth 10000
set_option maxHeartbeats 1000000
@[simp] def smS (x : TSecret) : Prop := x.Marks.length ≤ 1073741823
@[simp] def smSM (x : TSecret) : Prop := x.Marks.length ≤ maxLen
def szSec (x : TSecret) (left : Int) : Int := if left - x.Marks.length < 0 then -1 else left - x.Marks.length
/-- loop.example/g03007/laws.toSecret -/
noncomputable def c36 : Con := mkCon 36 false (α := TSecret) (fun x => (fun (x : TSecret) => [encTSecret x]) x) (fun _ => []) (fun x => (fun (x : TSecret) => smS x) x) (fun x => (fun (x : TSecret) => (encTSecret x : D)) x) (fun x => (fun (x : TSecret) => []) x)
@[simp] theorem c36_f : c36.f = 36 := rfl
@[simp] theorem c36_own : c36.own = false := rfl
theorem c36_inj : ∀ u_ v_ : TSecret, ((fun x => (fun (x : TSecret) => [encTSecret x]) x) u_).map nz = ((fun x => (fun (x : TSecret) => [encTSecret x]) x) v_).map nz → u_ = v_ := by
  intro u_ v_ h
  obtain ⟨x_Thing, x_Marks, x_Salt⟩ := u_
  obtain ⟨x_Thing', x_Marks', x_Salt'⟩ := v_
  simp [nz_lit, nz1_lit, nz_agg, nz_sl, nz1_sl, encLTMark, encTSecret] at h
  first | (simp [h]; done) | (obtain ⟨⟩ := h; simp_all; done) | simp_all
@[simp] theorem c36_fn (x_Thing : Int) (x_Marks : List TMark) (x_Salt : Int) : c36.fn [.agg [.lit (.int .i64 x_Thing), .sl false 2 yTMark (ML encTMark x_Marks), .lit (.int .i64 x_Salt)]] [] = some ((fun (x : TSecret) => smS x) ⟨x_Thing, x_Marks, x_Salt⟩, (fun (x : TSecret) => (encTSecret x : D)) ⟨x_Thing, x_Marks, x_Salt⟩, (fun (x : TSecret) => []) ⟨x_Thing, x_Marks, x_Salt⟩) :=
  mkCon_fn (fun x y h _ => c36_inj x y h) (⟨x_Thing, x_Marks, x_Salt⟩ : TSecret) (by simp [nz, nz1, ML_nil, encLTMark, encTSecret]) rfl
theorem c36_pc (x : TSecret) (hpre : smS x) : PCo Tryd.prog 36 [encTSecret x] (Tab.of []) (encTSecret x) (Tab.of []) := by
  obtain ⟨x_Thing, x_Marks, x_Salt⟩ := x
  refine pco_of_run [] (E := ⟨[c53], [], []⟩) (m := false) (base := 0) (Env.ok_cons c53_ok Env.ok_nil) G_ok mix 300 6 Tryd.func36 (by kernel_rfl) rfl (by kernel_rfl) (by kernel_rfl) rfl ?_
  simp [Tryd.f36]
  simp at hpre
  omega
theorem c36_ok : c36.ok Tryd.prog := mkCon_ok fun x hpre => c36_pc x hpre
/-- loop.example/g03007/laws.eqSecret -/
noncomputable def c45 : Con := mkCon 45 false (α := TSecret × TSecret) (fun x => (fun (a : TSecret) (b : TSecret) => [encTSecret a, encTSecret b]) x.1 x.2) (fun _ => []) (fun x => (fun (a : TSecret) (b : TSecret) => smS a ∧ smS b) x.1 x.2) (fun x => (fun (a : TSecret) (b : TSecret) => (dB (decide (a = b)) : D)) x.1 x.2) (fun x => (fun (a : TSecret) (b : TSecret) => []) x.1 x.2)
@[simp] theorem c45_f : c45.f = 45 := rfl
@[simp] theorem c45_own : c45.own = false := rfl
theorem c45_inj : ∀ u_ v_ : TSecret × TSecret, ((fun x => (fun (a : TSecret) (b : TSecret) => [encTSecret a, encTSecret b]) x.1 x.2) u_).map nz = ((fun x => (fun (a : TSecret) (b : TSecret) => [encTSecret a, encTSecret b]) x.1 x.2) v_).map nz → u_ = v_ := by
  intro u_ v_ h
  obtain ⟨⟨a_Thing, a_Marks, a_Salt⟩, ⟨b_Thing, b_Marks, b_Salt⟩⟩ := u_
  obtain ⟨⟨a_Thing', a_Marks', a_Salt'⟩, ⟨b_Thing', b_Marks', b_Salt'⟩⟩ := v_
  simp [nz_lit, nz1_lit, nz_agg, nz_sl, nz1_sl, encLTMark, encTSecret] at h
  first | (simp [h]; done) | (obtain ⟨⟩ := h; simp_all; done) | simp_all
@[simp] theorem c45_fn (a_Thing : Int) (a_Marks : List TMark) (a_Salt : Int) (b_Thing : Int) (b_Marks : List TMark) (b_Salt : Int) : c45.fn [.agg [.lit (.int .i64 a_Thing), .sl false 2 yTMark (ML encTMark a_Marks), .lit (.int .i64 a_Salt)], .agg [.lit (.int .i64 b_Thing), .sl false 2 yTMark (ML encTMark b_Marks), .lit (.int .i64 b_Salt)]] [] = some ((fun (a : TSecret) (b : TSecret) => smS a ∧ smS b) ⟨a_Thing, a_Marks, a_Salt⟩ ⟨b_Thing, b_Marks, b_Salt⟩, (fun (a : TSecret) (b : TSecret) => (dB (decide (a = b)) : D)) ⟨a_Thing, a_Marks, a_Salt⟩ ⟨b_Thing, b_Marks, b_Salt⟩, (fun (a : TSecret) (b : TSecret) => []) ⟨a_Thing, a_Marks, a_Salt⟩ ⟨b_Thing, b_Marks, b_Salt⟩) :=
  mkCon_fn (fun x y h _ => c45_inj x y h) ((⟨a_Thing, a_Marks, a_Salt⟩, ⟨b_Thing, b_Marks, b_Salt⟩) : TSecret × TSecret) (by simp [nz, nz1, ML_nil, encLTMark, encTSecret]) rfl
theorem c45_pc (a : TSecret) (b : TSecret) (hpre : smS a ∧ smS b) : PCo Tryd.prog 45 [encTSecret a, encTSecret b] (Tab.of []) (dB (decide (a = b))) (Tab.of []) := by
  obtain ⟨a_Thing, a_Marks, a_Salt⟩ := a
  obtain ⟨b_Thing, b_Marks, b_Salt⟩ := b
  refine pco_of_run [] (E := ⟨[c56], [], []⟩) (m := false) (base := 0) (Env.ok_cons c56_ok Env.ok_nil) G_ok mix 300 6 Tryd.func45 (by kernel_rfl) rfl (by kernel_rfl) (by kernel_rfl) rfl ?_
  simp [Tryd.f45]
  simp at hpre
  repeat' (first | omega | refine And.intro ?_ ?_ | intro _)
  all_goals grind
theorem c45_ok : c45.ok Tryd.prog := mkCon_ok fun ⟨a, b⟩ hpre => c45_pc a b hpre
/-- loop.example/g03007/laws.szSecret -/
noncomputable def c32 : Con := mkCon 32 false (α := TSecret × Int) (fun x => (fun (x : TSecret) (left : Int) => [encTSecret x, dI left]) x.1 x.2) (fun _ => []) (fun x => (fun (x : TSecret) (left : Int) => smSM x ∧ 0 ≤ left ∧ left ≤ 1099511627776) x.1 x.2) (fun x => (fun (x : TSecret) (left : Int) => (dI (szSec x left) : D)) x.1 x.2) (fun x => (fun (x : TSecret) (left : Int) => []) x.1 x.2)
@[simp] theorem c32_f : c32.f = 32 := rfl
@[simp] theorem c32_own : c32.own = false := rfl
theorem c32_inj : ∀ u_ v_ : TSecret × Int, ((fun x => (fun (x : TSecret) (left : Int) => [encTSecret x, dI left]) x.1 x.2) u_).map nz = ((fun x => (fun (x : TSecret) (left : Int) => [encTSecret x, dI left]) x.1 x.2) v_).map nz → u_ = v_ := by
  intro u_ v_ h
  obtain ⟨⟨x_Thing, x_Marks, x_Salt⟩, left⟩ := u_
  obtain ⟨⟨x_Thing', x_Marks', x_Salt'⟩, left'⟩ := v_
  simp [nz_lit, nz1_lit, nz_agg, nz_sl, nz1_sl, encLTMark, encTSecret] at h
  first | (simp [h]; done) | (obtain ⟨⟩ := h; simp_all; done) | simp_all
@[simp] theorem c32_fn (x_Thing : Int) (x_Marks : List TMark) (x_Salt : Int) (left : Int) : c32.fn [.agg [.lit (.int .i64 x_Thing), .sl false 2 yTMark (ML encTMark x_Marks), .lit (.int .i64 x_Salt)], .lit (.int .i64 left)] [] = some ((fun (x : TSecret) (left : Int) => smSM x ∧ 0 ≤ left ∧ left ≤ 1099511627776) ⟨x_Thing, x_Marks, x_Salt⟩ left, (fun (x : TSecret) (left : Int) => (dI (szSec x left) : D)) ⟨x_Thing, x_Marks, x_Salt⟩ left, (fun (x : TSecret) (left : Int) => []) ⟨x_Thing, x_Marks, x_Salt⟩ left) :=
  mkCon_fn (fun x y h _ => c32_inj x y h) ((⟨x_Thing, x_Marks, x_Salt⟩, left) : TSecret × Int) (by simp [nz, nz1, ML_nil, encLTMark, encTSecret]) rfl
theorem c32_pc (x : TSecret) (left : Int) (hpre : smSM x ∧ 0 ≤ left ∧ left ≤ 1099511627776) : PCo Tryd.prog 32 [encTSecret x, dI left] (Tab.of []) (dI (szSec x left)) (Tab.of []) := by
  obtain ⟨x_Thing, x_Marks, x_Salt⟩ := x
  refine pco_of_run [] (E := ⟨[c51], [], []⟩) (m := false) (base := 0) (Env.ok_cons c51_ok Env.ok_nil) G_ok mix 300 6 Tryd.func32 (by kernel_rfl) rfl (by kernel_rfl) (by kernel_rfl) rfl ?_
  simp [Tryd.f32]
  simp at hpre
  repeat' (first | omega | refine And.intro ?_ ?_ | intro _)
  all_goals first | (simp only [szSec]; done) | (simp only [szSec]; split <;> omega) | grind [szSec]
theorem c32_ok : c32.ok Tryd.prog := mkCon_ok fun ⟨x, left⟩ hpre => c32_pc x left hpre
theorem wfS_len {r : TSecret} (h : wfTSecret r) : r.Marks.length ≤ maxLen := h.2.1.1
theorem szSec_len {r : TSecret} {left : Int} (h : 0 ≤ szSec r left) : r.Marks.length ≤ left := by
  simp only [szSec] at h
  split at h <;> omega
end Go.Proofs.YthckkminlonbeaaDoor
