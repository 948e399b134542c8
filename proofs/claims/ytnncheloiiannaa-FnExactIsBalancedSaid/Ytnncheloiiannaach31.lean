/- Contracts of the functions that the laws run. -/
import Derived.Test.Ytnncheloiiannaach11
import Derived.Test.YtnncheloiiannaaEngB
namespace Go.Proofs.Ytnncheloiiannaa
open Go Go.Eng
set_option linter.unusedSimpArgs false
set_option linter.unusedVariables false
set_option maxRecDepth 10000
set_option maxHeartbeats 1000000
@[simp] def smS (x : TSecret) : Prop := x.Marks.length ≤ 1073741823
@[simp] def smSM (x : TSecret) : Prop := x.Marks.length ≤ maxLen
def szSec (x : TSecret) (left : Int) : Int := if left - x.Marks.length < 0 then -1 else left - x.Marks.length
/-- loop.example/g03007/laws.toSecret -/
noncomputable def c38 : Con := mkCon 38 false (α := TSecret) (fun x => (fun (x : TSecret) => [encTSecret x]) x) (fun _ => []) (fun x => (fun (x : TSecret) => smS x) x) (fun x => (fun (x : TSecret) => (encTSecret x : D)) x) (fun x => (fun (x : TSecret) => []) x)
@[simp] theorem c38_f : c38.f = 38 := rfl
@[simp] theorem c38_own : c38.own = false := rfl
theorem c38_inj : ∀ u_ v_ : TSecret, ((fun x => (fun (x : TSecret) => [encTSecret x]) x) u_).map nz = ((fun x => (fun (x : TSecret) => [encTSecret x]) x) v_).map nz → u_ = v_ := by
  intro u_ v_ h
  obtain ⟨x_Thing, x_Marks, x_Salt⟩ := u_
  obtain ⟨x_Thing', x_Marks', x_Salt'⟩ := v_
  simp [nz_lit, nz1_lit, nz_agg, nz_sl, nz1_sl, encLTMark, encTSecret] at h
  first | (simp [h]; done) | (obtain ⟨⟩ := h; simp_all; done) | simp_all
@[simp] theorem c38_fn (x_Thing : Int) (x_Marks : List TMark) (x_Salt : Int) : c38.fn [.agg [.lit (.int .i64 x_Thing), .sl false 2 yTMark (ML encTMark x_Marks), .lit (.int .i64 x_Salt)]] [] = some ((fun (x : TSecret) => smS x) ⟨x_Thing, x_Marks, x_Salt⟩, (fun (x : TSecret) => (encTSecret x : D)) ⟨x_Thing, x_Marks, x_Salt⟩, (fun (x : TSecret) => []) ⟨x_Thing, x_Marks, x_Salt⟩) :=
  mkCon_fn (fun x y h _ => c38_inj x y h) (⟨x_Thing, x_Marks, x_Salt⟩ : TSecret) (by simp [nz, nz1, ML_nil, encLTMark, encTSecret]) rfl
theorem c38_pc (x : TSecret) (hpre : smS x) : PCo Try.prog 38 [encTSecret x] (Tab.of []) (encTSecret x) (Tab.of []) := by
  obtain ⟨x_Thing, x_Marks, x_Salt⟩ := x
  refine pco_of_run [] (E := ⟨[c58], [], []⟩) (m := false) (base := 0) (Env.ok_cons c58_ok Env.ok_nil) G_ok mix 300 6 Try.func38 (by kernel_rfl) rfl (by kernel_rfl) (by kernel_rfl) rfl ?_
  simp [Try.f38]
  simp at hpre
  omega
theorem c38_ok : c38.ok Try.prog := mkCon_ok fun x hpre => c38_pc x hpre
/-- loop.example/g03007/laws.eqSecret -/
noncomputable def c49 : Con := mkCon 49 false (α := TSecret × TSecret) (fun x => (fun (a : TSecret) (b : TSecret) => [encTSecret a, encTSecret b]) x.1 x.2) (fun _ => []) (fun x => (fun (a : TSecret) (b : TSecret) => smS a ∧ smS b) x.1 x.2) (fun x => (fun (a : TSecret) (b : TSecret) => (dB (decide (a = b)) : D)) x.1 x.2) (fun x => (fun (a : TSecret) (b : TSecret) => []) x.1 x.2)
@[simp] theorem c49_f : c49.f = 49 := rfl
@[simp] theorem c49_own : c49.own = false := rfl
theorem c49_inj : ∀ u_ v_ : TSecret × TSecret, ((fun x => (fun (a : TSecret) (b : TSecret) => [encTSecret a, encTSecret b]) x.1 x.2) u_).map nz = ((fun x => (fun (a : TSecret) (b : TSecret) => [encTSecret a, encTSecret b]) x.1 x.2) v_).map nz → u_ = v_ := by
  intro u_ v_ h
  obtain ⟨⟨a_Thing, a_Marks, a_Salt⟩, ⟨b_Thing, b_Marks, b_Salt⟩⟩ := u_
  obtain ⟨⟨a_Thing', a_Marks', a_Salt'⟩, ⟨b_Thing', b_Marks', b_Salt'⟩⟩ := v_
  simp [nz_lit, nz1_lit, nz_agg, nz_sl, nz1_sl, encLTMark, encTSecret] at h
  first | (simp [h]; done) | (obtain ⟨⟩ := h; simp_all; done) | simp_all
@[simp] theorem c49_fn (a_Thing : Int) (a_Marks : List TMark) (a_Salt : Int) (b_Thing : Int) (b_Marks : List TMark) (b_Salt : Int) : c49.fn [.agg [.lit (.int .i64 a_Thing), .sl false 2 yTMark (ML encTMark a_Marks), .lit (.int .i64 a_Salt)], .agg [.lit (.int .i64 b_Thing), .sl false 2 yTMark (ML encTMark b_Marks), .lit (.int .i64 b_Salt)]] [] = some ((fun (a : TSecret) (b : TSecret) => smS a ∧ smS b) ⟨a_Thing, a_Marks, a_Salt⟩ ⟨b_Thing, b_Marks, b_Salt⟩, (fun (a : TSecret) (b : TSecret) => (dB (decide (a = b)) : D)) ⟨a_Thing, a_Marks, a_Salt⟩ ⟨b_Thing, b_Marks, b_Salt⟩, (fun (a : TSecret) (b : TSecret) => []) ⟨a_Thing, a_Marks, a_Salt⟩ ⟨b_Thing, b_Marks, b_Salt⟩) :=
  mkCon_fn (fun x y h _ => c49_inj x y h) ((⟨a_Thing, a_Marks, a_Salt⟩, ⟨b_Thing, b_Marks, b_Salt⟩) : TSecret × TSecret) (by simp [nz, nz1, ML_nil, encLTMark, encTSecret]) rfl
theorem c49_pc (a : TSecret) (b : TSecret) (hpre : smS a ∧ smS b) : PCo Try.prog 49 [encTSecret a, encTSecret b] (Tab.of []) (dB (decide (a = b))) (Tab.of []) := by
  obtain ⟨a_Thing, a_Marks, a_Salt⟩ := a
  obtain ⟨b_Thing, b_Marks, b_Salt⟩ := b
  refine pco_of_run [] (E := ⟨[c64], [], []⟩) (m := false) (base := 0) (Env.ok_cons c64_ok Env.ok_nil) G_ok mix 300 6 Try.func49 (by kernel_rfl) rfl (by kernel_rfl) (by kernel_rfl) rfl ?_
  simp [Try.f49]
  simp at hpre
  repeat' (first | omega | refine And.intro ?_ ?_ | intro _)
  all_goals grind
theorem c49_ok : c49.ok Try.prog := mkCon_ok fun ⟨a, b⟩ hpre => c49_pc a b hpre
/-- loop.example/g03007/laws.szSecret -/
noncomputable def c34 : Con := mkCon 34 false (α := TSecret × Int) (fun x => (fun (x : TSecret) (left : Int) => [encTSecret x, dI left]) x.1 x.2) (fun _ => []) (fun x => (fun (x : TSecret) (left : Int) => smSM x ∧ 0 ≤ left ∧ left ≤ 1099511627776) x.1 x.2) (fun x => (fun (x : TSecret) (left : Int) => (dI (szSec x left) : D)) x.1 x.2) (fun x => (fun (x : TSecret) (left : Int) => []) x.1 x.2)
@[simp] theorem c34_f : c34.f = 34 := rfl
@[simp] theorem c34_own : c34.own = false := rfl
theorem c34_inj : ∀ u_ v_ : TSecret × Int, ((fun x => (fun (x : TSecret) (left : Int) => [encTSecret x, dI left]) x.1 x.2) u_).map nz = ((fun x => (fun (x : TSecret) (left : Int) => [encTSecret x, dI left]) x.1 x.2) v_).map nz → u_ = v_ := by
  intro u_ v_ h
  obtain ⟨⟨x_Thing, x_Marks, x_Salt⟩, left⟩ := u_
  obtain ⟨⟨x_Thing', x_Marks', x_Salt'⟩, left'⟩ := v_
  simp [nz_lit, nz1_lit, nz_agg, nz_sl, nz1_sl, encLTMark, encTSecret] at h
  first | (simp [h]; done) | (obtain ⟨⟩ := h; simp_all; done) | simp_all
@[simp] theorem c34_fn (x_Thing : Int) (x_Marks : List TMark) (x_Salt : Int) (left : Int) : c34.fn [.agg [.lit (.int .i64 x_Thing), .sl false 2 yTMark (ML encTMark x_Marks), .lit (.int .i64 x_Salt)], .lit (.int .i64 left)] [] = some ((fun (x : TSecret) (left : Int) => smSM x ∧ 0 ≤ left ∧ left ≤ 1099511627776) ⟨x_Thing, x_Marks, x_Salt⟩ left, (fun (x : TSecret) (left : Int) => (dI (szSec x left) : D)) ⟨x_Thing, x_Marks, x_Salt⟩ left, (fun (x : TSecret) (left : Int) => []) ⟨x_Thing, x_Marks, x_Salt⟩ left) :=
  mkCon_fn (fun x y h _ => c34_inj x y h) ((⟨x_Thing, x_Marks, x_Salt⟩, left) : TSecret × Int) (by simp [nz, nz1, ML_nil, encLTMark, encTSecret]) rfl
theorem c34_pc (x : TSecret) (left : Int) (hpre : smSM x ∧ 0 ≤ left ∧ left ≤ 1099511627776) : PCo Try.prog 34 [encTSecret x, dI left] (Tab.of []) (dI (szSec x left)) (Tab.of []) := by
  obtain ⟨x_Thing, x_Marks, x_Salt⟩ := x
  refine pco_of_run [] (E := ⟨[c55], [], []⟩) (m := false) (base := 0) (Env.ok_cons c55_ok Env.ok_nil) G_ok mix 300 6 Try.func34 (by kernel_rfl) rfl (by kernel_rfl) (by kernel_rfl) rfl ?_
  simp [Try.f34]
  simp at hpre
  repeat' (first | omega | refine And.intro ?_ ?_ | intro _)
  all_goals first | (simp only [szSec]; done) | (simp only [szSec]; split <;> omega) | grind [szSec]
theorem c34_ok : c34.ok Try.prog := mkCon_ok fun ⟨x, left⟩ hpre => c34_pc x left hpre
theorem wfS_len {r : TSecret} (h : wfTSecret r) : r.Marks.length ≤ maxLen := h.2.1.1
theorem szSec_len {r : TSecret} {left : Int} (h : 0 ≤ szSec r left) : r.Marks.length ≤ left := by
  simp only [szSec] at h
  split at h <;> omega
end Go.Proofs.Ytnncheloiiannaa
