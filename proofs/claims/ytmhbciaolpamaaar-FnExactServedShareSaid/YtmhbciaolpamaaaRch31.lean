/- Contracts of the functions that the laws run. -/
import Derived.Test.YtmhbciaolpamaaaRch11
import Derived.Test.YtmhbciaolpamaaaREngB
namespace Go.Proofs.YtmhbciaolpamaaaR
open Go Go.Eng
set_option linter.unusedSimpArgs false
set_option linter.unusedVariables false
set_option maxRecDepth 10000
set_option maxHeartbeats 1000000
@[simp] def smS (x : TSecret) : Prop := x.Marks.length ≤ 1073741823
@[simp] def smSM (x : TSecret) : Prop := x.Marks.length ≤ maxLen
def szSec (x : TSecret) (left : Int) : Int := if left - x.Marks.length < 0 then -1 else left - x.Marks.length
/-- loop.example/g03007/laws.toSecret -/
noncomputable def c149 : Con := mkCon 149 false (α := TSecret) (fun x => (fun (x : TSecret) => [encTSecret x]) x) (fun _ => []) (fun x => (fun (x : TSecret) => smS x) x) (fun x => (fun (x : TSecret) => (encTSecret x : D)) x) (fun x => (fun (x : TSecret) => []) x)
@[simp] theorem c149_f : c149.f = 149 := rfl
@[simp] theorem c149_own : c149.own = false := rfl
theorem c149_inj : ∀ u_ v_ : TSecret, ((fun x => (fun (x : TSecret) => [encTSecret x]) x) u_).map nz = ((fun x => (fun (x : TSecret) => [encTSecret x]) x) v_).map nz → u_ = v_ := by
  intro u_ v_ h
  obtain ⟨x_Thing, x_Marks, x_Salt⟩ := u_
  obtain ⟨x_Thing', x_Marks', x_Salt'⟩ := v_
  simp [nz_lit, nz1_lit, nz_agg, nz_sl, nz1_sl, encLTMark, encTSecret] at h
  first | (simp [h]; done) | (obtain ⟨⟩ := h; simp_all; done) | simp_all
@[simp] theorem c149_fn (x_Thing : Int) (x_Marks : List TMark) (x_Salt : Int) : c149.fn [.agg [.lit (.int .i64 x_Thing), .sl false 2 yTMark (ML encTMark x_Marks), .lit (.int .i64 x_Salt)]] [] = some ((fun (x : TSecret) => smS x) ⟨x_Thing, x_Marks, x_Salt⟩, (fun (x : TSecret) => (encTSecret x : D)) ⟨x_Thing, x_Marks, x_Salt⟩, (fun (x : TSecret) => []) ⟨x_Thing, x_Marks, x_Salt⟩) :=
  mkCon_fn (fun x y h _ => c149_inj x y h) (⟨x_Thing, x_Marks, x_Salt⟩ : TSecret) (by simp [nz, nz1, ML_nil, encLTMark, encTSecret]) rfl
theorem c149_pc (x : TSecret) (hpre : smS x) : PCo Try.prog 149 [encTSecret x] (Tab.of []) (encTSecret x) (Tab.of []) := by
  obtain ⟨x_Thing, x_Marks, x_Salt⟩ := x
  refine pco_of_run [] (E := ⟨[c207], []⟩) (m := false) (base := 0) (Env.ok_cons c207_ok Env.ok_nil) G_ok mix 300 6 Try.func149 (by kernel_rfl) rfl (by kernel_rfl) (by kernel_rfl) rfl ?_
  simp [Try.f149]
  simp at hpre
  omega
theorem c149_ok : c149.ok Try.prog := mkCon_ok fun x hpre => c149_pc x hpre
/-- loop.example/g03007/laws.eqSecret -/
noncomputable def c153 : Con := mkCon 153 false (α := TSecret × TSecret) (fun x => (fun (a : TSecret) (b : TSecret) => [encTSecret a, encTSecret b]) x.1 x.2) (fun _ => []) (fun x => (fun (a : TSecret) (b : TSecret) => smS a ∧ smS b) x.1 x.2) (fun x => (fun (a : TSecret) (b : TSecret) => (dB (decide (a = b)) : D)) x.1 x.2) (fun x => (fun (a : TSecret) (b : TSecret) => []) x.1 x.2)
@[simp] theorem c153_f : c153.f = 153 := rfl
@[simp] theorem c153_own : c153.own = false := rfl
theorem c153_inj : ∀ u_ v_ : TSecret × TSecret, ((fun x => (fun (a : TSecret) (b : TSecret) => [encTSecret a, encTSecret b]) x.1 x.2) u_).map nz = ((fun x => (fun (a : TSecret) (b : TSecret) => [encTSecret a, encTSecret b]) x.1 x.2) v_).map nz → u_ = v_ := by
  intro u_ v_ h
  obtain ⟨⟨a_Thing, a_Marks, a_Salt⟩, ⟨b_Thing, b_Marks, b_Salt⟩⟩ := u_
  obtain ⟨⟨a_Thing', a_Marks', a_Salt'⟩, ⟨b_Thing', b_Marks', b_Salt'⟩⟩ := v_
  simp [nz_lit, nz1_lit, nz_agg, nz_sl, nz1_sl, encLTMark, encTSecret] at h
  first | (simp [h]; done) | (obtain ⟨⟩ := h; simp_all; done) | simp_all
@[simp] theorem c153_fn (a_Thing : Int) (a_Marks : List TMark) (a_Salt : Int) (b_Thing : Int) (b_Marks : List TMark) (b_Salt : Int) : c153.fn [.agg [.lit (.int .i64 a_Thing), .sl false 2 yTMark (ML encTMark a_Marks), .lit (.int .i64 a_Salt)], .agg [.lit (.int .i64 b_Thing), .sl false 2 yTMark (ML encTMark b_Marks), .lit (.int .i64 b_Salt)]] [] = some ((fun (a : TSecret) (b : TSecret) => smS a ∧ smS b) ⟨a_Thing, a_Marks, a_Salt⟩ ⟨b_Thing, b_Marks, b_Salt⟩, (fun (a : TSecret) (b : TSecret) => (dB (decide (a = b)) : D)) ⟨a_Thing, a_Marks, a_Salt⟩ ⟨b_Thing, b_Marks, b_Salt⟩, (fun (a : TSecret) (b : TSecret) => []) ⟨a_Thing, a_Marks, a_Salt⟩ ⟨b_Thing, b_Marks, b_Salt⟩) :=
  mkCon_fn (fun x y h _ => c153_inj x y h) ((⟨a_Thing, a_Marks, a_Salt⟩, ⟨b_Thing, b_Marks, b_Salt⟩) : TSecret × TSecret) (by simp [nz, nz1, ML_nil, encLTMark, encTSecret]) rfl
theorem c153_pc (a : TSecret) (b : TSecret) (hpre : smS a ∧ smS b) : PCo Try.prog 153 [encTSecret a, encTSecret b] (Tab.of []) (dB (decide (a = b))) (Tab.of []) := by
  obtain ⟨a_Thing, a_Marks, a_Salt⟩ := a
  obtain ⟨b_Thing, b_Marks, b_Salt⟩ := b
  refine pco_of_run [] (E := ⟨[c210], []⟩) (m := false) (base := 0) (Env.ok_cons c210_ok Env.ok_nil) G_ok mix 300 6 Try.func153 (by kernel_rfl) rfl (by kernel_rfl) (by kernel_rfl) rfl ?_
  simp [Try.f153]
  simp at hpre
  repeat' (first | omega | refine And.intro ?_ ?_ | intro _)
  all_goals grind
theorem c153_ok : c153.ok Try.prog := mkCon_ok fun ⟨a, b⟩ hpre => c153_pc a b hpre
/-- loop.example/g03007/laws.szSecret -/
noncomputable def c147 : Con := mkCon 147 false (α := TSecret × Int) (fun x => (fun (x : TSecret) (left : Int) => [encTSecret x, dI left]) x.1 x.2) (fun _ => []) (fun x => (fun (x : TSecret) (left : Int) => smSM x ∧ 0 ≤ left ∧ left ≤ 1099511627776) x.1 x.2) (fun x => (fun (x : TSecret) (left : Int) => (dI (szSec x left) : D)) x.1 x.2) (fun x => (fun (x : TSecret) (left : Int) => []) x.1 x.2)
@[simp] theorem c147_f : c147.f = 147 := rfl
@[simp] theorem c147_own : c147.own = false := rfl
theorem c147_inj : ∀ u_ v_ : TSecret × Int, ((fun x => (fun (x : TSecret) (left : Int) => [encTSecret x, dI left]) x.1 x.2) u_).map nz = ((fun x => (fun (x : TSecret) (left : Int) => [encTSecret x, dI left]) x.1 x.2) v_).map nz → u_ = v_ := by
  intro u_ v_ h
  obtain ⟨⟨x_Thing, x_Marks, x_Salt⟩, left⟩ := u_
  obtain ⟨⟨x_Thing', x_Marks', x_Salt'⟩, left'⟩ := v_
  simp [nz_lit, nz1_lit, nz_agg, nz_sl, nz1_sl, encLTMark, encTSecret] at h
  first | (simp [h]; done) | (obtain ⟨⟩ := h; simp_all; done) | simp_all
@[simp] theorem c147_fn (x_Thing : Int) (x_Marks : List TMark) (x_Salt : Int) (left : Int) : c147.fn [.agg [.lit (.int .i64 x_Thing), .sl false 2 yTMark (ML encTMark x_Marks), .lit (.int .i64 x_Salt)], .lit (.int .i64 left)] [] = some ((fun (x : TSecret) (left : Int) => smSM x ∧ 0 ≤ left ∧ left ≤ 1099511627776) ⟨x_Thing, x_Marks, x_Salt⟩ left, (fun (x : TSecret) (left : Int) => (dI (szSec x left) : D)) ⟨x_Thing, x_Marks, x_Salt⟩ left, (fun (x : TSecret) (left : Int) => []) ⟨x_Thing, x_Marks, x_Salt⟩ left) :=
  mkCon_fn (fun x y h _ => c147_inj x y h) ((⟨x_Thing, x_Marks, x_Salt⟩, left) : TSecret × Int) (by simp [nz, nz1, ML_nil, encLTMark, encTSecret]) rfl
theorem c147_pc (x : TSecret) (left : Int) (hpre : smSM x ∧ 0 ≤ left ∧ left ≤ 1099511627776) : PCo Try.prog 147 [encTSecret x, dI left] (Tab.of []) (dI (szSec x left)) (Tab.of []) := by
  obtain ⟨x_Thing, x_Marks, x_Salt⟩ := x
  refine pco_of_run [] (E := ⟨[c206], []⟩) (m := false) (base := 0) (Env.ok_cons c206_ok Env.ok_nil) G_ok mix 300 6 Try.func147 (by kernel_rfl) rfl (by kernel_rfl) (by kernel_rfl) rfl ?_
  simp [Try.f147]
  simp at hpre
  repeat' (first | omega | refine And.intro ?_ ?_ | intro _)
  all_goals first | (simp only [szSec]; done) | (simp only [szSec]; split <;> omega) | grind [szSec]
theorem c147_ok : c147.ok Try.prog := mkCon_ok fun ⟨x, left⟩ hpre => c147_pc x left hpre
theorem wfS_len {r : TSecret} (h : wfTSecret r) : r.Marks.length ≤ maxLen := h.2.1.1
theorem szSec_len {r : TSecret} {left : Int} (h : 0 ≤ szSec r left) : r.Marks.length ≤ left := by
  simp only [szSec] at h
  split at h <;> omega
end Go.Proofs.YtmhbciaolpamaaaR
