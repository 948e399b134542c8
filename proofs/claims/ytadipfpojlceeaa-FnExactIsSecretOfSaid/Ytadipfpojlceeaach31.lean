/- Contracts of the functions that the laws run. -/
import Derived.Test.Ytadipfpojlceeaach11
import Derived.Test.YtadipfpojlceeaaEngB
namespace Go.Proofs.Ytadipfpojlceeaa
open Go Go.Eng
set_option linter.unusedSimpArgs false
set_option linter.unusedVariables false
set_option maxRecDepth 10000
set_option maxHeartbeats 1000000
@[simp] def smS (x : TSecret) : Prop := x.Marks.length ≤ 1073741823
@[simp] def smSM (x : TSecret) : Prop := x.Marks.length ≤ maxLen
def szSec (x : TSecret) (left : Int) : Int := if left - x.Marks.length < 0 then -1 else left - x.Marks.length
/-- loop.example/g03007/laws.toSecret -/
noncomputable def c86 : Con := mkCon 86 false (α := TSecret) (fun x => (fun (x : TSecret) => [encTSecret x]) x) (fun _ => []) (fun x => (fun (x : TSecret) => smS x) x) (fun x => (fun (x : TSecret) => (encTSecret x : D)) x) (fun x => (fun (x : TSecret) => []) x)
@[simp] theorem c86_f : c86.f = 86 := rfl
@[simp] theorem c86_own : c86.own = false := rfl
theorem c86_inj : ∀ u_ v_ : TSecret, ((fun x => (fun (x : TSecret) => [encTSecret x]) x) u_).map nz = ((fun x => (fun (x : TSecret) => [encTSecret x]) x) v_).map nz → u_ = v_ := by
  intro u_ v_ h
  obtain ⟨x_Thing, x_Marks, x_Salt⟩ := u_
  obtain ⟨x_Thing', x_Marks', x_Salt'⟩ := v_
  simp [nz_lit, nz1_lit, nz_agg, nz_sl, nz1_sl, encLTMark, encTSecret] at h
  first | (simp [h]; done) | (obtain ⟨⟩ := h; simp_all; done) | simp_all
@[simp] theorem c86_fn (x_Thing : Int) (x_Marks : List TMark) (x_Salt : Int) : c86.fn [.agg [.lit (.int .i64 x_Thing), .sl false 2 yTMark (ML encTMark x_Marks), .lit (.int .i64 x_Salt)]] [] = some ((fun (x : TSecret) => smS x) ⟨x_Thing, x_Marks, x_Salt⟩, (fun (x : TSecret) => (encTSecret x : D)) ⟨x_Thing, x_Marks, x_Salt⟩, (fun (x : TSecret) => []) ⟨x_Thing, x_Marks, x_Salt⟩) :=
  mkCon_fn (fun x y h _ => c86_inj x y h) (⟨x_Thing, x_Marks, x_Salt⟩ : TSecret) (by simp [nz, nz1, ML_nil, encLTMark, encTSecret]) rfl
theorem c86_pc (x : TSecret) (hpre : smS x) : PCo Try.prog 86 [encTSecret x] (Tab.of []) (encTSecret x) (Tab.of []) := by
  obtain ⟨x_Thing, x_Marks, x_Salt⟩ := x
  refine pco_of_run [] (E := ⟨[c161], []⟩) (m := false) (base := 0) (Env.ok_cons c161_ok Env.ok_nil) G_ok mix 300 6 Try.func86 (by kernel_rfl) rfl (by kernel_rfl) (by kernel_rfl) rfl ?_
  simp [Try.f86]
  simp at hpre
  omega
theorem c86_ok : c86.ok Try.prog := mkCon_ok fun x hpre => c86_pc x hpre
/-- loop.example/g03007/laws.eqSecret -/
noncomputable def c88 : Con := mkCon 88 false (α := TSecret × TSecret) (fun x => (fun (a : TSecret) (b : TSecret) => [encTSecret a, encTSecret b]) x.1 x.2) (fun _ => []) (fun x => (fun (a : TSecret) (b : TSecret) => smS a ∧ smS b) x.1 x.2) (fun x => (fun (a : TSecret) (b : TSecret) => (dB (decide (a = b)) : D)) x.1 x.2) (fun x => (fun (a : TSecret) (b : TSecret) => []) x.1 x.2)
@[simp] theorem c88_f : c88.f = 88 := rfl
@[simp] theorem c88_own : c88.own = false := rfl
theorem c88_inj : ∀ u_ v_ : TSecret × TSecret, ((fun x => (fun (a : TSecret) (b : TSecret) => [encTSecret a, encTSecret b]) x.1 x.2) u_).map nz = ((fun x => (fun (a : TSecret) (b : TSecret) => [encTSecret a, encTSecret b]) x.1 x.2) v_).map nz → u_ = v_ := by
  intro u_ v_ h
  obtain ⟨⟨a_Thing, a_Marks, a_Salt⟩, ⟨b_Thing, b_Marks, b_Salt⟩⟩ := u_
  obtain ⟨⟨a_Thing', a_Marks', a_Salt'⟩, ⟨b_Thing', b_Marks', b_Salt'⟩⟩ := v_
  simp [nz_lit, nz1_lit, nz_agg, nz_sl, nz1_sl, encLTMark, encTSecret] at h
  first | (simp [h]; done) | (obtain ⟨⟩ := h; simp_all; done) | simp_all
@[simp] theorem c88_fn (a_Thing : Int) (a_Marks : List TMark) (a_Salt : Int) (b_Thing : Int) (b_Marks : List TMark) (b_Salt : Int) : c88.fn [.agg [.lit (.int .i64 a_Thing), .sl false 2 yTMark (ML encTMark a_Marks), .lit (.int .i64 a_Salt)], .agg [.lit (.int .i64 b_Thing), .sl false 2 yTMark (ML encTMark b_Marks), .lit (.int .i64 b_Salt)]] [] = some ((fun (a : TSecret) (b : TSecret) => smS a ∧ smS b) ⟨a_Thing, a_Marks, a_Salt⟩ ⟨b_Thing, b_Marks, b_Salt⟩, (fun (a : TSecret) (b : TSecret) => (dB (decide (a = b)) : D)) ⟨a_Thing, a_Marks, a_Salt⟩ ⟨b_Thing, b_Marks, b_Salt⟩, (fun (a : TSecret) (b : TSecret) => []) ⟨a_Thing, a_Marks, a_Salt⟩ ⟨b_Thing, b_Marks, b_Salt⟩) :=
  mkCon_fn (fun x y h _ => c88_inj x y h) ((⟨a_Thing, a_Marks, a_Salt⟩, ⟨b_Thing, b_Marks, b_Salt⟩) : TSecret × TSecret) (by simp [nz, nz1, ML_nil, encLTMark, encTSecret]) rfl
theorem c88_pc (a : TSecret) (b : TSecret) (hpre : smS a ∧ smS b) : PCo Try.prog 88 [encTSecret a, encTSecret b] (Tab.of []) (dB (decide (a = b))) (Tab.of []) := by
  obtain ⟨a_Thing, a_Marks, a_Salt⟩ := a
  obtain ⟨b_Thing, b_Marks, b_Salt⟩ := b
  refine pco_of_run [] (E := ⟨[c163], []⟩) (m := false) (base := 0) (Env.ok_cons c163_ok Env.ok_nil) G_ok mix 300 6 Try.func88 (by kernel_rfl) rfl (by kernel_rfl) (by kernel_rfl) rfl ?_
  simp [Try.f88]
  simp at hpre
  repeat' (first | omega | refine And.intro ?_ ?_ | intro _)
  all_goals grind
theorem c88_ok : c88.ok Try.prog := mkCon_ok fun ⟨a, b⟩ hpre => c88_pc a b hpre
/-- loop.example/g03007/laws.szSecret -/
noncomputable def c84 : Con := mkCon 84 false (α := TSecret × Int) (fun x => (fun (x : TSecret) (left : Int) => [encTSecret x, dI left]) x.1 x.2) (fun _ => []) (fun x => (fun (x : TSecret) (left : Int) => smSM x ∧ 0 ≤ left ∧ left ≤ 1099511627776) x.1 x.2) (fun x => (fun (x : TSecret) (left : Int) => (dI (szSec x left) : D)) x.1 x.2) (fun x => (fun (x : TSecret) (left : Int) => []) x.1 x.2)
@[simp] theorem c84_f : c84.f = 84 := rfl
@[simp] theorem c84_own : c84.own = false := rfl
theorem c84_inj : ∀ u_ v_ : TSecret × Int, ((fun x => (fun (x : TSecret) (left : Int) => [encTSecret x, dI left]) x.1 x.2) u_).map nz = ((fun x => (fun (x : TSecret) (left : Int) => [encTSecret x, dI left]) x.1 x.2) v_).map nz → u_ = v_ := by
  intro u_ v_ h
  obtain ⟨⟨x_Thing, x_Marks, x_Salt⟩, left⟩ := u_
  obtain ⟨⟨x_Thing', x_Marks', x_Salt'⟩, left'⟩ := v_
  simp [nz_lit, nz1_lit, nz_agg, nz_sl, nz1_sl, encLTMark, encTSecret] at h
  first | (simp [h]; done) | (obtain ⟨⟩ := h; simp_all; done) | simp_all
@[simp] theorem c84_fn (x_Thing : Int) (x_Marks : List TMark) (x_Salt : Int) (left : Int) : c84.fn [.agg [.lit (.int .i64 x_Thing), .sl false 2 yTMark (ML encTMark x_Marks), .lit (.int .i64 x_Salt)], .lit (.int .i64 left)] [] = some ((fun (x : TSecret) (left : Int) => smSM x ∧ 0 ≤ left ∧ left ≤ 1099511627776) ⟨x_Thing, x_Marks, x_Salt⟩ left, (fun (x : TSecret) (left : Int) => (dI (szSec x left) : D)) ⟨x_Thing, x_Marks, x_Salt⟩ left, (fun (x : TSecret) (left : Int) => []) ⟨x_Thing, x_Marks, x_Salt⟩ left) :=
  mkCon_fn (fun x y h _ => c84_inj x y h) ((⟨x_Thing, x_Marks, x_Salt⟩, left) : TSecret × Int) (by simp [nz, nz1, ML_nil, encLTMark, encTSecret]) rfl
theorem c84_pc (x : TSecret) (left : Int) (hpre : smSM x ∧ 0 ≤ left ∧ left ≤ 1099511627776) : PCo Try.prog 84 [encTSecret x, dI left] (Tab.of []) (dI (szSec x left)) (Tab.of []) := by
  obtain ⟨x_Thing, x_Marks, x_Salt⟩ := x
  refine pco_of_run [] (E := ⟨[c159], []⟩) (m := false) (base := 0) (Env.ok_cons c159_ok Env.ok_nil) G_ok mix 300 6 Try.func84 (by kernel_rfl) rfl (by kernel_rfl) (by kernel_rfl) rfl ?_
  simp [Try.f84]
  simp at hpre
  repeat' (first | omega | refine And.intro ?_ ?_ | intro _)
  all_goals first | (simp only [szSec]; done) | (simp only [szSec]; split <;> omega) | grind [szSec]
theorem c84_ok : c84.ok Try.prog := mkCon_ok fun ⟨x, left⟩ hpre => c84_pc x left hpre
/-- loop.example/g03007/spec.IsSecretOf -/
noncomputable def c85 : Con := mkCon 85 false (α := TSecret × Int) (fun x => (fun (x : TSecret) (sl : Int) => [encTSecret x, dI sl]) x.1 x.2) (fun _ => []) (fun x => (fun (x : TSecret) (sl : Int) => smS x) x.1 x.2) (fun x => (fun (x : TSecret) (sl : Int) => (dB (mOpens x.Marks x.Salt sl) : D)) x.1 x.2) (fun x => (fun (x : TSecret) (sl : Int) => []) x.1 x.2)
@[simp] theorem c85_f : c85.f = 85 := rfl
@[simp] theorem c85_own : c85.own = false := rfl
theorem c85_inj : ∀ u_ v_ : TSecret × Int, ((fun x => (fun (x : TSecret) (sl : Int) => [encTSecret x, dI sl]) x.1 x.2) u_).map nz = ((fun x => (fun (x : TSecret) (sl : Int) => [encTSecret x, dI sl]) x.1 x.2) v_).map nz → u_ = v_ := by
  intro u_ v_ h
  obtain ⟨⟨x_Thing, x_Marks, x_Salt⟩, sl⟩ := u_
  obtain ⟨⟨x_Thing', x_Marks', x_Salt'⟩, sl'⟩ := v_
  simp [nz_lit, nz1_lit, nz_agg, nz_sl, nz1_sl, encLTMark, encTSecret] at h
  first | (simp [h]; done) | (obtain ⟨⟩ := h; simp_all; done) | simp_all
@[simp] theorem c85_fn (x_Thing : Int) (x_Marks : List TMark) (x_Salt : Int) (sl : Int) : c85.fn [.agg [.lit (.int .i64 x_Thing), .sl false 2 yTMark (ML encTMark x_Marks), .lit (.int .i64 x_Salt)], .lit (.int .i64 sl)] [] = some ((fun (x : TSecret) (sl : Int) => smS x) ⟨x_Thing, x_Marks, x_Salt⟩ sl, (fun (x : TSecret) (sl : Int) => (dB (mOpens x.Marks x.Salt sl) : D)) ⟨x_Thing, x_Marks, x_Salt⟩ sl, (fun (x : TSecret) (sl : Int) => []) ⟨x_Thing, x_Marks, x_Salt⟩ sl) :=
  mkCon_fn (fun x y h _ => c85_inj x y h) ((⟨x_Thing, x_Marks, x_Salt⟩, sl) : TSecret × Int) (by simp [nz, nz1, ML_nil, encLTMark, encTSecret]) rfl
theorem c85_pc (x : TSecret) (sl : Int) (hpre : smS x) : PCo Try.prog 85 [encTSecret x, dI sl] (Tab.of []) (dB (mOpens x.Marks x.Salt sl)) (Tab.of []) := by
  obtain ⟨x_Thing, x_Marks, x_Salt⟩ := x
  refine pco_of_run [] (E := ⟨[c160], []⟩) (m := false) (base := 0) (Env.ok_cons c160_ok Env.ok_nil) G_ok mix 300 6 Try.func85 (by kernel_rfl) rfl (by kernel_rfl) (by kernel_rfl) rfl ?_
  simp [Try.f85]
  simpa using hpre
theorem c85_ok : c85.ok Try.prog := mkCon_ok fun ⟨x, sl⟩ hpre => c85_pc x sl hpre
/-- loop.example/g03007/impl.IsSecretOf -/
noncomputable def c87 : Con := mkCon 87 false (α := TSecret × Int) (fun x => (fun (x : TSecret) (sl : Int) => [encTSecret x, dI sl]) x.1 x.2) (fun _ => []) (fun x => (fun (x : TSecret) (sl : Int) => smS x) x.1 x.2) (fun x => (fun (x : TSecret) (sl : Int) => (dB (mOpens x.Marks x.Salt sl) : D)) x.1 x.2) (fun x => (fun (x : TSecret) (sl : Int) => []) x.1 x.2)
@[simp] theorem c87_f : c87.f = 87 := rfl
@[simp] theorem c87_own : c87.own = false := rfl
theorem c87_inj : ∀ u_ v_ : TSecret × Int, ((fun x => (fun (x : TSecret) (sl : Int) => [encTSecret x, dI sl]) x.1 x.2) u_).map nz = ((fun x => (fun (x : TSecret) (sl : Int) => [encTSecret x, dI sl]) x.1 x.2) v_).map nz → u_ = v_ := by
  intro u_ v_ h
  obtain ⟨⟨x_Thing, x_Marks, x_Salt⟩, sl⟩ := u_
  obtain ⟨⟨x_Thing', x_Marks', x_Salt'⟩, sl'⟩ := v_
  simp [nz_lit, nz1_lit, nz_agg, nz_sl, nz1_sl, encLTMark, encTSecret] at h
  first | (simp [h]; done) | (obtain ⟨⟩ := h; simp_all; done) | simp_all
@[simp] theorem c87_fn (x_Thing : Int) (x_Marks : List TMark) (x_Salt : Int) (sl : Int) : c87.fn [.agg [.lit (.int .i64 x_Thing), .sl false 2 yTMark (ML encTMark x_Marks), .lit (.int .i64 x_Salt)], .lit (.int .i64 sl)] [] = some ((fun (x : TSecret) (sl : Int) => smS x) ⟨x_Thing, x_Marks, x_Salt⟩ sl, (fun (x : TSecret) (sl : Int) => (dB (mOpens x.Marks x.Salt sl) : D)) ⟨x_Thing, x_Marks, x_Salt⟩ sl, (fun (x : TSecret) (sl : Int) => []) ⟨x_Thing, x_Marks, x_Salt⟩ sl) :=
  mkCon_fn (fun x y h _ => c87_inj x y h) ((⟨x_Thing, x_Marks, x_Salt⟩, sl) : TSecret × Int) (by simp [nz, nz1, ML_nil, encLTMark, encTSecret]) rfl
theorem c87_pc (x : TSecret) (sl : Int) (hpre : smS x) : PCo Try.prog 87 [encTSecret x, dI sl] (Tab.of []) (dB (mOpens x.Marks x.Salt sl)) (Tab.of []) := by
  obtain ⟨x_Thing, x_Marks, x_Salt⟩ := x
  refine pco_of_run [] (E := ⟨[c162], []⟩) (m := false) (base := 0) (Env.ok_cons c162_ok Env.ok_nil) G_ok mix 300 6 Try.func87 (by kernel_rfl) rfl (by kernel_rfl) (by kernel_rfl) rfl ?_
  simp [Try.f87]
  simpa using hpre
theorem c87_ok : c87.ok Try.prog := mkCon_ok fun ⟨x, sl⟩ hpre => c87_pc x sl hpre
theorem wfS_len {r : TSecret} (h : wfTSecret r) : r.Marks.length ≤ maxLen := h.2.1.1
theorem szSec_len {r : TSecret} {left : Int} (h : 0 ≤ szSec r left) : r.Marks.length ≤ left := by
  simp only [szSec] at h
  split at h <;> omega
/-- loop.example/g03007/laws.FnExactIsSecretOf -/
theorem law20 (x : TSecret) (wx : wfTSecret x) (sl : Int) (wsl : inR .i64 sl) : PCo Try.prog 20 [encTSecret x, dI sl] (Tab.of []) (dB true) (Tab.of []) := by
  obtain ⟨x_Thing, x_Marks, x_Salt⟩ := x
  refine pco_of_run [10] (E := ⟨[c84, c85, c86, c87, c88], []⟩) (m := false) (base := 0) (Env.ok_cons c84_ok (Env.ok_cons c85_ok (Env.ok_cons c86_ok (Env.ok_cons c87_ok (Env.ok_cons c88_ok Env.ok_nil))))) G_ok mix 400 6 Try.func20 (by kernel_rfl) rfl (by kernel_rfl) (by kernel_rfl) rfl ?_
  simp [Try.f20]
  have h1 := wfS_len wx
  simp at h1
  refine ⟨h1, fun h => ?_⟩
  have h2 := szSec_len h
  simp at h2
  omega
theorem law20_pc (D0 : D) (h0 : Sh G 9 91 D0) (D1 : D) (h1 : Sh G 9 3 D1) : PC Try.prog 20 [D0, D1] (dB true) [] := by
  obtain ⟨x, rfl, wx⟩ := sh91 (n := 5) h0
  obtain ⟨sl, rfl, wsl⟩ := sh3 (n := 8) h1
  exact law20 x wx sl wsl

end Go.Proofs.Ytadipfpojlceeaa
