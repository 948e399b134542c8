/- Contracts of the functions that the laws run. -/
import Derived.Test.Ytnnlpbogdkdghaach00
import Derived.Test.YtnnlpbogdkdghaaEngB
namespace Go.Proofs.Ytnnlpbogdkdghaa
open Go Go.Eng
set_option linter.unusedSimpArgs false
set_option linter.unusedVariables false
set_option maxRecDepth 10000
set_option maxHeartbeats 1000000
theorem exBelI : ∃ (fi : TL1Cur → List Int → Int) (fs : TL1Cur → Int → TL1Cur), (∀ (c : TL1Cur) (l : List Int), c42.fn [.ptr (0, 0) 0, .sl false 1 (.lit (.int .i64 0)) (ML dI l)] [((0, 0), .box (.agg [.sl false 1 (.lit (.int .u8 0)) (ML dU c.b_), .lit (.int .i64 c.i_), .lit (.int .i64 c.h_)]))] = some (okCu c ∧ 0 < l.length ∧ l.length ≤ 1099511627776, dI (fi c l), [((0, 0), .box (encTL1Cur (fs c l.length)))])) ∧ (∀ c l, fi c l = l[(bV c l.length).toNat]?.getD 0) ∧ ∀ c n, fs c n = bN c n :=
  ⟨fun c l => l[(bV c l.length).toNat]?.getD 0, bN, fun c l => c42_fn c.b_ c.i_ c.h_ l, fun _ _ => rfl, fun _ _ => rfl⟩
def rawL : List Int := [-1, 0, 8, 50, 51, 1000, 9223372036854775807, -9223372036854775808]
noncomputable def rawV (c : TL1Cur) : Int := rawL[(bV c 8).toNat]?.getD 0
/-- a span that is drawn -/
noncomputable def dS5N (c : TL1Cur) : TL1Cur := bN (bN c 60) 30
def lim5 : List Int := [-1, 0, 100000, 100001]
theorem okCu_S5 {c : TL1Cur} (h : okCu c) : okCu (dS5N c) := okCu_bN (okCu_bN h 60) 30
end Go.Proofs.Ytnnlpbogdkdghaa
