/-
  No cell of these rows narrows 'for every input' (looked for: loops, veiled, ifaces, maps, wideKeys, modest, calm, conditions, laid).
  DERIVED. THE GIVEN ROWS OF THIS SEAT. 5 by the template 'for every input the law returns true; each argument reads behind the call as it read before'; 0 by the template 'total and deterministic' (their statements: YtdiajaijdkohlaaTotals.lean).
  GIVEN WITH THE SEED: the statements are not yours to turn. If you find one false, say at which input.
  Laid BY PROGRAM, IN A SANDBOX (cutbox-rows.mjs): the forced cells as the released guide's own fill.sh prints them over the translation 802be7eb1a239603… (all of the seat's roots in one cut). By AI agents, Wed Nov 11 2026. No macro, syntax, notation, axiom, sorry.
-/
import Derived.Test.YtdiajaijdkohlaaChecked
import GoSem.Claim
import GoSem.ClaimJoined
import GoSem.ClaimMapViews
import Derived.JoinedTies
import Derived.KernelRfl
namespace Go.Proofs.Ytdiajaijdkohlaa
/- THE CELL 'sum', in the pinned program and in every row, IS THE sha256 OF THE DUMP (.gsa) THAT YtdiajaijdkohlaaProg.lean LOADS. Nothing in Lean hashes anything: it is a label: what it is worth is what the hold of that sum in a sandbox is worth. -/
noncomputable def Try.pinned : Pinned := { name := "ytdiajaijdkohlaa", sum := "802be7eb1a2396038fd5d2582d3641d818ea5d5af96c1a82df025dce590fd89c", checked := Try.checked }
namespace Rows
def none {H : Type} : Left H := { results := [], args := [] }

/-- 'laws.FnExactRemember': WHATEVER THE INPUT: true; the input reads as it did. -/
def fnExactRememberSpec : ChangeSpec := { name := "fnExactRemember", fn := fun _ => fun
  | [d1, d2, d3] => { results := [.lit (.bool true)], args := [d1, d2, d3] }
  | _ => none }
def fnExactRememberRow : OpenClaim := { program := "ytdiajaijdkohlaa", sum := "802be7eb1a2396038fd5d2582d3641d818ea5d5af96c1a82df025dce590fd89c", func := "loop.example/g03007/laws.FnExactRemember", spec := "fnExactRemember", unfollowed := true, recurses := true, apart := false }
def FnExactRememberSaid : Prop := fnExactRememberRow.holds Try.pinned (OpenSpec.ofChange fnExactRememberSpec)

/-- ITS FALSE NEIGHBOUR: 'it returns false'. Refute it at one input. -/
def fnExactRememberWrong : ChangeSpec := { name := "fnExactRemember", fn := fun _ => fun
  | [d1, d2, d3] => { results := [.lit (.bool false)], args := [d1, d2, d3] }
  | _ => none }
def FnExactRememberWrongFalsely : Prop := fnExactRememberRow.holds Try.pinned (OpenSpec.ofChange fnExactRememberWrong)

/-- 'laws.FnExactJoinDoubts': WHATEVER THE INPUT: true; the input reads as it did. -/
def fnExactJoinDoubtsSpec : ChangeSpec := { name := "fnExactJoinDoubts", fn := fun _ => fun
  | [d1, d2] => { results := [.lit (.bool true)], args := [d1, d2] }
  | _ => none }
def fnExactJoinDoubtsRow : OpenClaim := { program := "ytdiajaijdkohlaa", sum := "802be7eb1a2396038fd5d2582d3641d818ea5d5af96c1a82df025dce590fd89c", func := "loop.example/g03007/laws.FnExactJoinDoubts", spec := "fnExactJoinDoubts", unfollowed := true, recurses := true, apart := false }
def FnExactJoinDoubtsSaid : Prop := fnExactJoinDoubtsRow.holds Try.pinned (OpenSpec.ofChange fnExactJoinDoubtsSpec)

/-- ITS FALSE NEIGHBOUR: 'it returns false'. Refute it at one input. -/
def fnExactJoinDoubtsWrong : ChangeSpec := { name := "fnExactJoinDoubts", fn := fun _ => fun
  | [d1, d2] => { results := [.lit (.bool false)], args := [d1, d2] }
  | _ => none }
def FnExactJoinDoubtsWrongFalsely : Prop := fnExactJoinDoubtsRow.holds Try.pinned (OpenSpec.ofChange fnExactJoinDoubtsWrong)

/-- 'laws.FnExactStopAt': WHATEVER THE INPUT: true; the input reads as it did. -/
def fnExactStopAtSpec : ChangeSpec := { name := "fnExactStopAt", fn := fun _ => fun
  | [d1, d2] => { results := [.lit (.bool true)], args := [d1, d2] }
  | _ => none }
def fnExactStopAtRow : OpenClaim := { program := "ytdiajaijdkohlaa", sum := "802be7eb1a2396038fd5d2582d3641d818ea5d5af96c1a82df025dce590fd89c", func := "loop.example/g03007/laws.FnExactStopAt", spec := "fnExactStopAt", unfollowed := true, recurses := true, apart := false }
def FnExactStopAtSaid : Prop := fnExactStopAtRow.holds Try.pinned (OpenSpec.ofChange fnExactStopAtSpec)

/-- ITS FALSE NEIGHBOUR: 'it returns false'. Refute it at one input. -/
def fnExactStopAtWrong : ChangeSpec := { name := "fnExactStopAt", fn := fun _ => fun
  | [d1, d2] => { results := [.lit (.bool false)], args := [d1, d2] }
  | _ => none }
def FnExactStopAtWrongFalsely : Prop := fnExactStopAtRow.holds Try.pinned (OpenSpec.ofChange fnExactStopAtWrong)

/-- 'laws.FnExactLeftBetween': WHATEVER THE INPUT: true; the input reads as it did. -/
def fnExactLeftBetweenSpec : ChangeSpec := { name := "fnExactLeftBetween", fn := fun _ => fun
  | [d1, d2] => { results := [.lit (.bool true)], args := [d1, d2] }
  | _ => none }
def fnExactLeftBetweenRow : OpenClaim := { program := "ytdiajaijdkohlaa", sum := "802be7eb1a2396038fd5d2582d3641d818ea5d5af96c1a82df025dce590fd89c", func := "loop.example/g03007/laws.FnExactLeftBetween", spec := "fnExactLeftBetween", unfollowed := true, recurses := true, apart := false }
def FnExactLeftBetweenSaid : Prop := fnExactLeftBetweenRow.holds Try.pinned (OpenSpec.ofChange fnExactLeftBetweenSpec)

/-- ITS FALSE NEIGHBOUR: 'it returns false'. Refute it at one input. -/
def fnExactLeftBetweenWrong : ChangeSpec := { name := "fnExactLeftBetween", fn := fun _ => fun
  | [d1, d2] => { results := [.lit (.bool false)], args := [d1, d2] }
  | _ => none }
def FnExactLeftBetweenWrongFalsely : Prop := fnExactLeftBetweenRow.holds Try.pinned (OpenSpec.ofChange fnExactLeftBetweenWrong)

/-- 'laws.FnExactAccountsOf': WHATEVER THE INPUT: true; the input reads as it did. -/
def fnExactAccountsOfSpec : ChangeSpec := { name := "fnExactAccountsOf", fn := fun _ => fun
  | [d] => { results := [.lit (.bool true)], args := [d] }
  | _ => none }
def fnExactAccountsOfRow : OpenClaim := { program := "ytdiajaijdkohlaa", sum := "802be7eb1a2396038fd5d2582d3641d818ea5d5af96c1a82df025dce590fd89c", func := "loop.example/g03007/laws.FnExactAccountsOf", spec := "fnExactAccountsOf", recurses := true, apart := false }
def FnExactAccountsOfSaid : Prop := fnExactAccountsOfRow.holds Try.pinned (OpenSpec.ofChange fnExactAccountsOfSpec)

/-- ITS FALSE NEIGHBOUR: 'it returns false'. Refute it at one input. -/
def fnExactAccountsOfWrong : ChangeSpec := { name := "fnExactAccountsOf", fn := fun _ => fun
  | [d] => { results := [.lit (.bool false)], args := [d] }
  | _ => none }
def FnExactAccountsOfWrongFalsely : Prop := fnExactAccountsOfRow.holds Try.pinned (OpenSpec.ofChange fnExactAccountsOfWrong)

/- THE SECOND FORM. 'bulk': how many values and letters a reading holds, each counted each time it is reached (what is shared counts as often as it is met; a slice's spare places count too). A statement '..UptoSaid' is the law's where the arguments, and the package variables that the reading takes, are together of bulk at most 1048576: NARROWER than '..Said'. Prove '..Said' where nothing that the law and all that it calls make is longer than what came in: it says more and counts as full. Else prove '..UptoSaid'. A law counts once. -/
mutual
def uptoBulk {H : Type} : DataW H → Nat
  | .lit (.string bytes) => bytes.length + 1
  | .lit _ => 1
  | .nil => 1
  | .ptr d => uptoBulk d + 1
  | .slice elems spare => uptoBulkAll elems + uptoBulkAll spare + 1
  | .agg parts => uptoBulkAll parts + 1
  | .iface _ d => uptoBulk d + 1
  | .map entries => uptoBulkEntries entries + 1
  | .held _ => 1
def uptoBulkAll {H : Type} : List (DataW H) → Nat
  | [] => 0
  | d :: r => uptoBulk d + uptoBulkAll r
def uptoBulkEntries {H : Type} : List (Lit × DataW H) → Nat
  | [] => 0
  | x :: r => uptoBulkEntry x + uptoBulkEntries r
def uptoBulkEntry {H : Type} : Lit × DataW H → Nat
  | (.string bytes, d) => bytes.length + uptoBulk d + 1
  | (_, d) => uptoBulk d + 1
 end
def uptoSmall : (H : Type) → List (DataW H) → Bool := fun _ ds => decide (uptoBulkAll ds ≤ 1048576)
def OpenSpec.upto (s : _root_.Go.ChangeSpec) : _root_.Go.OpenSpec := { _root_.Go.OpenSpec.ofChange s with cond := some uptoSmall }

/-- 'laws.FnExactRemember', WHERE WHAT IT READS IS OF BULK AT MOST 1048576: true; the input reads as it did. -/
def fnExactRememberUptoRow : OpenClaim := { program := "ytdiajaijdkohlaa", sum := "802be7eb1a2396038fd5d2582d3641d818ea5d5af96c1a82df025dce590fd89c", func := "loop.example/g03007/laws.FnExactRemember", spec := "fnExactRemember", unfollowed := true, recurses := true, apart := false, narrowed := true }
def FnExactRememberUptoSaid : Prop := fnExactRememberUptoRow.holds Try.pinned (OpenSpec.upto fnExactRememberSpec)

/-- 'laws.FnExactJoinDoubts', WHERE WHAT IT READS IS OF BULK AT MOST 1048576: true; the input reads as it did. -/
def fnExactJoinDoubtsUptoRow : OpenClaim := { program := "ytdiajaijdkohlaa", sum := "802be7eb1a2396038fd5d2582d3641d818ea5d5af96c1a82df025dce590fd89c", func := "loop.example/g03007/laws.FnExactJoinDoubts", spec := "fnExactJoinDoubts", unfollowed := true, recurses := true, apart := false, narrowed := true }
def FnExactJoinDoubtsUptoSaid : Prop := fnExactJoinDoubtsUptoRow.holds Try.pinned (OpenSpec.upto fnExactJoinDoubtsSpec)

/-- 'laws.FnExactStopAt', WHERE WHAT IT READS IS OF BULK AT MOST 1048576: true; the input reads as it did. -/
def fnExactStopAtUptoRow : OpenClaim := { program := "ytdiajaijdkohlaa", sum := "802be7eb1a2396038fd5d2582d3641d818ea5d5af96c1a82df025dce590fd89c", func := "loop.example/g03007/laws.FnExactStopAt", spec := "fnExactStopAt", unfollowed := true, recurses := true, apart := false, narrowed := true }
def FnExactStopAtUptoSaid : Prop := fnExactStopAtUptoRow.holds Try.pinned (OpenSpec.upto fnExactStopAtSpec)

/-- 'laws.FnExactLeftBetween', WHERE WHAT IT READS IS OF BULK AT MOST 1048576: true; the input reads as it did. -/
def fnExactLeftBetweenUptoRow : OpenClaim := { program := "ytdiajaijdkohlaa", sum := "802be7eb1a2396038fd5d2582d3641d818ea5d5af96c1a82df025dce590fd89c", func := "loop.example/g03007/laws.FnExactLeftBetween", spec := "fnExactLeftBetween", unfollowed := true, recurses := true, apart := false, narrowed := true }
def FnExactLeftBetweenUptoSaid : Prop := fnExactLeftBetweenUptoRow.holds Try.pinned (OpenSpec.upto fnExactLeftBetweenSpec)

/-- 'laws.FnExactAccountsOf', WHERE WHAT IT READS IS OF BULK AT MOST 1048576: true; the input reads as it did. -/
def fnExactAccountsOfUptoRow : OpenClaim := { program := "ytdiajaijdkohlaa", sum := "802be7eb1a2396038fd5d2582d3641d818ea5d5af96c1a82df025dce590fd89c", func := "loop.example/g03007/laws.FnExactAccountsOf", spec := "fnExactAccountsOf", recurses := true, apart := false, narrowed := true }
def FnExactAccountsOfUptoSaid : Prop := fnExactAccountsOfUptoRow.holds Try.pinned (OpenSpec.upto fnExactAccountsOfSpec)

end Rows
end Go.Proofs.Ytdiajaijdkohlaa
