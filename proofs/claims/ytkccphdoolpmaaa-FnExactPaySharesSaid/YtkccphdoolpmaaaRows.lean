/-
  No cell of these rows narrows 'for every input' (looked for: loops, veiled, ifaces, maps, wideKeys, modest, calm, conditions, laid).
  DERIVED. THE GIVEN ROWS OF THIS SEAT. 12 by the template 'for every input the law returns true; each argument reads behind the call as it read before'; 0 by the template 'total and deterministic' (their statements: YtkccphdoolpmaaaTotals.lean).
  GIVEN WITH THE SEED: the statements are not yours to turn. If you find one false, say at which input.
  Laid BY PROGRAM, IN A SANDBOX (cutbox-rows.mjs): the forced cells as the released guide's own fill.sh prints them over the translation c117161c9a382b0c… (all of the seat's roots in one cut). By AI agents, Wed Nov 11 2026. No macro, syntax, notation, axiom, sorry.
-/
import Derived.Test.YtkccphdoolpmaaaChecked
import GoSem.Claim
import GoSem.ClaimJoined
import GoSem.ClaimMapViews
import Derived.JoinedTies
import Derived.KernelRfl
namespace Go.Proofs.Ytkccphdoolpmaaa
/- THE CELL 'sum', in the pinned program and in every row, IS THE sha256 OF THE DUMP (.gsa) THAT YtkccphdoolpmaaaProg.lean LOADS. Nothing in Lean hashes anything: it is a label: what it is worth is what the hold of that sum in a sandbox is worth. -/
noncomputable def Try.pinned : Pinned := { name := "ytkccphdoolpmaaa", sum := "c117161c9a382b0c7c667df4e7019904175611626ea5d4a3643f4090e1fc1d68", checked := Try.checked }
namespace Rows
def none {H : Type} : Left H := { results := [], args := [] }

/-- 'laws.FnExactBytesToInts': WHATEVER THE INPUT: true; the input reads as it did. -/
def fnExactBytesToIntsSpec : ChangeSpec := { name := "fnExactBytesToInts", fn := fun _ => fun
  | [d] => { results := [.lit (.bool true)], args := [d] }
  | _ => none }
def fnExactBytesToIntsRow : OpenClaim := { program := "ytkccphdoolpmaaa", sum := "c117161c9a382b0c7c667df4e7019904175611626ea5d4a3643f4090e1fc1d68", func := "loop.example/g03007/laws.FnExactBytesToInts", spec := "fnExactBytesToInts", apart := false }
def FnExactBytesToIntsSaid : Prop := fnExactBytesToIntsRow.holds Try.pinned (OpenSpec.ofChange fnExactBytesToIntsSpec)

/-- ITS FALSE NEIGHBOUR: 'it returns false'. Refute it at one input. -/
def fnExactBytesToIntsWrong : ChangeSpec := { name := "fnExactBytesToInts", fn := fun _ => fun
  | [d] => { results := [.lit (.bool false)], args := [d] }
  | _ => none }
def FnExactBytesToIntsWrongFalsely : Prop := fnExactBytesToIntsRow.holds Try.pinned (OpenSpec.ofChange fnExactBytesToIntsWrong)

/-- 'laws.FnExactPutFind': WHATEVER THE INPUT: true; the input reads as it did. -/
def fnExactPutFindSpec : ChangeSpec := { name := "fnExactPutFind", fn := fun _ => fun
  | [d1, d2] => { results := [.lit (.bool true)], args := [d1, d2] }
  | _ => none }
def fnExactPutFindRow : OpenClaim := { program := "ytkccphdoolpmaaa", sum := "c117161c9a382b0c7c667df4e7019904175611626ea5d4a3643f4090e1fc1d68", func := "loop.example/g03007/laws.FnExactPutFind", spec := "fnExactPutFind", unfollowed := true, recurses := true, apart := false }
def FnExactPutFindSaid : Prop := fnExactPutFindRow.holds Try.pinned (OpenSpec.ofChange fnExactPutFindSpec)

/-- ITS FALSE NEIGHBOUR: 'it returns false'. Refute it at one input. -/
def fnExactPutFindWrong : ChangeSpec := { name := "fnExactPutFind", fn := fun _ => fun
  | [d1, d2] => { results := [.lit (.bool false)], args := [d1, d2] }
  | _ => none }
def FnExactPutFindWrongFalsely : Prop := fnExactPutFindRow.holds Try.pinned (OpenSpec.ofChange fnExactPutFindWrong)

/-- 'laws.FnExactFoundAt': WHATEVER THE INPUT: true; the input reads as it did. -/
def fnExactFoundAtSpec : ChangeSpec := { name := "fnExactFoundAt", fn := fun _ => fun
  | [d1, d2] => { results := [.lit (.bool true)], args := [d1, d2] }
  | _ => none }
def fnExactFoundAtRow : OpenClaim := { program := "ytkccphdoolpmaaa", sum := "c117161c9a382b0c7c667df4e7019904175611626ea5d4a3643f4090e1fc1d68", func := "loop.example/g03007/laws.FnExactFoundAt", spec := "fnExactFoundAt", unfollowed := true, recurses := true, apart := false }
def FnExactFoundAtSaid : Prop := fnExactFoundAtRow.holds Try.pinned (OpenSpec.ofChange fnExactFoundAtSpec)

/-- ITS FALSE NEIGHBOUR: 'it returns false'. Refute it at one input. -/
def fnExactFoundAtWrong : ChangeSpec := { name := "fnExactFoundAt", fn := fun _ => fun
  | [d1, d2] => { results := [.lit (.bool false)], args := [d1, d2] }
  | _ => none }
def FnExactFoundAtWrongFalsely : Prop := fnExactFoundAtRow.holds Try.pinned (OpenSpec.ofChange fnExactFoundAtWrong)

/-- 'laws.FnExactFoundIn': WHATEVER THE INPUT: true; the input reads as it did. -/
def fnExactFoundInSpec : ChangeSpec := { name := "fnExactFoundIn", fn := fun _ => fun
  | [d1, d2] => { results := [.lit (.bool true)], args := [d1, d2] }
  | _ => none }
def fnExactFoundInRow : OpenClaim := { program := "ytkccphdoolpmaaa", sum := "c117161c9a382b0c7c667df4e7019904175611626ea5d4a3643f4090e1fc1d68", func := "loop.example/g03007/laws.FnExactFoundIn", spec := "fnExactFoundIn", unfollowed := true, recurses := true, apart := false }
def FnExactFoundInSaid : Prop := fnExactFoundInRow.holds Try.pinned (OpenSpec.ofChange fnExactFoundInSpec)

/-- ITS FALSE NEIGHBOUR: 'it returns false'. Refute it at one input. -/
def fnExactFoundInWrong : ChangeSpec := { name := "fnExactFoundIn", fn := fun _ => fun
  | [d1, d2] => { results := [.lit (.bool false)], args := [d1, d2] }
  | _ => none }
def FnExactFoundInWrongFalsely : Prop := fnExactFoundInRow.holds Try.pinned (OpenSpec.ofChange fnExactFoundInWrong)

/-- 'laws.FnExactPutMark': WHATEVER THE INPUT: true; the input reads as it did. -/
def fnExactPutMarkSpec : ChangeSpec := { name := "fnExactPutMark", fn := fun _ => fun
  | [d1, d2] => { results := [.lit (.bool true)], args := [d1, d2] }
  | _ => none }
def fnExactPutMarkRow : OpenClaim := { program := "ytkccphdoolpmaaa", sum := "c117161c9a382b0c7c667df4e7019904175611626ea5d4a3643f4090e1fc1d68", func := "loop.example/g03007/laws.FnExactPutMark", spec := "fnExactPutMark", unfollowed := true, recurses := true, apart := false }
def FnExactPutMarkSaid : Prop := fnExactPutMarkRow.holds Try.pinned (OpenSpec.ofChange fnExactPutMarkSpec)

/-- ITS FALSE NEIGHBOUR: 'it returns false'. Refute it at one input. -/
def fnExactPutMarkWrong : ChangeSpec := { name := "fnExactPutMark", fn := fun _ => fun
  | [d1, d2] => { results := [.lit (.bool false)], args := [d1, d2] }
  | _ => none }
def FnExactPutMarkWrongFalsely : Prop := fnExactPutMarkRow.holds Try.pinned (OpenSpec.ofChange fnExactPutMarkWrong)

/-- 'laws.FnExactTakeOut': WHATEVER THE INPUT: true; the input reads as it did. -/
def fnExactTakeOutSpec : ChangeSpec := { name := "fnExactTakeOut", fn := fun _ => fun
  | [d1, d2] => { results := [.lit (.bool true)], args := [d1, d2] }
  | _ => none }
def fnExactTakeOutRow : OpenClaim := { program := "ytkccphdoolpmaaa", sum := "c117161c9a382b0c7c667df4e7019904175611626ea5d4a3643f4090e1fc1d68", func := "loop.example/g03007/laws.FnExactTakeOut", spec := "fnExactTakeOut", unfollowed := true, recurses := true, apart := false }
def FnExactTakeOutSaid : Prop := fnExactTakeOutRow.holds Try.pinned (OpenSpec.ofChange fnExactTakeOutSpec)

/-- ITS FALSE NEIGHBOUR: 'it returns false'. Refute it at one input. -/
def fnExactTakeOutWrong : ChangeSpec := { name := "fnExactTakeOut", fn := fun _ => fun
  | [d1, d2] => { results := [.lit (.bool false)], args := [d1, d2] }
  | _ => none }
def FnExactTakeOutWrongFalsely : Prop := fnExactTakeOutRow.holds Try.pinned (OpenSpec.ofChange fnExactTakeOutWrong)

/-- 'laws.FnExactWithoutBid': WHATEVER THE INPUT: true; the input reads as it did. -/
def fnExactWithoutBidSpec : ChangeSpec := { name := "fnExactWithoutBid", fn := fun _ => fun
  | [d1, d2] => { results := [.lit (.bool true)], args := [d1, d2] }
  | _ => none }
def fnExactWithoutBidRow : OpenClaim := { program := "ytkccphdoolpmaaa", sum := "c117161c9a382b0c7c667df4e7019904175611626ea5d4a3643f4090e1fc1d68", func := "loop.example/g03007/laws.FnExactWithoutBid", spec := "fnExactWithoutBid", unfollowed := true, recurses := true, apart := false }
def FnExactWithoutBidSaid : Prop := fnExactWithoutBidRow.holds Try.pinned (OpenSpec.ofChange fnExactWithoutBidSpec)

/-- ITS FALSE NEIGHBOUR: 'it returns false'. Refute it at one input. -/
def fnExactWithoutBidWrong : ChangeSpec := { name := "fnExactWithoutBid", fn := fun _ => fun
  | [d1, d2] => { results := [.lit (.bool false)], args := [d1, d2] }
  | _ => none }
def FnExactWithoutBidWrongFalsely : Prop := fnExactWithoutBidRow.holds Try.pinned (OpenSpec.ofChange fnExactWithoutBidWrong)

/-- 'laws.FnExactSplitMoney': WHATEVER THE INPUT: true; the input reads as it did. -/
def fnExactSplitMoneySpec : ChangeSpec := { name := "fnExactSplitMoney", fn := fun _ => fun
  | [d1, d2] => { results := [.lit (.bool true)], args := [d1, d2] }
  | _ => none }
def fnExactSplitMoneyRow : OpenClaim := { program := "ytkccphdoolpmaaa", sum := "c117161c9a382b0c7c667df4e7019904175611626ea5d4a3643f4090e1fc1d68", func := "loop.example/g03007/laws.FnExactSplitMoney", spec := "fnExactSplitMoney", apart := false }
def FnExactSplitMoneySaid : Prop := fnExactSplitMoneyRow.holds Try.pinned (OpenSpec.ofChange fnExactSplitMoneySpec)

/-- ITS FALSE NEIGHBOUR: 'it returns false'. Refute it at one input. -/
def fnExactSplitMoneyWrong : ChangeSpec := { name := "fnExactSplitMoney", fn := fun _ => fun
  | [d1, d2] => { results := [.lit (.bool false)], args := [d1, d2] }
  | _ => none }
def FnExactSplitMoneyWrongFalsely : Prop := fnExactSplitMoneyRow.holds Try.pinned (OpenSpec.ofChange fnExactSplitMoneyWrong)

/-- 'laws.FnExactSalesOf': WHATEVER THE INPUT: true; the input reads as it did. -/
def fnExactSalesOfSpec : ChangeSpec := { name := "fnExactSalesOf", fn := fun _ => fun
  | [d1, d2] => { results := [.lit (.bool true)], args := [d1, d2] }
  | _ => none }
def fnExactSalesOfRow : OpenClaim := { program := "ytkccphdoolpmaaa", sum := "c117161c9a382b0c7c667df4e7019904175611626ea5d4a3643f4090e1fc1d68", func := "loop.example/g03007/laws.FnExactSalesOf", spec := "fnExactSalesOf", apart := false }
def FnExactSalesOfSaid : Prop := fnExactSalesOfRow.holds Try.pinned (OpenSpec.ofChange fnExactSalesOfSpec)

/-- ITS FALSE NEIGHBOUR: 'it returns false'. Refute it at one input. -/
def fnExactSalesOfWrong : ChangeSpec := { name := "fnExactSalesOf", fn := fun _ => fun
  | [d1, d2] => { results := [.lit (.bool false)], args := [d1, d2] }
  | _ => none }
def FnExactSalesOfWrongFalsely : Prop := fnExactSalesOfRow.holds Try.pinned (OpenSpec.ofChange fnExactSalesOfWrong)

/-- 'laws.FnExactAddEntry': WHATEVER THE INPUT: true; the input reads as it did. -/
def fnExactAddEntrySpec : ChangeSpec := { name := "fnExactAddEntry", fn := fun _ => fun
  | [d1, d2] => { results := [.lit (.bool true)], args := [d1, d2] }
  | _ => none }
def fnExactAddEntryRow : OpenClaim := { program := "ytkccphdoolpmaaa", sum := "c117161c9a382b0c7c667df4e7019904175611626ea5d4a3643f4090e1fc1d68", func := "loop.example/g03007/laws.FnExactAddEntry", spec := "fnExactAddEntry", apart := false }
def FnExactAddEntrySaid : Prop := fnExactAddEntryRow.holds Try.pinned (OpenSpec.ofChange fnExactAddEntrySpec)

/-- ITS FALSE NEIGHBOUR: 'it returns false'. Refute it at one input. -/
def fnExactAddEntryWrong : ChangeSpec := { name := "fnExactAddEntry", fn := fun _ => fun
  | [d1, d2] => { results := [.lit (.bool false)], args := [d1, d2] }
  | _ => none }
def FnExactAddEntryWrongFalsely : Prop := fnExactAddEntryRow.holds Try.pinned (OpenSpec.ofChange fnExactAddEntryWrong)

/-- 'laws.FnExactPayShares': WHATEVER THE INPUT: true; the input reads as it did. -/
def fnExactPaySharesSpec : ChangeSpec := { name := "fnExactPayShares", fn := fun _ => fun
  | [d1, d2, d3, d4] => { results := [.lit (.bool true)], args := [d1, d2, d3, d4] }
  | _ => none }
def fnExactPaySharesRow : OpenClaim := { program := "ytkccphdoolpmaaa", sum := "c117161c9a382b0c7c667df4e7019904175611626ea5d4a3643f4090e1fc1d68", func := "loop.example/g03007/laws.FnExactPayShares", spec := "fnExactPayShares", apart := false }
def FnExactPaySharesSaid : Prop := fnExactPaySharesRow.holds Try.pinned (OpenSpec.ofChange fnExactPaySharesSpec)

/-- ITS FALSE NEIGHBOUR: 'it returns false'. Refute it at one input. -/
def fnExactPaySharesWrong : ChangeSpec := { name := "fnExactPayShares", fn := fun _ => fun
  | [d1, d2, d3, d4] => { results := [.lit (.bool false)], args := [d1, d2, d3, d4] }
  | _ => none }
def FnExactPaySharesWrongFalsely : Prop := fnExactPaySharesRow.holds Try.pinned (OpenSpec.ofChange fnExactPaySharesWrong)

/-- 'laws.FnExactToday': WHATEVER THE INPUT: true; the input reads as it did. -/
def fnExactTodaySpec : ChangeSpec := { name := "fnExactToday", fn := fun _ => fun
  | [d1, d2] => { results := [.lit (.bool true)], args := [d1, d2] }
  | _ => none }
def fnExactTodayRow : OpenClaim := { program := "ytkccphdoolpmaaa", sum := "c117161c9a382b0c7c667df4e7019904175611626ea5d4a3643f4090e1fc1d68", func := "loop.example/g03007/laws.FnExactToday", spec := "fnExactToday", apart := false }
def FnExactTodaySaid : Prop := fnExactTodayRow.holds Try.pinned (OpenSpec.ofChange fnExactTodaySpec)

/-- ITS FALSE NEIGHBOUR: 'it returns false'. Refute it at one input. -/
def fnExactTodayWrong : ChangeSpec := { name := "fnExactToday", fn := fun _ => fun
  | [d1, d2] => { results := [.lit (.bool false)], args := [d1, d2] }
  | _ => none }
def FnExactTodayWrongFalsely : Prop := fnExactTodayRow.holds Try.pinned (OpenSpec.ofChange fnExactTodayWrong)

/- THE SECOND FORM. 'bulk': how many values and letters a reading holds, each counted each time it is reached (what is shared counts as often as it is met; a slice's spare places count too). A statement '..UptoSaid' is the law's where the arguments, and the package variables that the reading takes, are together of bulk at most 1048576: NARROWER than '..Said'. Prove '..Said' where nothing that the law and all that it calls make is longer than what came in: it says more and counts as full. Else prove '..UptoSaid'. A law counts once. -/
mutual
def uptoBulk {H : Type} : DataW H → Nat
  | .lit (.string bytes) => bytes.length + 1
  | .lit _ => 1
  | .nil => 1
  | .ptr d => uptoBulk d + 1
  | .slice elems spare => uptoBulkAll elems + uptoBulkAll spare + 1
  | .agg parts => uptoBulkAll parts + 1
  | .iface _ d => uptoBulk d + 1
  | .map entries => uptoBulkEntries entries + 1
  | .held _ => 1
def uptoBulkAll {H : Type} : List (DataW H) → Nat
  | [] => 0
  | d :: r => uptoBulk d + uptoBulkAll r
def uptoBulkEntries {H : Type} : List (Lit × DataW H) → Nat
  | [] => 0
  | x :: r => uptoBulkEntry x + uptoBulkEntries r
def uptoBulkEntry {H : Type} : Lit × DataW H → Nat
  | (.string bytes, d) => bytes.length + uptoBulk d + 1
  | (_, d) => uptoBulk d + 1
 end
def uptoSmall : (H : Type) → List (DataW H) → Bool := fun _ ds => decide (uptoBulkAll ds ≤ 1048576)
def OpenSpec.upto (s : _root_.Go.ChangeSpec) : _root_.Go.OpenSpec := { _root_.Go.OpenSpec.ofChange s with cond := some uptoSmall }

/-- 'laws.FnExactBytesToInts', WHERE WHAT IT READS IS OF BULK AT MOST 1048576: true; the input reads as it did. -/
def fnExactBytesToIntsUptoRow : OpenClaim := { program := "ytkccphdoolpmaaa", sum := "c117161c9a382b0c7c667df4e7019904175611626ea5d4a3643f4090e1fc1d68", func := "loop.example/g03007/laws.FnExactBytesToInts", spec := "fnExactBytesToInts", apart := false, narrowed := true }
def FnExactBytesToIntsUptoSaid : Prop := fnExactBytesToIntsUptoRow.holds Try.pinned (OpenSpec.upto fnExactBytesToIntsSpec)

/-- 'laws.FnExactPutFind', WHERE WHAT IT READS IS OF BULK AT MOST 1048576: true; the input reads as it did. -/
def fnExactPutFindUptoRow : OpenClaim := { program := "ytkccphdoolpmaaa", sum := "c117161c9a382b0c7c667df4e7019904175611626ea5d4a3643f4090e1fc1d68", func := "loop.example/g03007/laws.FnExactPutFind", spec := "fnExactPutFind", unfollowed := true, recurses := true, apart := false, narrowed := true }
def FnExactPutFindUptoSaid : Prop := fnExactPutFindUptoRow.holds Try.pinned (OpenSpec.upto fnExactPutFindSpec)

/-- 'laws.FnExactFoundAt', WHERE WHAT IT READS IS OF BULK AT MOST 1048576: true; the input reads as it did. -/
def fnExactFoundAtUptoRow : OpenClaim := { program := "ytkccphdoolpmaaa", sum := "c117161c9a382b0c7c667df4e7019904175611626ea5d4a3643f4090e1fc1d68", func := "loop.example/g03007/laws.FnExactFoundAt", spec := "fnExactFoundAt", unfollowed := true, recurses := true, apart := false, narrowed := true }
def FnExactFoundAtUptoSaid : Prop := fnExactFoundAtUptoRow.holds Try.pinned (OpenSpec.upto fnExactFoundAtSpec)

/-- 'laws.FnExactFoundIn', WHERE WHAT IT READS IS OF BULK AT MOST 1048576: true; the input reads as it did. -/
def fnExactFoundInUptoRow : OpenClaim := { program := "ytkccphdoolpmaaa", sum := "c117161c9a382b0c7c667df4e7019904175611626ea5d4a3643f4090e1fc1d68", func := "loop.example/g03007/laws.FnExactFoundIn", spec := "fnExactFoundIn", unfollowed := true, recurses := true, apart := false, narrowed := true }
def FnExactFoundInUptoSaid : Prop := fnExactFoundInUptoRow.holds Try.pinned (OpenSpec.upto fnExactFoundInSpec)

/-- 'laws.FnExactPutMark', WHERE WHAT IT READS IS OF BULK AT MOST 1048576: true; the input reads as it did. -/
def fnExactPutMarkUptoRow : OpenClaim := { program := "ytkccphdoolpmaaa", sum := "c117161c9a382b0c7c667df4e7019904175611626ea5d4a3643f4090e1fc1d68", func := "loop.example/g03007/laws.FnExactPutMark", spec := "fnExactPutMark", unfollowed := true, recurses := true, apart := false, narrowed := true }
def FnExactPutMarkUptoSaid : Prop := fnExactPutMarkUptoRow.holds Try.pinned (OpenSpec.upto fnExactPutMarkSpec)

/-- 'laws.FnExactTakeOut', WHERE WHAT IT READS IS OF BULK AT MOST 1048576: true; the input reads as it did. -/
def fnExactTakeOutUptoRow : OpenClaim := { program := "ytkccphdoolpmaaa", sum := "c117161c9a382b0c7c667df4e7019904175611626ea5d4a3643f4090e1fc1d68", func := "loop.example/g03007/laws.FnExactTakeOut", spec := "fnExactTakeOut", unfollowed := true, recurses := true, apart := false, narrowed := true }
def FnExactTakeOutUptoSaid : Prop := fnExactTakeOutUptoRow.holds Try.pinned (OpenSpec.upto fnExactTakeOutSpec)

/-- 'laws.FnExactWithoutBid', WHERE WHAT IT READS IS OF BULK AT MOST 1048576: true; the input reads as it did. -/
def fnExactWithoutBidUptoRow : OpenClaim := { program := "ytkccphdoolpmaaa", sum := "c117161c9a382b0c7c667df4e7019904175611626ea5d4a3643f4090e1fc1d68", func := "loop.example/g03007/laws.FnExactWithoutBid", spec := "fnExactWithoutBid", unfollowed := true, recurses := true, apart := false, narrowed := true }
def FnExactWithoutBidUptoSaid : Prop := fnExactWithoutBidUptoRow.holds Try.pinned (OpenSpec.upto fnExactWithoutBidSpec)

/-- 'laws.FnExactSplitMoney', WHERE WHAT IT READS IS OF BULK AT MOST 1048576: true; the input reads as it did. -/
def fnExactSplitMoneyUptoRow : OpenClaim := { program := "ytkccphdoolpmaaa", sum := "c117161c9a382b0c7c667df4e7019904175611626ea5d4a3643f4090e1fc1d68", func := "loop.example/g03007/laws.FnExactSplitMoney", spec := "fnExactSplitMoney", apart := false, narrowed := true }
def FnExactSplitMoneyUptoSaid : Prop := fnExactSplitMoneyUptoRow.holds Try.pinned (OpenSpec.upto fnExactSplitMoneySpec)

/-- 'laws.FnExactSalesOf', WHERE WHAT IT READS IS OF BULK AT MOST 1048576: true; the input reads as it did. -/
def fnExactSalesOfUptoRow : OpenClaim := { program := "ytkccphdoolpmaaa", sum := "c117161c9a382b0c7c667df4e7019904175611626ea5d4a3643f4090e1fc1d68", func := "loop.example/g03007/laws.FnExactSalesOf", spec := "fnExactSalesOf", apart := false, narrowed := true }
def FnExactSalesOfUptoSaid : Prop := fnExactSalesOfUptoRow.holds Try.pinned (OpenSpec.upto fnExactSalesOfSpec)

/-- 'laws.FnExactAddEntry', WHERE WHAT IT READS IS OF BULK AT MOST 1048576: true; the input reads as it did. -/
def fnExactAddEntryUptoRow : OpenClaim := { program := "ytkccphdoolpmaaa", sum := "c117161c9a382b0c7c667df4e7019904175611626ea5d4a3643f4090e1fc1d68", func := "loop.example/g03007/laws.FnExactAddEntry", spec := "fnExactAddEntry", apart := false, narrowed := true }
def FnExactAddEntryUptoSaid : Prop := fnExactAddEntryUptoRow.holds Try.pinned (OpenSpec.upto fnExactAddEntrySpec)

/-- 'laws.FnExactPayShares', WHERE WHAT IT READS IS OF BULK AT MOST 1048576: true; the input reads as it did. -/
def fnExactPaySharesUptoRow : OpenClaim := { program := "ytkccphdoolpmaaa", sum := "c117161c9a382b0c7c667df4e7019904175611626ea5d4a3643f4090e1fc1d68", func := "loop.example/g03007/laws.FnExactPayShares", spec := "fnExactPayShares", apart := false, narrowed := true }
def FnExactPaySharesUptoSaid : Prop := fnExactPaySharesUptoRow.holds Try.pinned (OpenSpec.upto fnExactPaySharesSpec)

/-- 'laws.FnExactToday', WHERE WHAT IT READS IS OF BULK AT MOST 1048576: true; the input reads as it did. -/
def fnExactTodayUptoRow : OpenClaim := { program := "ytkccphdoolpmaaa", sum := "c117161c9a382b0c7c667df4e7019904175611626ea5d4a3643f4090e1fc1d68", func := "loop.example/g03007/laws.FnExactToday", spec := "fnExactToday", apart := false, narrowed := true }
def FnExactTodayUptoSaid : Prop := fnExactTodayUptoRow.holds Try.pinned (OpenSpec.upto fnExactTodaySpec)

end Rows
end Go.Proofs.Ytkccphdoolpmaaa
