/-
  No cell of these rows narrows 'for every input' (looked for: loops, veiled, ifaces, maps, wideKeys, modest, calm, conditions, laid).
  DERIVED. THE GIVEN ROWS OF THIS SEAT. 5 by the template 'for every input the law returns true; each argument reads behind the call as it read before'; 0 by the template 'total and deterministic' (their statements: YtdemoobiiijmoaaTotals.lean).
  GIVEN WITH THE SEED: the statements are not yours to turn. If you find one false, say at which input.
  Laid BY PROGRAM, IN A SANDBOX (cutbox-rows.mjs): the forced cells as the released guide's own fill.sh prints them over the translation d9ade9190a25477e… (all of the seat's roots in one cut). By AI agents, Wed Nov 11 2026. No macro, syntax, notation, axiom, sorry.
-/
import Derived.Test.YtdemoobiiijmoaaChecked
import GoSem.Claim
import GoSem.ClaimJoined
import GoSem.ClaimMapViews
import Derived.JoinedTies
import Derived.KernelRfl
namespace Go.Proofs.Ytdemoobiiijmoaa
/- THE CELL 'sum', in the pinned program and in every row, IS THE sha256 OF THE DUMP (.gsa) THAT YtdemoobiiijmoaaProg.lean LOADS. Nothing in Lean hashes anything: it is a label: what it is worth is what the hold of that sum in a sandbox is worth. -/
noncomputable def Try.pinned : Pinned := { name := "ytdemoobiiijmoaa", sum := "d9ade9190a25477eb896a63cae1a3c5e24a4065f846812ad56bbdbd129bf65ec", checked := Try.checked }
namespace Rows
def none {H : Type} : Left H := { results := [], args := [] }

/-- 'laws.FnExactSmallestFree': WHATEVER THE INPUT: true; the input reads as it did. -/
def fnExactSmallestFreeSpec : ChangeSpec := { name := "fnExactSmallestFree", fn := fun _ => fun
  | [d1, d2] => { results := [.lit (.bool true)], args := [d1, d2] }
  | _ => none }
def fnExactSmallestFreeRow : OpenClaim := { program := "ytdemoobiiijmoaa", sum := "d9ade9190a25477eb896a63cae1a3c5e24a4065f846812ad56bbdbd129bf65ec", func := "loop.example/g03007/laws.FnExactSmallestFree", spec := "fnExactSmallestFree", unfollowed := true, recurses := true, apart := false }
def FnExactSmallestFreeSaid : Prop := fnExactSmallestFreeRow.holds Try.pinned (OpenSpec.ofChange fnExactSmallestFreeSpec)

/-- ITS FALSE NEIGHBOUR: 'it returns false'. Refute it at one input. -/
def fnExactSmallestFreeWrong : ChangeSpec := { name := "fnExactSmallestFree", fn := fun _ => fun
  | [d1, d2] => { results := [.lit (.bool false)], args := [d1, d2] }
  | _ => none }
def FnExactSmallestFreeWrongFalsely : Prop := fnExactSmallestFreeRow.holds Try.pinned (OpenSpec.ofChange fnExactSmallestFreeWrong)

/-- 'laws.FnExactPutAway': WHATEVER THE INPUT: true; the input reads as it did. -/
def fnExactPutAwaySpec : ChangeSpec := { name := "fnExactPutAway", fn := fun _ => fun
  | [d1, d2] => { results := [.lit (.bool true)], args := [d1, d2] }
  | _ => none }
def fnExactPutAwayRow : OpenClaim := { program := "ytdemoobiiijmoaa", sum := "d9ade9190a25477eb896a63cae1a3c5e24a4065f846812ad56bbdbd129bf65ec", func := "loop.example/g03007/laws.FnExactPutAway", spec := "fnExactPutAway", unfollowed := true, recurses := true, apart := false }
def FnExactPutAwaySaid : Prop := fnExactPutAwayRow.holds Try.pinned (OpenSpec.ofChange fnExactPutAwaySpec)

/-- ITS FALSE NEIGHBOUR: 'it returns false'. Refute it at one input. -/
def fnExactPutAwayWrong : ChangeSpec := { name := "fnExactPutAway", fn := fun _ => fun
  | [d1, d2] => { results := [.lit (.bool false)], args := [d1, d2] }
  | _ => none }
def FnExactPutAwayWrongFalsely : Prop := fnExactPutAwayRow.holds Try.pinned (OpenSpec.ofChange fnExactPutAwayWrong)

/-- 'laws.FnExactPutAll': WHATEVER THE INPUT: true; the input reads as it did. -/
def fnExactPutAllSpec : ChangeSpec := { name := "fnExactPutAll", fn := fun _ => fun
  | [d1, d2] => { results := [.lit (.bool true)], args := [d1, d2] }
  | _ => none }
def fnExactPutAllRow : OpenClaim := { program := "ytdemoobiiijmoaa", sum := "d9ade9190a25477eb896a63cae1a3c5e24a4065f846812ad56bbdbd129bf65ec", func := "loop.example/g03007/laws.FnExactPutAll", spec := "fnExactPutAll", unfollowed := true, recurses := true, apart := false }
def FnExactPutAllSaid : Prop := fnExactPutAllRow.holds Try.pinned (OpenSpec.ofChange fnExactPutAllSpec)

/-- ITS FALSE NEIGHBOUR: 'it returns false'. Refute it at one input. -/
def fnExactPutAllWrong : ChangeSpec := { name := "fnExactPutAll", fn := fun _ => fun
  | [d1, d2] => { results := [.lit (.bool false)], args := [d1, d2] }
  | _ => none }
def FnExactPutAllWrongFalsely : Prop := fnExactPutAllRow.holds Try.pinned (OpenSpec.ofChange fnExactPutAllWrong)

/-- 'laws.FnExactCanHold': WHATEVER THE INPUT: true; the input reads as it did. -/
def fnExactCanHoldSpec : ChangeSpec := { name := "fnExactCanHold", fn := fun _ => fun
  | [d1, d2] => { results := [.lit (.bool true)], args := [d1, d2] }
  | _ => none }
def fnExactCanHoldRow : OpenClaim := { program := "ytdemoobiiijmoaa", sum := "d9ade9190a25477eb896a63cae1a3c5e24a4065f846812ad56bbdbd129bf65ec", func := "loop.example/g03007/laws.FnExactCanHold", spec := "fnExactCanHold", unfollowed := true, recurses := true, apart := false }
def FnExactCanHoldSaid : Prop := fnExactCanHoldRow.holds Try.pinned (OpenSpec.ofChange fnExactCanHoldSpec)

/-- ITS FALSE NEIGHBOUR: 'it returns false'. Refute it at one input. -/
def fnExactCanHoldWrong : ChangeSpec := { name := "fnExactCanHold", fn := fun _ => fun
  | [d1, d2] => { results := [.lit (.bool false)], args := [d1, d2] }
  | _ => none }
def FnExactCanHoldWrongFalsely : Prop := fnExactCanHoldRow.holds Try.pinned (OpenSpec.ofChange fnExactCanHoldWrong)

/-- 'laws.FnExactTighten': WHATEVER THE INPUT: true; the input reads as it did. -/
def fnExactTightenSpec : ChangeSpec := { name := "fnExactTighten", fn := fun _ => fun
  | [d1, d2] => { results := [.lit (.bool true)], args := [d1, d2] }
  | _ => none }
def fnExactTightenRow : OpenClaim := { program := "ytdemoobiiijmoaa", sum := "d9ade9190a25477eb896a63cae1a3c5e24a4065f846812ad56bbdbd129bf65ec", func := "loop.example/g03007/laws.FnExactTighten", spec := "fnExactTighten", unfollowed := true, recurses := true, apart := false }
def FnExactTightenSaid : Prop := fnExactTightenRow.holds Try.pinned (OpenSpec.ofChange fnExactTightenSpec)

/-- ITS FALSE NEIGHBOUR: 'it returns false'. Refute it at one input. -/
def fnExactTightenWrong : ChangeSpec := { name := "fnExactTighten", fn := fun _ => fun
  | [d1, d2] => { results := [.lit (.bool false)], args := [d1, d2] }
  | _ => none }
def FnExactTightenWrongFalsely : Prop := fnExactTightenRow.holds Try.pinned (OpenSpec.ofChange fnExactTightenWrong)

/- THE SECOND FORM. 'bulk': how many values and letters a reading holds, each counted each time it is reached (what is shared counts as often as it is met; a slice's spare places count too). A statement '..UptoSaid' is the law's where the arguments, and the package variables that the reading takes, are together of bulk at most 1048576: NARROWER than '..Said'. Prove '..Said' where nothing that the law and all that it calls make is longer than what came in: it says more and counts as full. Else prove '..UptoSaid'. A law counts once. -/
mutual
def uptoBulk {H : Type} : DataW H → Nat
  | .lit (.string bytes) => bytes.length + 1
  | .lit _ => 1
  | .nil => 1
  | .ptr d => uptoBulk d + 1
  | .slice elems spare => uptoBulkAll elems + uptoBulkAll spare + 1
  | .agg parts => uptoBulkAll parts + 1
  | .iface _ d => uptoBulk d + 1
  | .map entries => uptoBulkEntries entries + 1
  | .held _ => 1
def uptoBulkAll {H : Type} : List (DataW H) → Nat
  | [] => 0
  | d :: r => uptoBulk d + uptoBulkAll r
def uptoBulkEntries {H : Type} : List (Lit × DataW H) → Nat
  | [] => 0
  | x :: r => uptoBulkEntry x + uptoBulkEntries r
def uptoBulkEntry {H : Type} : Lit × DataW H → Nat
  | (.string bytes, d) => bytes.length + uptoBulk d + 1
  | (_, d) => uptoBulk d + 1
 end
def uptoSmall : (H : Type) → List (DataW H) → Bool := fun _ ds => decide (uptoBulkAll ds ≤ 1048576)
def OpenSpec.upto (s : _root_.Go.ChangeSpec) : _root_.Go.OpenSpec := { _root_.Go.OpenSpec.ofChange s with cond := some uptoSmall }

/-- 'laws.FnExactSmallestFree', WHERE WHAT IT READS IS OF BULK AT MOST 1048576: true; the input reads as it did. -/
def fnExactSmallestFreeUptoRow : OpenClaim := { program := "ytdemoobiiijmoaa", sum := "d9ade9190a25477eb896a63cae1a3c5e24a4065f846812ad56bbdbd129bf65ec", func := "loop.example/g03007/laws.FnExactSmallestFree", spec := "fnExactSmallestFree", unfollowed := true, recurses := true, apart := false, narrowed := true }
def FnExactSmallestFreeUptoSaid : Prop := fnExactSmallestFreeUptoRow.holds Try.pinned (OpenSpec.upto fnExactSmallestFreeSpec)

/-- 'laws.FnExactPutAway', WHERE WHAT IT READS IS OF BULK AT MOST 1048576: true; the input reads as it did. -/
def fnExactPutAwayUptoRow : OpenClaim := { program := "ytdemoobiiijmoaa", sum := "d9ade9190a25477eb896a63cae1a3c5e24a4065f846812ad56bbdbd129bf65ec", func := "loop.example/g03007/laws.FnExactPutAway", spec := "fnExactPutAway", unfollowed := true, recurses := true, apart := false, narrowed := true }
def FnExactPutAwayUptoSaid : Prop := fnExactPutAwayUptoRow.holds Try.pinned (OpenSpec.upto fnExactPutAwaySpec)

/-- 'laws.FnExactPutAll', WHERE WHAT IT READS IS OF BULK AT MOST 1048576: true; the input reads as it did. -/
def fnExactPutAllUptoRow : OpenClaim := { program := "ytdemoobiiijmoaa", sum := "d9ade9190a25477eb896a63cae1a3c5e24a4065f846812ad56bbdbd129bf65ec", func := "loop.example/g03007/laws.FnExactPutAll", spec := "fnExactPutAll", unfollowed := true, recurses := true, apart := false, narrowed := true }
def FnExactPutAllUptoSaid : Prop := fnExactPutAllUptoRow.holds Try.pinned (OpenSpec.upto fnExactPutAllSpec)

/-- 'laws.FnExactCanHold', WHERE WHAT IT READS IS OF BULK AT MOST 1048576: true; the input reads as it did. -/
def fnExactCanHoldUptoRow : OpenClaim := { program := "ytdemoobiiijmoaa", sum := "d9ade9190a25477eb896a63cae1a3c5e24a4065f846812ad56bbdbd129bf65ec", func := "loop.example/g03007/laws.FnExactCanHold", spec := "fnExactCanHold", unfollowed := true, recurses := true, apart := false, narrowed := true }
def FnExactCanHoldUptoSaid : Prop := fnExactCanHoldUptoRow.holds Try.pinned (OpenSpec.upto fnExactCanHoldSpec)

/-- 'laws.FnExactTighten', WHERE WHAT IT READS IS OF BULK AT MOST 1048576: true; the input reads as it did. -/
def fnExactTightenUptoRow : OpenClaim := { program := "ytdemoobiiijmoaa", sum := "d9ade9190a25477eb896a63cae1a3c5e24a4065f846812ad56bbdbd129bf65ec", func := "loop.example/g03007/laws.FnExactTighten", spec := "fnExactTighten", unfollowed := true, recurses := true, apart := false, narrowed := true }
def FnExactTightenUptoSaid : Prop := fnExactTightenUptoRow.holds Try.pinned (OpenSpec.upto fnExactTightenSpec)

end Rows
end Go.Proofs.Ytdemoobiiijmoaa
