/-
  No cell of these rows narrows 'for every input' (looked for: loops, veiled, ifaces, maps, wideKeys, modest, calm, conditions, laid).
  DERIVED. THE GIVEN ROWS OF THIS SEAT. 13 by the template 'for every input the law returns true; each argument reads behind the call as it read before'; 0 by the template 'total and deterministic' (their statements: YtljamnanhmpdnaaTotals.lean).
  GIVEN WITH THE SEED: the statements are not yours to turn. If you find one false, say at which input.
  Laid BY PROGRAM, IN A SANDBOX (cutbox-rows.mjs): the forced cells as the released guide's own fill.sh prints them over the translation 88507d147862d95e… (all of the seat's roots in one cut). By AI agents, Wed Nov 11 2026. No macro, syntax, notation, axiom, sorry.
-/
import Derived.Test.YtljamnanhmpdnaaChecked
import GoSem.Claim
import GoSem.ClaimJoined
import GoSem.ClaimMapViews
import Derived.JoinedTies
import Derived.KernelRfl
namespace Go.Proofs.Ytljamnanhmpdnaa
/- THE CELL 'sum', in the pinned program and in every row, IS THE sha256 OF THE DUMP (.gsa) THAT YtljamnanhmpdnaaProg.lean LOADS. Nothing in Lean hashes anything: it is a label: what it is worth is what the hold of that sum in a sandbox is worth. -/
noncomputable def Try.pinned : Pinned := { name := "ytljamnanhmpdnaa", sum := "88507d147862d95e24b7607f745fb167e9d2f2c497c5ad6881d0cfcaac5b4f7e", checked := Try.checked }
namespace Rows
def none {H : Type} : Left H := { results := [], args := [] }

/-- 'laws.FnExactHandSeal': WHATEVER THE INPUT: true; the input reads as it did. -/
def fnExactHandSealSpec : ChangeSpec := { name := "fnExactHandSeal", fn := fun _ => fun
  | [d1, d2] => { results := [.lit (.bool true)], args := [d1, d2] }
  | _ => none }
def fnExactHandSealRow : OpenClaim := { program := "ytljamnanhmpdnaa", sum := "88507d147862d95e24b7607f745fb167e9d2f2c497c5ad6881d0cfcaac5b4f7e", func := "loop.example/g03007/laws.FnExactHandSeal", spec := "fnExactHandSeal", unfollowed := true, recurses := true, apart := false }
def FnExactHandSealSaid : Prop := fnExactHandSealRow.holds Try.pinned (OpenSpec.ofChange fnExactHandSealSpec)

/-- ITS FALSE NEIGHBOUR: 'it returns false'. Refute it at one input. -/
def fnExactHandSealWrong : ChangeSpec := { name := "fnExactHandSeal", fn := fun _ => fun
  | [d1, d2] => { results := [.lit (.bool false)], args := [d1, d2] }
  | _ => none }
def FnExactHandSealWrongFalsely : Prop := fnExactHandSealRow.holds Try.pinned (OpenSpec.ofChange fnExactHandSealWrong)

/-- 'laws.FnExactIsChain': WHATEVER THE INPUT: true; the input reads as it did. -/
def fnExactIsChainSpec : ChangeSpec := { name := "fnExactIsChain", fn := fun _ => fun
  | [d] => { results := [.lit (.bool true)], args := [d] }
  | _ => none }
def fnExactIsChainRow : OpenClaim := { program := "ytljamnanhmpdnaa", sum := "88507d147862d95e24b7607f745fb167e9d2f2c497c5ad6881d0cfcaac5b4f7e", func := "loop.example/g03007/laws.FnExactIsChain", spec := "fnExactIsChain", unfollowed := true, recurses := true, apart := false }
def FnExactIsChainSaid : Prop := fnExactIsChainRow.holds Try.pinned (OpenSpec.ofChange fnExactIsChainSpec)

/-- ITS FALSE NEIGHBOUR: 'it returns false'. Refute it at one input. -/
def fnExactIsChainWrong : ChangeSpec := { name := "fnExactIsChain", fn := fun _ => fun
  | [d] => { results := [.lit (.bool false)], args := [d] }
  | _ => none }
def FnExactIsChainWrongFalsely : Prop := fnExactIsChainRow.holds Try.pinned (OpenSpec.ofChange fnExactIsChainWrong)

/-- 'laws.FnExactHolderAt': WHATEVER THE INPUT: true; the input reads as it did. -/
def fnExactHolderAtSpec : ChangeSpec := { name := "fnExactHolderAt", fn := fun _ => fun
  | [d1, d2, d3] => { results := [.lit (.bool true)], args := [d1, d2, d3] }
  | _ => none }
def fnExactHolderAtRow : OpenClaim := { program := "ytljamnanhmpdnaa", sum := "88507d147862d95e24b7607f745fb167e9d2f2c497c5ad6881d0cfcaac5b4f7e", func := "loop.example/g03007/laws.FnExactHolderAt", spec := "fnExactHolderAt", unfollowed := true, recurses := true, apart := false }
def FnExactHolderAtSaid : Prop := fnExactHolderAtRow.holds Try.pinned (OpenSpec.ofChange fnExactHolderAtSpec)

/-- ITS FALSE NEIGHBOUR: 'it returns false'. Refute it at one input. -/
def fnExactHolderAtWrong : ChangeSpec := { name := "fnExactHolderAt", fn := fun _ => fun
  | [d1, d2, d3] => { results := [.lit (.bool false)], args := [d1, d2, d3] }
  | _ => none }
def FnExactHolderAtWrongFalsely : Prop := fnExactHolderAtRow.holds Try.pinned (OpenSpec.ofChange fnExactHolderAtWrong)

/-- 'laws.FnExactInHouse': WHATEVER THE INPUT: true; the input reads as it did. -/
def fnExactInHouseSpec : ChangeSpec := { name := "fnExactInHouse", fn := fun _ => fun
  | [d1, d2] => { results := [.lit (.bool true)], args := [d1, d2] }
  | _ => none }
def fnExactInHouseRow : OpenClaim := { program := "ytljamnanhmpdnaa", sum := "88507d147862d95e24b7607f745fb167e9d2f2c497c5ad6881d0cfcaac5b4f7e", func := "loop.example/g03007/laws.FnExactInHouse", spec := "fnExactInHouse", unfollowed := true, recurses := true, apart := false }
def FnExactInHouseSaid : Prop := fnExactInHouseRow.holds Try.pinned (OpenSpec.ofChange fnExactInHouseSpec)

/-- ITS FALSE NEIGHBOUR: 'it returns false'. Refute it at one input. -/
def fnExactInHouseWrong : ChangeSpec := { name := "fnExactInHouse", fn := fun _ => fun
  | [d1, d2] => { results := [.lit (.bool false)], args := [d1, d2] }
  | _ => none }
def FnExactInHouseWrongFalsely : Prop := fnExactInHouseRow.holds Try.pinned (OpenSpec.ofChange fnExactInHouseWrong)

/-- 'laws.FnExactFateName': WHATEVER THE INPUT: true; the input reads as it did. -/
def fnExactFateNameSpec : ChangeSpec := { name := "fnExactFateName", fn := fun _ => fun
  | [d] => { results := [.lit (.bool true)], args := [d] }
  | _ => none }
def fnExactFateNameRow : OpenClaim := { program := "ytljamnanhmpdnaa", sum := "88507d147862d95e24b7607f745fb167e9d2f2c497c5ad6881d0cfcaac5b4f7e", func := "loop.example/g03007/laws.FnExactFateName", spec := "fnExactFateName", apart := false }
def FnExactFateNameSaid : Prop := fnExactFateNameRow.holds Try.pinned (OpenSpec.ofChange fnExactFateNameSpec)

/-- ITS FALSE NEIGHBOUR: 'it returns false'. Refute it at one input. -/
def fnExactFateNameWrong : ChangeSpec := { name := "fnExactFateName", fn := fun _ => fun
  | [d] => { results := [.lit (.bool false)], args := [d] }
  | _ => none }
def FnExactFateNameWrongFalsely : Prop := fnExactFateNameRow.holds Try.pinned (OpenSpec.ofChange fnExactFateNameWrong)

/-- 'laws.FnExactCountFate': WHATEVER THE INPUT: true; the input reads as it did. -/
def fnExactCountFateSpec : ChangeSpec := { name := "fnExactCountFate", fn := fun _ => fun
  | [d1, d2] => { results := [.lit (.bool true)], args := [d1, d2] }
  | _ => none }
def fnExactCountFateRow : OpenClaim := { program := "ytljamnanhmpdnaa", sum := "88507d147862d95e24b7607f745fb167e9d2f2c497c5ad6881d0cfcaac5b4f7e", func := "loop.example/g03007/laws.FnExactCountFate", spec := "fnExactCountFate", unfollowed := true, recurses := true, apart := false }
def FnExactCountFateSaid : Prop := fnExactCountFateRow.holds Try.pinned (OpenSpec.ofChange fnExactCountFateSpec)

/-- ITS FALSE NEIGHBOUR: 'it returns false'. Refute it at one input. -/
def fnExactCountFateWrong : ChangeSpec := { name := "fnExactCountFate", fn := fun _ => fun
  | [d1, d2] => { results := [.lit (.bool false)], args := [d1, d2] }
  | _ => none }
def FnExactCountFateWrongFalsely : Prop := fnExactCountFateRow.holds Try.pinned (OpenSpec.ofChange fnExactCountFateWrong)

/-- 'laws.FnExactSealBid': WHATEVER THE INPUT: true; the input reads as it did. -/
def fnExactSealBidSpec : ChangeSpec := { name := "fnExactSealBid", fn := fun _ => fun
  | [d1, d2, d3] => { results := [.lit (.bool true)], args := [d1, d2, d3] }
  | _ => none }
def fnExactSealBidRow : OpenClaim := { program := "ytljamnanhmpdnaa", sum := "88507d147862d95e24b7607f745fb167e9d2f2c497c5ad6881d0cfcaac5b4f7e", func := "loop.example/g03007/laws.FnExactSealBid", spec := "fnExactSealBid", unfollowed := true, recurses := true, apart := false }
def FnExactSealBidSaid : Prop := fnExactSealBidRow.holds Try.pinned (OpenSpec.ofChange fnExactSealBidSpec)

/-- ITS FALSE NEIGHBOUR: 'it returns false'. Refute it at one input. -/
def fnExactSealBidWrong : ChangeSpec := { name := "fnExactSealBid", fn := fun _ => fun
  | [d1, d2, d3] => { results := [.lit (.bool false)], args := [d1, d2, d3] }
  | _ => none }
def FnExactSealBidWrongFalsely : Prop := fnExactSealBidRow.holds Try.pinned (OpenSpec.ofChange fnExactSealBidWrong)

/-- 'laws.FnExactIsOpened': WHATEVER THE INPUT: true; the input reads as it did. -/
def fnExactIsOpenedSpec : ChangeSpec := { name := "fnExactIsOpened", fn := fun _ => fun
  | [d1, d2] => { results := [.lit (.bool true)], args := [d1, d2] }
  | _ => none }
def fnExactIsOpenedRow : OpenClaim := { program := "ytljamnanhmpdnaa", sum := "88507d147862d95e24b7607f745fb167e9d2f2c497c5ad6881d0cfcaac5b4f7e", func := "loop.example/g03007/laws.FnExactIsOpened", spec := "fnExactIsOpened", unfollowed := true, recurses := true, apart := false }
def FnExactIsOpenedSaid : Prop := fnExactIsOpenedRow.holds Try.pinned (OpenSpec.ofChange fnExactIsOpenedSpec)

/-- ITS FALSE NEIGHBOUR: 'it returns false'. Refute it at one input. -/
def fnExactIsOpenedWrong : ChangeSpec := { name := "fnExactIsOpened", fn := fun _ => fun
  | [d1, d2] => { results := [.lit (.bool false)], args := [d1, d2] }
  | _ => none }
def FnExactIsOpenedWrongFalsely : Prop := fnExactIsOpenedRow.holds Try.pinned (OpenSpec.ofChange fnExactIsOpenedWrong)

/-- 'laws.FnExactAreBids': WHATEVER THE INPUT: true; the input reads as it did. -/
def fnExactAreBidsSpec : ChangeSpec := { name := "fnExactAreBids", fn := fun _ => fun
  | [d] => { results := [.lit (.bool true)], args := [d] }
  | _ => none }
def fnExactAreBidsRow : OpenClaim := { program := "ytljamnanhmpdnaa", sum := "88507d147862d95e24b7607f745fb167e9d2f2c497c5ad6881d0cfcaac5b4f7e", func := "loop.example/g03007/laws.FnExactAreBids", spec := "fnExactAreBids", unfollowed := true, recurses := true, apart := false }
def FnExactAreBidsSaid : Prop := fnExactAreBidsRow.holds Try.pinned (OpenSpec.ofChange fnExactAreBidsSpec)

/-- ITS FALSE NEIGHBOUR: 'it returns false'. Refute it at one input. -/
def fnExactAreBidsWrong : ChangeSpec := { name := "fnExactAreBids", fn := fun _ => fun
  | [d] => { results := [.lit (.bool false)], args := [d] }
  | _ => none }
def FnExactAreBidsWrongFalsely : Prop := fnExactAreBidsRow.holds Try.pinned (OpenSpec.ofChange fnExactAreBidsWrong)

/-- 'laws.FnExactWinner': WHATEVER THE INPUT: true; the input reads as it did. -/
def fnExactWinnerSpec : ChangeSpec := { name := "fnExactWinner", fn := fun _ => fun
  | [d] => { results := [.lit (.bool true)], args := [d] }
  | _ => none }
def fnExactWinnerRow : OpenClaim := { program := "ytljamnanhmpdnaa", sum := "88507d147862d95e24b7607f745fb167e9d2f2c497c5ad6881d0cfcaac5b4f7e", func := "loop.example/g03007/laws.FnExactWinner", spec := "fnExactWinner", unfollowed := true, recurses := true, apart := false }
def FnExactWinnerSaid : Prop := fnExactWinnerRow.holds Try.pinned (OpenSpec.ofChange fnExactWinnerSpec)

/-- ITS FALSE NEIGHBOUR: 'it returns false'. Refute it at one input. -/
def fnExactWinnerWrong : ChangeSpec := { name := "fnExactWinner", fn := fun _ => fun
  | [d] => { results := [.lit (.bool false)], args := [d] }
  | _ => none }
def FnExactWinnerWrongFalsely : Prop := fnExactWinnerRow.holds Try.pinned (OpenSpec.ofChange fnExactWinnerWrong)

/-- 'laws.FnExactFeeFor': WHATEVER THE INPUT: true; the input reads as it did. -/
def fnExactFeeForSpec : ChangeSpec := { name := "fnExactFeeFor", fn := fun _ => fun
  | [d1, d2] => { results := [.lit (.bool true)], args := [d1, d2] }
  | _ => none }
def fnExactFeeForRow : OpenClaim := { program := "ytljamnanhmpdnaa", sum := "88507d147862d95e24b7607f745fb167e9d2f2c497c5ad6881d0cfcaac5b4f7e", func := "loop.example/g03007/laws.FnExactFeeFor", spec := "fnExactFeeFor", unfollowed := true, recurses := true, apart := false }
def FnExactFeeForSaid : Prop := fnExactFeeForRow.holds Try.pinned (OpenSpec.ofChange fnExactFeeForSpec)

/-- ITS FALSE NEIGHBOUR: 'it returns false'. Refute it at one input. -/
def fnExactFeeForWrong : ChangeSpec := { name := "fnExactFeeFor", fn := fun _ => fun
  | [d1, d2] => { results := [.lit (.bool false)], args := [d1, d2] }
  | _ => none }
def FnExactFeeForWrongFalsely : Prop := fnExactFeeForRow.holds Try.pinned (OpenSpec.ofChange fnExactFeeForWrong)

/-- 'laws.FnExactRewardFor': WHATEVER THE INPUT: true; the input reads as it did. -/
def fnExactRewardForSpec : ChangeSpec := { name := "fnExactRewardFor", fn := fun _ => fun
  | [d] => { results := [.lit (.bool true)], args := [d] }
  | _ => none }
def fnExactRewardForRow : OpenClaim := { program := "ytljamnanhmpdnaa", sum := "88507d147862d95e24b7607f745fb167e9d2f2c497c5ad6881d0cfcaac5b4f7e", func := "loop.example/g03007/laws.FnExactRewardFor", spec := "fnExactRewardFor", unfollowed := true, recurses := true, apart := false }
def FnExactRewardForSaid : Prop := fnExactRewardForRow.holds Try.pinned (OpenSpec.ofChange fnExactRewardForSpec)

/-- ITS FALSE NEIGHBOUR: 'it returns false'. Refute it at one input. -/
def fnExactRewardForWrong : ChangeSpec := { name := "fnExactRewardFor", fn := fun _ => fun
  | [d] => { results := [.lit (.bool false)], args := [d] }
  | _ => none }
def FnExactRewardForWrongFalsely : Prop := fnExactRewardForRow.holds Try.pinned (OpenSpec.ofChange fnExactRewardForWrong)

/-- 'laws.FnExactTotalShares': WHATEVER THE INPUT: true; the input reads as it did. -/
def fnExactTotalSharesSpec : ChangeSpec := { name := "fnExactTotalShares", fn := fun _ => fun
  | [d] => { results := [.lit (.bool true)], args := [d] }
  | _ => none }
def fnExactTotalSharesRow : OpenClaim := { program := "ytljamnanhmpdnaa", sum := "88507d147862d95e24b7607f745fb167e9d2f2c497c5ad6881d0cfcaac5b4f7e", func := "loop.example/g03007/laws.FnExactTotalShares", spec := "fnExactTotalShares", unfollowed := true, recurses := true, apart := false }
def FnExactTotalSharesSaid : Prop := fnExactTotalSharesRow.holds Try.pinned (OpenSpec.ofChange fnExactTotalSharesSpec)

/-- ITS FALSE NEIGHBOUR: 'it returns false'. Refute it at one input. -/
def fnExactTotalSharesWrong : ChangeSpec := { name := "fnExactTotalShares", fn := fun _ => fun
  | [d] => { results := [.lit (.bool false)], args := [d] }
  | _ => none }
def FnExactTotalSharesWrongFalsely : Prop := fnExactTotalSharesRow.holds Try.pinned (OpenSpec.ofChange fnExactTotalSharesWrong)

/- THE SECOND FORM. 'bulk': how many values and letters a reading holds, each counted each time it is reached (what is shared counts as often as it is met; a slice's spare places count too). A statement '..UptoSaid' is the law's where the arguments, and the package variables that the reading takes, are together of bulk at most 1048576: NARROWER than '..Said'. Prove '..Said' where nothing that the law and all that it calls make is longer than what came in: it says more and counts as full. Else prove '..UptoSaid'. A law counts once. -/
mutual
def uptoBulk {H : Type} : DataW H → Nat
  | .lit (.string bytes) => bytes.length + 1
  | .lit _ => 1
  | .nil => 1
  | .ptr d => uptoBulk d + 1
  | .slice elems spare => uptoBulkAll elems + uptoBulkAll spare + 1
  | .agg parts => uptoBulkAll parts + 1
  | .iface _ d => uptoBulk d + 1
  | .map entries => uptoBulkEntries entries + 1
  | .held _ => 1
def uptoBulkAll {H : Type} : List (DataW H) → Nat
  | [] => 0
  | d :: r => uptoBulk d + uptoBulkAll r
def uptoBulkEntries {H : Type} : List (Lit × DataW H) → Nat
  | [] => 0
  | x :: r => uptoBulkEntry x + uptoBulkEntries r
def uptoBulkEntry {H : Type} : Lit × DataW H → Nat
  | (.string bytes, d) => bytes.length + uptoBulk d + 1
  | (_, d) => uptoBulk d + 1
 end
def uptoSmall : (H : Type) → List (DataW H) → Bool := fun _ ds => decide (uptoBulkAll ds ≤ 1048576)
def OpenSpec.upto (s : _root_.Go.ChangeSpec) : _root_.Go.OpenSpec := { _root_.Go.OpenSpec.ofChange s with cond := some uptoSmall }

/-- 'laws.FnExactHandSeal', WHERE WHAT IT READS IS OF BULK AT MOST 1048576: true; the input reads as it did. -/
def fnExactHandSealUptoRow : OpenClaim := { program := "ytljamnanhmpdnaa", sum := "88507d147862d95e24b7607f745fb167e9d2f2c497c5ad6881d0cfcaac5b4f7e", func := "loop.example/g03007/laws.FnExactHandSeal", spec := "fnExactHandSeal", unfollowed := true, recurses := true, apart := false, narrowed := true }
def FnExactHandSealUptoSaid : Prop := fnExactHandSealUptoRow.holds Try.pinned (OpenSpec.upto fnExactHandSealSpec)

/-- 'laws.FnExactIsChain', WHERE WHAT IT READS IS OF BULK AT MOST 1048576: true; the input reads as it did. -/
def fnExactIsChainUptoRow : OpenClaim := { program := "ytljamnanhmpdnaa", sum := "88507d147862d95e24b7607f745fb167e9d2f2c497c5ad6881d0cfcaac5b4f7e", func := "loop.example/g03007/laws.FnExactIsChain", spec := "fnExactIsChain", unfollowed := true, recurses := true, apart := false, narrowed := true }
def FnExactIsChainUptoSaid : Prop := fnExactIsChainUptoRow.holds Try.pinned (OpenSpec.upto fnExactIsChainSpec)

/-- 'laws.FnExactHolderAt', WHERE WHAT IT READS IS OF BULK AT MOST 1048576: true; the input reads as it did. -/
def fnExactHolderAtUptoRow : OpenClaim := { program := "ytljamnanhmpdnaa", sum := "88507d147862d95e24b7607f745fb167e9d2f2c497c5ad6881d0cfcaac5b4f7e", func := "loop.example/g03007/laws.FnExactHolderAt", spec := "fnExactHolderAt", unfollowed := true, recurses := true, apart := false, narrowed := true }
def FnExactHolderAtUptoSaid : Prop := fnExactHolderAtUptoRow.holds Try.pinned (OpenSpec.upto fnExactHolderAtSpec)

/-- 'laws.FnExactInHouse', WHERE WHAT IT READS IS OF BULK AT MOST 1048576: true; the input reads as it did. -/
def fnExactInHouseUptoRow : OpenClaim := { program := "ytljamnanhmpdnaa", sum := "88507d147862d95e24b7607f745fb167e9d2f2c497c5ad6881d0cfcaac5b4f7e", func := "loop.example/g03007/laws.FnExactInHouse", spec := "fnExactInHouse", unfollowed := true, recurses := true, apart := false, narrowed := true }
def FnExactInHouseUptoSaid : Prop := fnExactInHouseUptoRow.holds Try.pinned (OpenSpec.upto fnExactInHouseSpec)

/-- 'laws.FnExactFateName', WHERE WHAT IT READS IS OF BULK AT MOST 1048576: true; the input reads as it did. -/
def fnExactFateNameUptoRow : OpenClaim := { program := "ytljamnanhmpdnaa", sum := "88507d147862d95e24b7607f745fb167e9d2f2c497c5ad6881d0cfcaac5b4f7e", func := "loop.example/g03007/laws.FnExactFateName", spec := "fnExactFateName", apart := false, narrowed := true }
def FnExactFateNameUptoSaid : Prop := fnExactFateNameUptoRow.holds Try.pinned (OpenSpec.upto fnExactFateNameSpec)

/-- 'laws.FnExactCountFate', WHERE WHAT IT READS IS OF BULK AT MOST 1048576: true; the input reads as it did. -/
def fnExactCountFateUptoRow : OpenClaim := { program := "ytljamnanhmpdnaa", sum := "88507d147862d95e24b7607f745fb167e9d2f2c497c5ad6881d0cfcaac5b4f7e", func := "loop.example/g03007/laws.FnExactCountFate", spec := "fnExactCountFate", unfollowed := true, recurses := true, apart := false, narrowed := true }
def FnExactCountFateUptoSaid : Prop := fnExactCountFateUptoRow.holds Try.pinned (OpenSpec.upto fnExactCountFateSpec)

/-- 'laws.FnExactSealBid', WHERE WHAT IT READS IS OF BULK AT MOST 1048576: true; the input reads as it did. -/
def fnExactSealBidUptoRow : OpenClaim := { program := "ytljamnanhmpdnaa", sum := "88507d147862d95e24b7607f745fb167e9d2f2c497c5ad6881d0cfcaac5b4f7e", func := "loop.example/g03007/laws.FnExactSealBid", spec := "fnExactSealBid", unfollowed := true, recurses := true, apart := false, narrowed := true }
def FnExactSealBidUptoSaid : Prop := fnExactSealBidUptoRow.holds Try.pinned (OpenSpec.upto fnExactSealBidSpec)

/-- 'laws.FnExactIsOpened', WHERE WHAT IT READS IS OF BULK AT MOST 1048576: true; the input reads as it did. -/
def fnExactIsOpenedUptoRow : OpenClaim := { program := "ytljamnanhmpdnaa", sum := "88507d147862d95e24b7607f745fb167e9d2f2c497c5ad6881d0cfcaac5b4f7e", func := "loop.example/g03007/laws.FnExactIsOpened", spec := "fnExactIsOpened", unfollowed := true, recurses := true, apart := false, narrowed := true }
def FnExactIsOpenedUptoSaid : Prop := fnExactIsOpenedUptoRow.holds Try.pinned (OpenSpec.upto fnExactIsOpenedSpec)

/-- 'laws.FnExactAreBids', WHERE WHAT IT READS IS OF BULK AT MOST 1048576: true; the input reads as it did. -/
def fnExactAreBidsUptoRow : OpenClaim := { program := "ytljamnanhmpdnaa", sum := "88507d147862d95e24b7607f745fb167e9d2f2c497c5ad6881d0cfcaac5b4f7e", func := "loop.example/g03007/laws.FnExactAreBids", spec := "fnExactAreBids", unfollowed := true, recurses := true, apart := false, narrowed := true }
def FnExactAreBidsUptoSaid : Prop := fnExactAreBidsUptoRow.holds Try.pinned (OpenSpec.upto fnExactAreBidsSpec)

/-- 'laws.FnExactWinner', WHERE WHAT IT READS IS OF BULK AT MOST 1048576: true; the input reads as it did. -/
def fnExactWinnerUptoRow : OpenClaim := { program := "ytljamnanhmpdnaa", sum := "88507d147862d95e24b7607f745fb167e9d2f2c497c5ad6881d0cfcaac5b4f7e", func := "loop.example/g03007/laws.FnExactWinner", spec := "fnExactWinner", unfollowed := true, recurses := true, apart := false, narrowed := true }
def FnExactWinnerUptoSaid : Prop := fnExactWinnerUptoRow.holds Try.pinned (OpenSpec.upto fnExactWinnerSpec)

/-- 'laws.FnExactFeeFor', WHERE WHAT IT READS IS OF BULK AT MOST 1048576: true; the input reads as it did. -/
def fnExactFeeForUptoRow : OpenClaim := { program := "ytljamnanhmpdnaa", sum := "88507d147862d95e24b7607f745fb167e9d2f2c497c5ad6881d0cfcaac5b4f7e", func := "loop.example/g03007/laws.FnExactFeeFor", spec := "fnExactFeeFor", unfollowed := true, recurses := true, apart := false, narrowed := true }
def FnExactFeeForUptoSaid : Prop := fnExactFeeForUptoRow.holds Try.pinned (OpenSpec.upto fnExactFeeForSpec)

/-- 'laws.FnExactRewardFor', WHERE WHAT IT READS IS OF BULK AT MOST 1048576: true; the input reads as it did. -/
def fnExactRewardForUptoRow : OpenClaim := { program := "ytljamnanhmpdnaa", sum := "88507d147862d95e24b7607f745fb167e9d2f2c497c5ad6881d0cfcaac5b4f7e", func := "loop.example/g03007/laws.FnExactRewardFor", spec := "fnExactRewardFor", unfollowed := true, recurses := true, apart := false, narrowed := true }
def FnExactRewardForUptoSaid : Prop := fnExactRewardForUptoRow.holds Try.pinned (OpenSpec.upto fnExactRewardForSpec)

/-- 'laws.FnExactTotalShares', WHERE WHAT IT READS IS OF BULK AT MOST 1048576: true; the input reads as it did. -/
def fnExactTotalSharesUptoRow : OpenClaim := { program := "ytljamnanhmpdnaa", sum := "88507d147862d95e24b7607f745fb167e9d2f2c497c5ad6881d0cfcaac5b4f7e", func := "loop.example/g03007/laws.FnExactTotalShares", spec := "fnExactTotalShares", unfollowed := true, recurses := true, apart := false, narrowed := true }
def FnExactTotalSharesUptoSaid : Prop := fnExactTotalSharesUptoRow.holds Try.pinned (OpenSpec.upto fnExactTotalSharesSpec)

end Rows
end Go.Proofs.Ytljamnanhmpdnaa
