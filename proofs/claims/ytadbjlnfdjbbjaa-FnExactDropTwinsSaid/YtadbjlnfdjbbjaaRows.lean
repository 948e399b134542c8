/-
  No cell of these rows narrows 'for every input' (looked for: loops, veiled, ifaces, maps, wideKeys, modest, calm, conditions, laid).
  DERIVED. THE GIVEN ROWS OF THIS SEAT. 22 by the template 'for every input the law returns true; each argument reads behind the call as it read before'; 0 by the template 'total and deterministic' (their statements: YtadbjlnfdjbbjaaTotals.lean).
  GIVEN WITH THE SEED: the statements are not yours to turn. If you find one false, say at which input.
  Laid BY PROGRAM, IN A SANDBOX (cutbox-rows.mjs): the forced cells as the released guide's own fill.sh prints them over the translation 287aa4aa3d4aa5ee… (all of the seat's roots in one cut). By AI agents, Wed Nov 11 2026. No macro, syntax, notation, axiom, sorry.
-/
import Derived.Test.YtadbjlnfdjbbjaaChecked
import GoSem.Claim
import GoSem.ClaimJoined
import GoSem.ClaimMapViews
import Derived.JoinedTies
import Derived.KernelRfl
namespace Go.Proofs.Ytadbjlnfdjbbjaa
/- THE CELL 'sum', in the pinned program and in every row, IS THE sha256 OF THE DUMP (.gsa) THAT YtadbjlnfdjbbjaaProg.lean LOADS. Nothing in Lean hashes anything: it is a label: what it is worth is what the hold of that sum in a sandbox is worth. -/
noncomputable def Try.pinned : Pinned := { name := "ytadbjlnfdjbbjaa", sum := "287aa4aa3d4aa5ee5dd2999b98d058c24d73d195bb731bb9d21e4b8570772000", checked := Try.checked }
namespace Rows
def none {H : Type} : Left H := { results := [], args := [] }

/-- 'laws.FnExactAreClaims': WHATEVER THE INPUT: true; the input reads as it did. -/
def fnExactAreClaimsSpec : ChangeSpec := { name := "fnExactAreClaims", fn := fun _ => fun
  | [d] => { results := [.lit (.bool true)], args := [d] }
  | _ => none }
def fnExactAreClaimsRow : OpenClaim := { program := "ytadbjlnfdjbbjaa", sum := "287aa4aa3d4aa5ee5dd2999b98d058c24d73d195bb731bb9d21e4b8570772000", func := "loop.example/g03007/laws.FnExactAreClaims", spec := "fnExactAreClaims", unfollowed := true, recurses := true, plainKeys := false, apart := false }
def FnExactAreClaimsSaid : Prop := fnExactAreClaimsRow.holds Try.pinned (OpenSpec.ofChange fnExactAreClaimsSpec)

/-- ITS FALSE NEIGHBOUR: 'it returns false'. Refute it at one input. -/
def fnExactAreClaimsWrong : ChangeSpec := { name := "fnExactAreClaims", fn := fun _ => fun
  | [d] => { results := [.lit (.bool false)], args := [d] }
  | _ => none }
def FnExactAreClaimsWrongFalsely : Prop := fnExactAreClaimsRow.holds Try.pinned (OpenSpec.ofChange fnExactAreClaimsWrong)

/-- 'laws.FnExactAddClaim': WHATEVER THE INPUT: true; the input reads as it did. -/
def fnExactAddClaimSpec : ChangeSpec := { name := "fnExactAddClaim", fn := fun _ => fun
  | [d1, d2] => { results := [.lit (.bool true)], args := [d1, d2] }
  | _ => none }
def fnExactAddClaimRow : OpenClaim := { program := "ytadbjlnfdjbbjaa", sum := "287aa4aa3d4aa5ee5dd2999b98d058c24d73d195bb731bb9d21e4b8570772000", func := "loop.example/g03007/laws.FnExactAddClaim", spec := "fnExactAddClaim", unfollowed := true, recurses := true, plainKeys := false, apart := false }
def FnExactAddClaimSaid : Prop := fnExactAddClaimRow.holds Try.pinned (OpenSpec.ofChange fnExactAddClaimSpec)

/-- ITS FALSE NEIGHBOUR: 'it returns false'. Refute it at one input. -/
def fnExactAddClaimWrong : ChangeSpec := { name := "fnExactAddClaim", fn := fun _ => fun
  | [d1, d2] => { results := [.lit (.bool false)], args := [d1, d2] }
  | _ => none }
def FnExactAddClaimWrongFalsely : Prop := fnExactAddClaimRow.holds Try.pinned (OpenSpec.ofChange fnExactAddClaimWrong)

/-- 'laws.FnExactSetState': WHATEVER THE INPUT: true; the input reads as it did. -/
def fnExactSetStateSpec : ChangeSpec := { name := "fnExactSetState", fn := fun _ => fun
  | [d1, d2, d3] => { results := [.lit (.bool true)], args := [d1, d2, d3] }
  | _ => none }
def fnExactSetStateRow : OpenClaim := { program := "ytadbjlnfdjbbjaa", sum := "287aa4aa3d4aa5ee5dd2999b98d058c24d73d195bb731bb9d21e4b8570772000", func := "loop.example/g03007/laws.FnExactSetState", spec := "fnExactSetState", unfollowed := true, recurses := true, plainKeys := false, apart := false }
def FnExactSetStateSaid : Prop := fnExactSetStateRow.holds Try.pinned (OpenSpec.ofChange fnExactSetStateSpec)

/-- ITS FALSE NEIGHBOUR: 'it returns false'. Refute it at one input. -/
def fnExactSetStateWrong : ChangeSpec := { name := "fnExactSetState", fn := fun _ => fun
  | [d1, d2, d3] => { results := [.lit (.bool false)], args := [d1, d2, d3] }
  | _ => none }
def FnExactSetStateWrongFalsely : Prop := fnExactSetStateRow.holds Try.pinned (OpenSpec.ofChange fnExactSetStateWrong)

/-- 'laws.FnExactClaimsFor': WHATEVER THE INPUT: true; the input reads as it did. -/
def fnExactClaimsForSpec : ChangeSpec := { name := "fnExactClaimsFor", fn := fun _ => fun
  | [d1, d2] => { results := [.lit (.bool true)], args := [d1, d2] }
  | _ => none }
def fnExactClaimsForRow : OpenClaim := { program := "ytadbjlnfdjbbjaa", sum := "287aa4aa3d4aa5ee5dd2999b98d058c24d73d195bb731bb9d21e4b8570772000", func := "loop.example/g03007/laws.FnExactClaimsFor", spec := "fnExactClaimsFor", plainKeys := false, apart := false }
def FnExactClaimsForSaid : Prop := fnExactClaimsForRow.holds Try.pinned (OpenSpec.ofChange fnExactClaimsForSpec)

/-- ITS FALSE NEIGHBOUR: 'it returns false'. Refute it at one input. -/
def fnExactClaimsForWrong : ChangeSpec := { name := "fnExactClaimsFor", fn := fun _ => fun
  | [d1, d2] => { results := [.lit (.bool false)], args := [d1, d2] }
  | _ => none }
def FnExactClaimsForWrongFalsely : Prop := fnExactClaimsForRow.holds Try.pinned (OpenSpec.ofChange fnExactClaimsForWrong)

/-- 'laws.FnExactFirstProved': WHATEVER THE INPUT: true; the input reads as it did. -/
def fnExactFirstProvedSpec : ChangeSpec := { name := "fnExactFirstProved", fn := fun _ => fun
  | [d1, d2] => { results := [.lit (.bool true)], args := [d1, d2] }
  | _ => none }
def fnExactFirstProvedRow : OpenClaim := { program := "ytadbjlnfdjbbjaa", sum := "287aa4aa3d4aa5ee5dd2999b98d058c24d73d195bb731bb9d21e4b8570772000", func := "loop.example/g03007/laws.FnExactFirstProved", spec := "fnExactFirstProved", plainKeys := false, apart := false }
def FnExactFirstProvedSaid : Prop := fnExactFirstProvedRow.holds Try.pinned (OpenSpec.ofChange fnExactFirstProvedSpec)

/-- ITS FALSE NEIGHBOUR: 'it returns false'. Refute it at one input. -/
def fnExactFirstProvedWrong : ChangeSpec := { name := "fnExactFirstProved", fn := fun _ => fun
  | [d1, d2] => { results := [.lit (.bool false)], args := [d1, d2] }
  | _ => none }
def FnExactFirstProvedWrongFalsely : Prop := fnExactFirstProvedRow.holds Try.pinned (OpenSpec.ofChange fnExactFirstProvedWrong)

/-- 'laws.FnExactIsChain': WHATEVER THE INPUT: true; the input reads as it did. -/
def fnExactIsChainSpec : ChangeSpec := { name := "fnExactIsChain", fn := fun _ => fun
  | [d] => { results := [.lit (.bool true)], args := [d] }
  | _ => none }
def fnExactIsChainRow : OpenClaim := { program := "ytadbjlnfdjbbjaa", sum := "287aa4aa3d4aa5ee5dd2999b98d058c24d73d195bb731bb9d21e4b8570772000", func := "loop.example/g03007/laws.FnExactIsChain", spec := "fnExactIsChain", unfollowed := true, recurses := true, plainKeys := false, apart := false }
def FnExactIsChainSaid : Prop := fnExactIsChainRow.holds Try.pinned (OpenSpec.ofChange fnExactIsChainSpec)

/-- ITS FALSE NEIGHBOUR: 'it returns false'. Refute it at one input. -/
def fnExactIsChainWrong : ChangeSpec := { name := "fnExactIsChain", fn := fun _ => fun
  | [d] => { results := [.lit (.bool false)], args := [d] }
  | _ => none }
def FnExactIsChainWrongFalsely : Prop := fnExactIsChainRow.holds Try.pinned (OpenSpec.ofChange fnExactIsChainWrong)

/-- 'laws.FnExactAddHand': WHATEVER THE INPUT: true; the input reads as it did. -/
def fnExactAddHandSpec : ChangeSpec := { name := "fnExactAddHand", fn := fun _ => fun
  | [d1, d2] => { results := [.lit (.bool true)], args := [d1, d2] }
  | _ => none }
def fnExactAddHandRow : OpenClaim := { program := "ytadbjlnfdjbbjaa", sum := "287aa4aa3d4aa5ee5dd2999b98d058c24d73d195bb731bb9d21e4b8570772000", func := "loop.example/g03007/laws.FnExactAddHand", spec := "fnExactAddHand", unfollowed := true, recurses := true, plainKeys := false, apart := false }
def FnExactAddHandSaid : Prop := fnExactAddHandRow.holds Try.pinned (OpenSpec.ofChange fnExactAddHandSpec)

/-- ITS FALSE NEIGHBOUR: 'it returns false'. Refute it at one input. -/
def fnExactAddHandWrong : ChangeSpec := { name := "fnExactAddHand", fn := fun _ => fun
  | [d1, d2] => { results := [.lit (.bool false)], args := [d1, d2] }
  | _ => none }
def FnExactAddHandWrongFalsely : Prop := fnExactAddHandRow.holds Try.pinned (OpenSpec.ofChange fnExactAddHandWrong)

/-- 'laws.FnExactHolderAt': WHATEVER THE INPUT: true; the input reads as it did. -/
def fnExactHolderAtSpec : ChangeSpec := { name := "fnExactHolderAt", fn := fun _ => fun
  | [d1, d2, d3] => { results := [.lit (.bool true)], args := [d1, d2, d3] }
  | _ => none }
def fnExactHolderAtRow : OpenClaim := { program := "ytadbjlnfdjbbjaa", sum := "287aa4aa3d4aa5ee5dd2999b98d058c24d73d195bb731bb9d21e4b8570772000", func := "loop.example/g03007/laws.FnExactHolderAt", spec := "fnExactHolderAt", unfollowed := true, recurses := true, plainKeys := false, apart := false }
def FnExactHolderAtSaid : Prop := fnExactHolderAtRow.holds Try.pinned (OpenSpec.ofChange fnExactHolderAtSpec)

/-- ITS FALSE NEIGHBOUR: 'it returns false'. Refute it at one input. -/
def fnExactHolderAtWrong : ChangeSpec := { name := "fnExactHolderAt", fn := fun _ => fun
  | [d1, d2, d3] => { results := [.lit (.bool false)], args := [d1, d2, d3] }
  | _ => none }
def FnExactHolderAtWrongFalsely : Prop := fnExactHolderAtRow.holds Try.pinned (OpenSpec.ofChange fnExactHolderAtWrong)

/-- 'laws.FnExactHandsOf': WHATEVER THE INPUT: true; the input reads as it did. -/
def fnExactHandsOfSpec : ChangeSpec := { name := "fnExactHandsOf", fn := fun _ => fun
  | [d1, d2] => { results := [.lit (.bool true)], args := [d1, d2] }
  | _ => none }
def fnExactHandsOfRow : OpenClaim := { program := "ytadbjlnfdjbbjaa", sum := "287aa4aa3d4aa5ee5dd2999b98d058c24d73d195bb731bb9d21e4b8570772000", func := "loop.example/g03007/laws.FnExactHandsOf", spec := "fnExactHandsOf", plainKeys := false, apart := false }
def FnExactHandsOfSaid : Prop := fnExactHandsOfRow.holds Try.pinned (OpenSpec.ofChange fnExactHandsOfSpec)

/-- ITS FALSE NEIGHBOUR: 'it returns false'. Refute it at one input. -/
def fnExactHandsOfWrong : ChangeSpec := { name := "fnExactHandsOf", fn := fun _ => fun
  | [d1, d2] => { results := [.lit (.bool false)], args := [d1, d2] }
  | _ => none }
def FnExactHandsOfWrongFalsely : Prop := fnExactHandsOfRow.holds Try.pinned (OpenSpec.ofChange fnExactHandsOfWrong)

/-- 'laws.FnExactSharedHints': WHATEVER THE INPUT: true; the input reads as it did. -/
def fnExactSharedHintsSpec : ChangeSpec := { name := "fnExactSharedHints", fn := fun _ => fun
  | [d1, d2] => { results := [.lit (.bool true)], args := [d1, d2] }
  | _ => none }
def fnExactSharedHintsRow : OpenClaim := { program := "ytadbjlnfdjbbjaa", sum := "287aa4aa3d4aa5ee5dd2999b98d058c24d73d195bb731bb9d21e4b8570772000", func := "loop.example/g03007/laws.FnExactSharedHints", spec := "fnExactSharedHints", plainKeys := false, apart := false }
def FnExactSharedHintsSaid : Prop := fnExactSharedHintsRow.holds Try.pinned (OpenSpec.ofChange fnExactSharedHintsSpec)

/-- ITS FALSE NEIGHBOUR: 'it returns false'. Refute it at one input. -/
def fnExactSharedHintsWrong : ChangeSpec := { name := "fnExactSharedHints", fn := fun _ => fun
  | [d1, d2] => { results := [.lit (.bool false)], args := [d1, d2] }
  | _ => none }
def FnExactSharedHintsWrongFalsely : Prop := fnExactSharedHintsRow.holds Try.pinned (OpenSpec.ofChange fnExactSharedHintsWrong)

/-- 'laws.FnExactHousesOf': WHATEVER THE INPUT: true; the input reads as it did. -/
def fnExactHousesOfSpec : ChangeSpec := { name := "fnExactHousesOf", fn := fun _ => fun
  | [d1, d2] => { results := [.lit (.bool true)], args := [d1, d2] }
  | _ => none }
def fnExactHousesOfRow : OpenClaim := { program := "ytadbjlnfdjbbjaa", sum := "287aa4aa3d4aa5ee5dd2999b98d058c24d73d195bb731bb9d21e4b8570772000", func := "loop.example/g03007/laws.FnExactHousesOf", spec := "fnExactHousesOf", plainKeys := false, apart := false }
def FnExactHousesOfSaid : Prop := fnExactHousesOfRow.holds Try.pinned (OpenSpec.ofChange fnExactHousesOfSpec)

/-- ITS FALSE NEIGHBOUR: 'it returns false'. Refute it at one input. -/
def fnExactHousesOfWrong : ChangeSpec := { name := "fnExactHousesOf", fn := fun _ => fun
  | [d1, d2] => { results := [.lit (.bool false)], args := [d1, d2] }
  | _ => none }
def FnExactHousesOfWrongFalsely : Prop := fnExactHousesOfRow.holds Try.pinned (OpenSpec.ofChange fnExactHousesOfWrong)

/-- 'laws.FnExactCountIn': WHATEVER THE INPUT: true; the input reads as it did. -/
def fnExactCountInSpec : ChangeSpec := { name := "fnExactCountIn", fn := fun _ => fun
  | [d] => { results := [.lit (.bool true)], args := [d] }
  | _ => none }
def fnExactCountInRow : OpenClaim := { program := "ytadbjlnfdjbbjaa", sum := "287aa4aa3d4aa5ee5dd2999b98d058c24d73d195bb731bb9d21e4b8570772000", func := "loop.example/g03007/laws.FnExactCountIn", spec := "fnExactCountIn", unfollowed := true, recurses := true, plainKeys := false, apart := false }
def FnExactCountInSaid : Prop := fnExactCountInRow.holds Try.pinned (OpenSpec.ofChange fnExactCountInSpec)

/-- ITS FALSE NEIGHBOUR: 'it returns false'. Refute it at one input. -/
def fnExactCountInWrong : ChangeSpec := { name := "fnExactCountIn", fn := fun _ => fun
  | [d] => { results := [.lit (.bool false)], args := [d] }
  | _ => none }
def FnExactCountInWrongFalsely : Prop := fnExactCountInRow.holds Try.pinned (OpenSpec.ofChange fnExactCountInWrong)

/-- 'laws.FnExactAreLetters': WHATEVER THE INPUT: true; the input reads as it did. -/
def fnExactAreLettersSpec : ChangeSpec := { name := "fnExactAreLetters", fn := fun _ => fun
  | [d] => { results := [.lit (.bool true)], args := [d] }
  | _ => none }
def fnExactAreLettersRow : OpenClaim := { program := "ytadbjlnfdjbbjaa", sum := "287aa4aa3d4aa5ee5dd2999b98d058c24d73d195bb731bb9d21e4b8570772000", func := "loop.example/g03007/laws.FnExactAreLetters", spec := "fnExactAreLetters", unfollowed := true, recurses := true, plainKeys := false, apart := false }
def FnExactAreLettersSaid : Prop := fnExactAreLettersRow.holds Try.pinned (OpenSpec.ofChange fnExactAreLettersSpec)

/-- ITS FALSE NEIGHBOUR: 'it returns false'. Refute it at one input. -/
def fnExactAreLettersWrong : ChangeSpec := { name := "fnExactAreLetters", fn := fun _ => fun
  | [d] => { results := [.lit (.bool false)], args := [d] }
  | _ => none }
def FnExactAreLettersWrongFalsely : Prop := fnExactAreLettersRow.holds Try.pinned (OpenSpec.ofChange fnExactAreLettersWrong)

/-- 'laws.FnExactLastLetter': WHATEVER THE INPUT: true; the input reads as it did. -/
def fnExactLastLetterSpec : ChangeSpec := { name := "fnExactLastLetter", fn := fun _ => fun
  | [d1, d2] => { results := [.lit (.bool true)], args := [d1, d2] }
  | _ => none }
def fnExactLastLetterRow : OpenClaim := { program := "ytadbjlnfdjbbjaa", sum := "287aa4aa3d4aa5ee5dd2999b98d058c24d73d195bb731bb9d21e4b8570772000", func := "loop.example/g03007/laws.FnExactLastLetter", spec := "fnExactLastLetter", plainKeys := false, apart := false }
def FnExactLastLetterSaid : Prop := fnExactLastLetterRow.holds Try.pinned (OpenSpec.ofChange fnExactLastLetterSpec)

/-- ITS FALSE NEIGHBOUR: 'it returns false'. Refute it at one input. -/
def fnExactLastLetterWrong : ChangeSpec := { name := "fnExactLastLetter", fn := fun _ => fun
  | [d1, d2] => { results := [.lit (.bool false)], args := [d1, d2] }
  | _ => none }
def FnExactLastLetterWrongFalsely : Prop := fnExactLastLetterRow.holds Try.pinned (OpenSpec.ofChange fnExactLastLetterWrong)

/-- 'laws.FnExactMayWrite': WHATEVER THE INPUT: true; the input reads as it did. -/
def fnExactMayWriteSpec : ChangeSpec := { name := "fnExactMayWrite", fn := fun _ => fun
  | [d1, d2, d3, d4] => { results := [.lit (.bool true)], args := [d1, d2, d3, d4] }
  | _ => none }
def fnExactMayWriteRow : OpenClaim := { program := "ytadbjlnfdjbbjaa", sum := "287aa4aa3d4aa5ee5dd2999b98d058c24d73d195bb731bb9d21e4b8570772000", func := "loop.example/g03007/laws.FnExactMayWrite", spec := "fnExactMayWrite", unfollowed := true, recurses := true, plainKeys := false, apart := false }
def FnExactMayWriteSaid : Prop := fnExactMayWriteRow.holds Try.pinned (OpenSpec.ofChange fnExactMayWriteSpec)

/-- ITS FALSE NEIGHBOUR: 'it returns false'. Refute it at one input. -/
def fnExactMayWriteWrong : ChangeSpec := { name := "fnExactMayWrite", fn := fun _ => fun
  | [d1, d2, d3, d4] => { results := [.lit (.bool false)], args := [d1, d2, d3, d4] }
  | _ => none }
def FnExactMayWriteWrongFalsely : Prop := fnExactMayWriteRow.holds Try.pinned (OpenSpec.ofChange fnExactMayWriteWrong)

/-- 'laws.FnExactWriteLetter': WHATEVER THE INPUT: true; the input reads as it did. -/
def fnExactWriteLetterSpec : ChangeSpec := { name := "fnExactWriteLetter", fn := fun _ => fun
  | [d1, d2, d3, d4] => { results := [.lit (.bool true)], args := [d1, d2, d3, d4] }
  | _ => none }
def fnExactWriteLetterRow : OpenClaim := { program := "ytadbjlnfdjbbjaa", sum := "287aa4aa3d4aa5ee5dd2999b98d058c24d73d195bb731bb9d21e4b8570772000", func := "loop.example/g03007/laws.FnExactWriteLetter", spec := "fnExactWriteLetter", unfollowed := true, recurses := true, plainKeys := false, apart := false }
def FnExactWriteLetterSaid : Prop := fnExactWriteLetterRow.holds Try.pinned (OpenSpec.ofChange fnExactWriteLetterSpec)

/-- ITS FALSE NEIGHBOUR: 'it returns false'. Refute it at one input. -/
def fnExactWriteLetterWrong : ChangeSpec := { name := "fnExactWriteLetter", fn := fun _ => fun
  | [d1, d2, d3, d4] => { results := [.lit (.bool false)], args := [d1, d2, d3, d4] }
  | _ => none }
def FnExactWriteLetterWrongFalsely : Prop := fnExactWriteLetterRow.holds Try.pinned (OpenSpec.ofChange fnExactWriteLetterWrong)

/-- 'laws.FnExactCountLetters': WHATEVER THE INPUT: true; the input reads as it did. -/
def fnExactCountLettersSpec : ChangeSpec := { name := "fnExactCountLetters", fn := fun _ => fun
  | [d1, d2] => { results := [.lit (.bool true)], args := [d1, d2] }
  | _ => none }
def fnExactCountLettersRow : OpenClaim := { program := "ytadbjlnfdjbbjaa", sum := "287aa4aa3d4aa5ee5dd2999b98d058c24d73d195bb731bb9d21e4b8570772000", func := "loop.example/g03007/laws.FnExactCountLetters", spec := "fnExactCountLetters", plainKeys := false, apart := false }
def FnExactCountLettersSaid : Prop := fnExactCountLettersRow.holds Try.pinned (OpenSpec.ofChange fnExactCountLettersSpec)

/-- ITS FALSE NEIGHBOUR: 'it returns false'. Refute it at one input. -/
def fnExactCountLettersWrong : ChangeSpec := { name := "fnExactCountLetters", fn := fun _ => fun
  | [d1, d2] => { results := [.lit (.bool false)], args := [d1, d2] }
  | _ => none }
def FnExactCountLettersWrongFalsely : Prop := fnExactCountLettersRow.holds Try.pinned (OpenSpec.ofChange fnExactCountLettersWrong)

/-- 'laws.FnExactTwinsOf': WHATEVER THE INPUT: true; the input reads as it did. -/
def fnExactTwinsOfSpec : ChangeSpec := { name := "fnExactTwinsOf", fn := fun _ => fun
  | [d] => { results := [.lit (.bool true)], args := [d] }
  | _ => none }
def fnExactTwinsOfRow : OpenClaim := { program := "ytadbjlnfdjbbjaa", sum := "287aa4aa3d4aa5ee5dd2999b98d058c24d73d195bb731bb9d21e4b8570772000", func := "loop.example/g03007/laws.FnExactTwinsOf", spec := "fnExactTwinsOf", unfollowed := true, recurses := true, plainKeys := false, apart := false }
def FnExactTwinsOfSaid : Prop := fnExactTwinsOfRow.holds Try.pinned (OpenSpec.ofChange fnExactTwinsOfSpec)

/-- ITS FALSE NEIGHBOUR: 'it returns false'. Refute it at one input. -/
def fnExactTwinsOfWrong : ChangeSpec := { name := "fnExactTwinsOf", fn := fun _ => fun
  | [d] => { results := [.lit (.bool false)], args := [d] }
  | _ => none }
def FnExactTwinsOfWrongFalsely : Prop := fnExactTwinsOfRow.holds Try.pinned (OpenSpec.ofChange fnExactTwinsOfWrong)

/-- 'laws.FnExactDropTwins': WHATEVER THE INPUT: true; the input reads as it did. -/
def fnExactDropTwinsSpec : ChangeSpec := { name := "fnExactDropTwins", fn := fun _ => fun
  | [d] => { results := [.lit (.bool true)], args := [d] }
  | _ => none }
def fnExactDropTwinsRow : OpenClaim := { program := "ytadbjlnfdjbbjaa", sum := "287aa4aa3d4aa5ee5dd2999b98d058c24d73d195bb731bb9d21e4b8570772000", func := "loop.example/g03007/laws.FnExactDropTwins", spec := "fnExactDropTwins", unfollowed := true, recurses := true, plainKeys := false, apart := false }
def FnExactDropTwinsSaid : Prop := fnExactDropTwinsRow.holds Try.pinned (OpenSpec.ofChange fnExactDropTwinsSpec)

/-- ITS FALSE NEIGHBOUR: 'it returns false'. Refute it at one input. -/
def fnExactDropTwinsWrong : ChangeSpec := { name := "fnExactDropTwins", fn := fun _ => fun
  | [d] => { results := [.lit (.bool false)], args := [d] }
  | _ => none }
def FnExactDropTwinsWrongFalsely : Prop := fnExactDropTwinsRow.holds Try.pinned (OpenSpec.ofChange fnExactDropTwinsWrong)

/-- 'laws.FnExactEndOf': WHATEVER THE INPUT: true; the input reads as it did. -/
def fnExactEndOfSpec : ChangeSpec := { name := "fnExactEndOf", fn := fun _ => fun
  | [d1, d2] => { results := [.lit (.bool true)], args := [d1, d2] }
  | _ => none }
def fnExactEndOfRow : OpenClaim := { program := "ytadbjlnfdjbbjaa", sum := "287aa4aa3d4aa5ee5dd2999b98d058c24d73d195bb731bb9d21e4b8570772000", func := "loop.example/g03007/laws.FnExactEndOf", spec := "fnExactEndOf", plainKeys := false, apart := false }
def FnExactEndOfSaid : Prop := fnExactEndOfRow.holds Try.pinned (OpenSpec.ofChange fnExactEndOfSpec)

/-- ITS FALSE NEIGHBOUR: 'it returns false'. Refute it at one input. -/
def fnExactEndOfWrong : ChangeSpec := { name := "fnExactEndOf", fn := fun _ => fun
  | [d1, d2] => { results := [.lit (.bool false)], args := [d1, d2] }
  | _ => none }
def FnExactEndOfWrongFalsely : Prop := fnExactEndOfRow.holds Try.pinned (OpenSpec.ofChange fnExactEndOfWrong)

/-- 'laws.FnExactStayHours': WHATEVER THE INPUT: true; the input reads as it did. -/
def fnExactStayHoursSpec : ChangeSpec := { name := "fnExactStayHours", fn := fun _ => fun
  | [d1, d2, d3] => { results := [.lit (.bool true)], args := [d1, d2, d3] }
  | _ => none }
def fnExactStayHoursRow : OpenClaim := { program := "ytadbjlnfdjbbjaa", sum := "287aa4aa3d4aa5ee5dd2999b98d058c24d73d195bb731bb9d21e4b8570772000", func := "loop.example/g03007/laws.FnExactStayHours", spec := "fnExactStayHours", unfollowed := true, recurses := true, plainKeys := false, apart := false }
def FnExactStayHoursSaid : Prop := fnExactStayHoursRow.holds Try.pinned (OpenSpec.ofChange fnExactStayHoursSpec)

/-- ITS FALSE NEIGHBOUR: 'it returns false'. Refute it at one input. -/
def fnExactStayHoursWrong : ChangeSpec := { name := "fnExactStayHours", fn := fun _ => fun
  | [d1, d2, d3] => { results := [.lit (.bool false)], args := [d1, d2, d3] }
  | _ => none }
def FnExactStayHoursWrongFalsely : Prop := fnExactStayHoursRow.holds Try.pinned (OpenSpec.ofChange fnExactStayHoursWrong)

/-- 'laws.FnExactTravelCount': WHATEVER THE INPUT: true; the input reads as it did. -/
def fnExactTravelCountSpec : ChangeSpec := { name := "fnExactTravelCount", fn := fun _ => fun
  | [d1, d2] => { results := [.lit (.bool true)], args := [d1, d2] }
  | _ => none }
def fnExactTravelCountRow : OpenClaim := { program := "ytadbjlnfdjbbjaa", sum := "287aa4aa3d4aa5ee5dd2999b98d058c24d73d195bb731bb9d21e4b8570772000", func := "loop.example/g03007/laws.FnExactTravelCount", spec := "fnExactTravelCount", plainKeys := false, apart := false }
def FnExactTravelCountSaid : Prop := fnExactTravelCountRow.holds Try.pinned (OpenSpec.ofChange fnExactTravelCountSpec)

/-- ITS FALSE NEIGHBOUR: 'it returns false'. Refute it at one input. -/
def fnExactTravelCountWrong : ChangeSpec := { name := "fnExactTravelCount", fn := fun _ => fun
  | [d1, d2] => { results := [.lit (.bool false)], args := [d1, d2] }
  | _ => none }
def FnExactTravelCountWrongFalsely : Prop := fnExactTravelCountRow.holds Try.pinned (OpenSpec.ofChange fnExactTravelCountWrong)

/- THE SECOND FORM. 'bulk': how many values and letters a reading holds, each counted each time it is reached (what is shared counts as often as it is met; a slice's spare places count too). A statement '..UptoSaid' is the law's where the arguments, and the package variables that the reading takes, are together of bulk at most 1048576: NARROWER than '..Said'. Prove '..Said' where nothing that the law and all that it calls make is longer than what came in: it says more and counts as full. Else prove '..UptoSaid'. A law counts once. -/
mutual
def uptoBulk {H : Type} : DataW H → Nat
  | .lit (.string bytes) => bytes.length + 1
  | .lit _ => 1
  | .nil => 1
  | .ptr d => uptoBulk d + 1
  | .slice elems spare => uptoBulkAll elems + uptoBulkAll spare + 1
  | .agg parts => uptoBulkAll parts + 1
  | .iface _ d => uptoBulk d + 1
  | .map entries => uptoBulkEntries entries + 1
  | .held _ => 1
def uptoBulkAll {H : Type} : List (DataW H) → Nat
  | [] => 0
  | d :: r => uptoBulk d + uptoBulkAll r
def uptoBulkEntries {H : Type} : List (Lit × DataW H) → Nat
  | [] => 0
  | x :: r => uptoBulkEntry x + uptoBulkEntries r
def uptoBulkEntry {H : Type} : Lit × DataW H → Nat
  | (.string bytes, d) => bytes.length + uptoBulk d + 1
  | (_, d) => uptoBulk d + 1
 end
def uptoSmall : (H : Type) → List (DataW H) → Bool := fun _ ds => decide (uptoBulkAll ds ≤ 1048576)
def OpenSpec.upto (s : _root_.Go.ChangeSpec) : _root_.Go.OpenSpec := { _root_.Go.OpenSpec.ofChange s with cond := some uptoSmall }

/-- 'laws.FnExactAreClaims', WHERE WHAT IT READS IS OF BULK AT MOST 1048576: true; the input reads as it did. -/
def fnExactAreClaimsUptoRow : OpenClaim := { program := "ytadbjlnfdjbbjaa", sum := "287aa4aa3d4aa5ee5dd2999b98d058c24d73d195bb731bb9d21e4b8570772000", func := "loop.example/g03007/laws.FnExactAreClaims", spec := "fnExactAreClaims", unfollowed := true, recurses := true, plainKeys := false, apart := false, narrowed := true }
def FnExactAreClaimsUptoSaid : Prop := fnExactAreClaimsUptoRow.holds Try.pinned (OpenSpec.upto fnExactAreClaimsSpec)

/-- 'laws.FnExactAddClaim', WHERE WHAT IT READS IS OF BULK AT MOST 1048576: true; the input reads as it did. -/
def fnExactAddClaimUptoRow : OpenClaim := { program := "ytadbjlnfdjbbjaa", sum := "287aa4aa3d4aa5ee5dd2999b98d058c24d73d195bb731bb9d21e4b8570772000", func := "loop.example/g03007/laws.FnExactAddClaim", spec := "fnExactAddClaim", unfollowed := true, recurses := true, plainKeys := false, apart := false, narrowed := true }
def FnExactAddClaimUptoSaid : Prop := fnExactAddClaimUptoRow.holds Try.pinned (OpenSpec.upto fnExactAddClaimSpec)

/-- 'laws.FnExactSetState', WHERE WHAT IT READS IS OF BULK AT MOST 1048576: true; the input reads as it did. -/
def fnExactSetStateUptoRow : OpenClaim := { program := "ytadbjlnfdjbbjaa", sum := "287aa4aa3d4aa5ee5dd2999b98d058c24d73d195bb731bb9d21e4b8570772000", func := "loop.example/g03007/laws.FnExactSetState", spec := "fnExactSetState", unfollowed := true, recurses := true, plainKeys := false, apart := false, narrowed := true }
def FnExactSetStateUptoSaid : Prop := fnExactSetStateUptoRow.holds Try.pinned (OpenSpec.upto fnExactSetStateSpec)

/-- 'laws.FnExactClaimsFor', WHERE WHAT IT READS IS OF BULK AT MOST 1048576: true; the input reads as it did. -/
def fnExactClaimsForUptoRow : OpenClaim := { program := "ytadbjlnfdjbbjaa", sum := "287aa4aa3d4aa5ee5dd2999b98d058c24d73d195bb731bb9d21e4b8570772000", func := "loop.example/g03007/laws.FnExactClaimsFor", spec := "fnExactClaimsFor", plainKeys := false, apart := false, narrowed := true }
def FnExactClaimsForUptoSaid : Prop := fnExactClaimsForUptoRow.holds Try.pinned (OpenSpec.upto fnExactClaimsForSpec)

/-- 'laws.FnExactFirstProved', WHERE WHAT IT READS IS OF BULK AT MOST 1048576: true; the input reads as it did. -/
def fnExactFirstProvedUptoRow : OpenClaim := { program := "ytadbjlnfdjbbjaa", sum := "287aa4aa3d4aa5ee5dd2999b98d058c24d73d195bb731bb9d21e4b8570772000", func := "loop.example/g03007/laws.FnExactFirstProved", spec := "fnExactFirstProved", plainKeys := false, apart := false, narrowed := true }
def FnExactFirstProvedUptoSaid : Prop := fnExactFirstProvedUptoRow.holds Try.pinned (OpenSpec.upto fnExactFirstProvedSpec)

/-- 'laws.FnExactIsChain', WHERE WHAT IT READS IS OF BULK AT MOST 1048576: true; the input reads as it did. -/
def fnExactIsChainUptoRow : OpenClaim := { program := "ytadbjlnfdjbbjaa", sum := "287aa4aa3d4aa5ee5dd2999b98d058c24d73d195bb731bb9d21e4b8570772000", func := "loop.example/g03007/laws.FnExactIsChain", spec := "fnExactIsChain", unfollowed := true, recurses := true, plainKeys := false, apart := false, narrowed := true }
def FnExactIsChainUptoSaid : Prop := fnExactIsChainUptoRow.holds Try.pinned (OpenSpec.upto fnExactIsChainSpec)

/-- 'laws.FnExactAddHand', WHERE WHAT IT READS IS OF BULK AT MOST 1048576: true; the input reads as it did. -/
def fnExactAddHandUptoRow : OpenClaim := { program := "ytadbjlnfdjbbjaa", sum := "287aa4aa3d4aa5ee5dd2999b98d058c24d73d195bb731bb9d21e4b8570772000", func := "loop.example/g03007/laws.FnExactAddHand", spec := "fnExactAddHand", unfollowed := true, recurses := true, plainKeys := false, apart := false, narrowed := true }
def FnExactAddHandUptoSaid : Prop := fnExactAddHandUptoRow.holds Try.pinned (OpenSpec.upto fnExactAddHandSpec)

/-- 'laws.FnExactHolderAt', WHERE WHAT IT READS IS OF BULK AT MOST 1048576: true; the input reads as it did. -/
def fnExactHolderAtUptoRow : OpenClaim := { program := "ytadbjlnfdjbbjaa", sum := "287aa4aa3d4aa5ee5dd2999b98d058c24d73d195bb731bb9d21e4b8570772000", func := "loop.example/g03007/laws.FnExactHolderAt", spec := "fnExactHolderAt", unfollowed := true, recurses := true, plainKeys := false, apart := false, narrowed := true }
def FnExactHolderAtUptoSaid : Prop := fnExactHolderAtUptoRow.holds Try.pinned (OpenSpec.upto fnExactHolderAtSpec)

/-- 'laws.FnExactHandsOf', WHERE WHAT IT READS IS OF BULK AT MOST 1048576: true; the input reads as it did. -/
def fnExactHandsOfUptoRow : OpenClaim := { program := "ytadbjlnfdjbbjaa", sum := "287aa4aa3d4aa5ee5dd2999b98d058c24d73d195bb731bb9d21e4b8570772000", func := "loop.example/g03007/laws.FnExactHandsOf", spec := "fnExactHandsOf", plainKeys := false, apart := false, narrowed := true }
def FnExactHandsOfUptoSaid : Prop := fnExactHandsOfUptoRow.holds Try.pinned (OpenSpec.upto fnExactHandsOfSpec)

/-- 'laws.FnExactSharedHints', WHERE WHAT IT READS IS OF BULK AT MOST 1048576: true; the input reads as it did. -/
def fnExactSharedHintsUptoRow : OpenClaim := { program := "ytadbjlnfdjbbjaa", sum := "287aa4aa3d4aa5ee5dd2999b98d058c24d73d195bb731bb9d21e4b8570772000", func := "loop.example/g03007/laws.FnExactSharedHints", spec := "fnExactSharedHints", plainKeys := false, apart := false, narrowed := true }
def FnExactSharedHintsUptoSaid : Prop := fnExactSharedHintsUptoRow.holds Try.pinned (OpenSpec.upto fnExactSharedHintsSpec)

/-- 'laws.FnExactHousesOf', WHERE WHAT IT READS IS OF BULK AT MOST 1048576: true; the input reads as it did. -/
def fnExactHousesOfUptoRow : OpenClaim := { program := "ytadbjlnfdjbbjaa", sum := "287aa4aa3d4aa5ee5dd2999b98d058c24d73d195bb731bb9d21e4b8570772000", func := "loop.example/g03007/laws.FnExactHousesOf", spec := "fnExactHousesOf", plainKeys := false, apart := false, narrowed := true }
def FnExactHousesOfUptoSaid : Prop := fnExactHousesOfUptoRow.holds Try.pinned (OpenSpec.upto fnExactHousesOfSpec)

/-- 'laws.FnExactCountIn', WHERE WHAT IT READS IS OF BULK AT MOST 1048576: true; the input reads as it did. -/
def fnExactCountInUptoRow : OpenClaim := { program := "ytadbjlnfdjbbjaa", sum := "287aa4aa3d4aa5ee5dd2999b98d058c24d73d195bb731bb9d21e4b8570772000", func := "loop.example/g03007/laws.FnExactCountIn", spec := "fnExactCountIn", unfollowed := true, recurses := true, plainKeys := false, apart := false, narrowed := true }
def FnExactCountInUptoSaid : Prop := fnExactCountInUptoRow.holds Try.pinned (OpenSpec.upto fnExactCountInSpec)

/-- 'laws.FnExactAreLetters', WHERE WHAT IT READS IS OF BULK AT MOST 1048576: true; the input reads as it did. -/
def fnExactAreLettersUptoRow : OpenClaim := { program := "ytadbjlnfdjbbjaa", sum := "287aa4aa3d4aa5ee5dd2999b98d058c24d73d195bb731bb9d21e4b8570772000", func := "loop.example/g03007/laws.FnExactAreLetters", spec := "fnExactAreLetters", unfollowed := true, recurses := true, plainKeys := false, apart := false, narrowed := true }
def FnExactAreLettersUptoSaid : Prop := fnExactAreLettersUptoRow.holds Try.pinned (OpenSpec.upto fnExactAreLettersSpec)

/-- 'laws.FnExactLastLetter', WHERE WHAT IT READS IS OF BULK AT MOST 1048576: true; the input reads as it did. -/
def fnExactLastLetterUptoRow : OpenClaim := { program := "ytadbjlnfdjbbjaa", sum := "287aa4aa3d4aa5ee5dd2999b98d058c24d73d195bb731bb9d21e4b8570772000", func := "loop.example/g03007/laws.FnExactLastLetter", spec := "fnExactLastLetter", plainKeys := false, apart := false, narrowed := true }
def FnExactLastLetterUptoSaid : Prop := fnExactLastLetterUptoRow.holds Try.pinned (OpenSpec.upto fnExactLastLetterSpec)

/-- 'laws.FnExactMayWrite', WHERE WHAT IT READS IS OF BULK AT MOST 1048576: true; the input reads as it did. -/
def fnExactMayWriteUptoRow : OpenClaim := { program := "ytadbjlnfdjbbjaa", sum := "287aa4aa3d4aa5ee5dd2999b98d058c24d73d195bb731bb9d21e4b8570772000", func := "loop.example/g03007/laws.FnExactMayWrite", spec := "fnExactMayWrite", unfollowed := true, recurses := true, plainKeys := false, apart := false, narrowed := true }
def FnExactMayWriteUptoSaid : Prop := fnExactMayWriteUptoRow.holds Try.pinned (OpenSpec.upto fnExactMayWriteSpec)

/-- 'laws.FnExactWriteLetter', WHERE WHAT IT READS IS OF BULK AT MOST 1048576: true; the input reads as it did. -/
def fnExactWriteLetterUptoRow : OpenClaim := { program := "ytadbjlnfdjbbjaa", sum := "287aa4aa3d4aa5ee5dd2999b98d058c24d73d195bb731bb9d21e4b8570772000", func := "loop.example/g03007/laws.FnExactWriteLetter", spec := "fnExactWriteLetter", unfollowed := true, recurses := true, plainKeys := false, apart := false, narrowed := true }
def FnExactWriteLetterUptoSaid : Prop := fnExactWriteLetterUptoRow.holds Try.pinned (OpenSpec.upto fnExactWriteLetterSpec)

/-- 'laws.FnExactCountLetters', WHERE WHAT IT READS IS OF BULK AT MOST 1048576: true; the input reads as it did. -/
def fnExactCountLettersUptoRow : OpenClaim := { program := "ytadbjlnfdjbbjaa", sum := "287aa4aa3d4aa5ee5dd2999b98d058c24d73d195bb731bb9d21e4b8570772000", func := "loop.example/g03007/laws.FnExactCountLetters", spec := "fnExactCountLetters", plainKeys := false, apart := false, narrowed := true }
def FnExactCountLettersUptoSaid : Prop := fnExactCountLettersUptoRow.holds Try.pinned (OpenSpec.upto fnExactCountLettersSpec)

/-- 'laws.FnExactTwinsOf', WHERE WHAT IT READS IS OF BULK AT MOST 1048576: true; the input reads as it did. -/
def fnExactTwinsOfUptoRow : OpenClaim := { program := "ytadbjlnfdjbbjaa", sum := "287aa4aa3d4aa5ee5dd2999b98d058c24d73d195bb731bb9d21e4b8570772000", func := "loop.example/g03007/laws.FnExactTwinsOf", spec := "fnExactTwinsOf", unfollowed := true, recurses := true, plainKeys := false, apart := false, narrowed := true }
def FnExactTwinsOfUptoSaid : Prop := fnExactTwinsOfUptoRow.holds Try.pinned (OpenSpec.upto fnExactTwinsOfSpec)

/-- 'laws.FnExactDropTwins', WHERE WHAT IT READS IS OF BULK AT MOST 1048576: true; the input reads as it did. -/
def fnExactDropTwinsUptoRow : OpenClaim := { program := "ytadbjlnfdjbbjaa", sum := "287aa4aa3d4aa5ee5dd2999b98d058c24d73d195bb731bb9d21e4b8570772000", func := "loop.example/g03007/laws.FnExactDropTwins", spec := "fnExactDropTwins", unfollowed := true, recurses := true, plainKeys := false, apart := false, narrowed := true }
def FnExactDropTwinsUptoSaid : Prop := fnExactDropTwinsUptoRow.holds Try.pinned (OpenSpec.upto fnExactDropTwinsSpec)

/-- 'laws.FnExactEndOf', WHERE WHAT IT READS IS OF BULK AT MOST 1048576: true; the input reads as it did. -/
def fnExactEndOfUptoRow : OpenClaim := { program := "ytadbjlnfdjbbjaa", sum := "287aa4aa3d4aa5ee5dd2999b98d058c24d73d195bb731bb9d21e4b8570772000", func := "loop.example/g03007/laws.FnExactEndOf", spec := "fnExactEndOf", plainKeys := false, apart := false, narrowed := true }
def FnExactEndOfUptoSaid : Prop := fnExactEndOfUptoRow.holds Try.pinned (OpenSpec.upto fnExactEndOfSpec)

/-- 'laws.FnExactStayHours', WHERE WHAT IT READS IS OF BULK AT MOST 1048576: true; the input reads as it did. -/
def fnExactStayHoursUptoRow : OpenClaim := { program := "ytadbjlnfdjbbjaa", sum := "287aa4aa3d4aa5ee5dd2999b98d058c24d73d195bb731bb9d21e4b8570772000", func := "loop.example/g03007/laws.FnExactStayHours", spec := "fnExactStayHours", unfollowed := true, recurses := true, plainKeys := false, apart := false, narrowed := true }
def FnExactStayHoursUptoSaid : Prop := fnExactStayHoursUptoRow.holds Try.pinned (OpenSpec.upto fnExactStayHoursSpec)

/-- 'laws.FnExactTravelCount', WHERE WHAT IT READS IS OF BULK AT MOST 1048576: true; the input reads as it did. -/
def fnExactTravelCountUptoRow : OpenClaim := { program := "ytadbjlnfdjbbjaa", sum := "287aa4aa3d4aa5ee5dd2999b98d058c24d73d195bb731bb9d21e4b8570772000", func := "loop.example/g03007/laws.FnExactTravelCount", spec := "fnExactTravelCount", plainKeys := false, apart := false, narrowed := true }
def FnExactTravelCountUptoSaid : Prop := fnExactTravelCountUptoRow.holds Try.pinned (OpenSpec.upto fnExactTravelCountSpec)

end Rows
end Go.Proofs.Ytadbjlnfdjbbjaa
