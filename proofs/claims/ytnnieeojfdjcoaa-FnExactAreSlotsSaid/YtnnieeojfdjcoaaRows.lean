/-
  No cell of these rows narrows 'for every input' (looked for: loops, veiled, ifaces, maps, wideKeys, modest, calm, conditions, laid).
  DERIVED. THE GIVEN ROWS OF THIS SEAT. 29 by the template 'for every input the law returns true; each argument reads behind the call as it read before'; 0 by the template 'total and deterministic' (their statements: YtnnieeojfdjcoaaTotals.lean).
  GIVEN WITH THE SEED: the statements are not yours to turn. If you find one false, say at which input.
  Laid BY PROGRAM, IN A SANDBOX (cutbox-rows.mjs): the forced cells as the released guide's own fill.sh prints them over the translation 6e7526a0b9283cff… (all of the seat's roots in one cut). By AI agents, Wed Nov 11 2026. No macro, syntax, notation, axiom, sorry.
-/
import Derived.Test.YtnnieeojfdjcoaaChecked
import GoSem.Claim
import GoSem.ClaimJoined
import GoSem.ClaimMapViews
import Derived.JoinedTies
import Derived.KernelRfl
namespace Go.Proofs.Ytnnieeojfdjcoaa
/- THE CELL 'sum', in the pinned program and in every row, IS THE sha256 OF THE DUMP (.gsa) THAT YtnnieeojfdjcoaaProg.lean LOADS. Nothing in Lean hashes anything: it is a label: what it is worth is what the hold of that sum in a sandbox is worth. -/
noncomputable def Try.pinned : Pinned := { name := "ytnnieeojfdjcoaa", sum := "6e7526a0b9283cff74d61796328b27dc46851d1f942a7321d19a89b47c6aa679", checked := Try.checked }
namespace Rows
def none {H : Type} : Left H := { results := [], args := [] }

/-- 'laws.FnExactAreMarks': WHATEVER THE INPUT: true; the input reads as it did. -/
def fnExactAreMarksSpec : ChangeSpec := { name := "fnExactAreMarks", fn := fun _ => fun
  | [d] => { results := [.lit (.bool true)], args := [d] }
  | _ => none }
def fnExactAreMarksRow : OpenClaim := { program := "ytnnieeojfdjcoaa", sum := "6e7526a0b9283cff74d61796328b27dc46851d1f942a7321d19a89b47c6aa679", func := "loop.example/g03007/laws.FnExactAreMarks", spec := "fnExactAreMarks", unfollowed := true, recurses := true, apart := false }
def FnExactAreMarksSaid : Prop := fnExactAreMarksRow.holds Try.pinned (OpenSpec.ofChange fnExactAreMarksSpec)

/-- ITS FALSE NEIGHBOUR: 'it returns false'. Refute it at one input. -/
def fnExactAreMarksWrong : ChangeSpec := { name := "fnExactAreMarks", fn := fun _ => fun
  | [d] => { results := [.lit (.bool false)], args := [d] }
  | _ => none }
def FnExactAreMarksWrongFalsely : Prop := fnExactAreMarksRow.holds Try.pinned (OpenSpec.ofChange fnExactAreMarksWrong)

/-- 'laws.FnExactAnswerOf': WHATEVER THE INPUT: true; the input reads as it did. -/
def fnExactAnswerOfSpec : ChangeSpec := { name := "fnExactAnswerOf", fn := fun _ => fun
  | [d1, d2] => { results := [.lit (.bool true)], args := [d1, d2] }
  | _ => none }
def fnExactAnswerOfRow : OpenClaim := { program := "ytnnieeojfdjcoaa", sum := "6e7526a0b9283cff74d61796328b27dc46851d1f942a7321d19a89b47c6aa679", func := "loop.example/g03007/laws.FnExactAnswerOf", spec := "fnExactAnswerOf", apart := false }
def FnExactAnswerOfSaid : Prop := fnExactAnswerOfRow.holds Try.pinned (OpenSpec.ofChange fnExactAnswerOfSpec)

/-- ITS FALSE NEIGHBOUR: 'it returns false'. Refute it at one input. -/
def fnExactAnswerOfWrong : ChangeSpec := { name := "fnExactAnswerOf", fn := fun _ => fun
  | [d1, d2] => { results := [.lit (.bool false)], args := [d1, d2] }
  | _ => none }
def FnExactAnswerOfWrongFalsely : Prop := fnExactAnswerOfRow.holds Try.pinned (OpenSpec.ofChange fnExactAnswerOfWrong)

/-- 'laws.FnExactSealMarks': WHATEVER THE INPUT: true; the input reads as it did. -/
def fnExactSealMarksSpec : ChangeSpec := { name := "fnExactSealMarks", fn := fun _ => fun
  | [d1, d2] => { results := [.lit (.bool true)], args := [d1, d2] }
  | _ => none }
def fnExactSealMarksRow : OpenClaim := { program := "ytnnieeojfdjcoaa", sum := "6e7526a0b9283cff74d61796328b27dc46851d1f942a7321d19a89b47c6aa679", func := "loop.example/g03007/laws.FnExactSealMarks", spec := "fnExactSealMarks", unfollowed := true, recurses := true, apart := false }
def FnExactSealMarksSaid : Prop := fnExactSealMarksRow.holds Try.pinned (OpenSpec.ofChange fnExactSealMarksSpec)

/-- ITS FALSE NEIGHBOUR: 'it returns false'. Refute it at one input. -/
def fnExactSealMarksWrong : ChangeSpec := { name := "fnExactSealMarks", fn := fun _ => fun
  | [d1, d2] => { results := [.lit (.bool false)], args := [d1, d2] }
  | _ => none }
def FnExactSealMarksWrongFalsely : Prop := fnExactSealMarksRow.holds Try.pinned (OpenSpec.ofChange fnExactSealMarksWrong)

/-- 'laws.FnExactOpensSeal': WHATEVER THE INPUT: true; the input reads as it did. -/
def fnExactOpensSealSpec : ChangeSpec := { name := "fnExactOpensSeal", fn := fun _ => fun
  | [d1, d2, d3] => { results := [.lit (.bool true)], args := [d1, d2, d3] }
  | _ => none }
def fnExactOpensSealRow : OpenClaim := { program := "ytnnieeojfdjcoaa", sum := "6e7526a0b9283cff74d61796328b27dc46851d1f942a7321d19a89b47c6aa679", func := "loop.example/g03007/laws.FnExactOpensSeal", spec := "fnExactOpensSeal", unfollowed := true, recurses := true, apart := false }
def FnExactOpensSealSaid : Prop := fnExactOpensSealRow.holds Try.pinned (OpenSpec.ofChange fnExactOpensSealSpec)

/-- ITS FALSE NEIGHBOUR: 'it returns false'. Refute it at one input. -/
def fnExactOpensSealWrong : ChangeSpec := { name := "fnExactOpensSeal", fn := fun _ => fun
  | [d1, d2, d3] => { results := [.lit (.bool false)], args := [d1, d2, d3] }
  | _ => none }
def FnExactOpensSealWrongFalsely : Prop := fnExactOpensSealRow.holds Try.pinned (OpenSpec.ofChange fnExactOpensSealWrong)

/-- 'laws.FnExactQuestionFor': WHATEVER THE INPUT: true; the input reads as it did. -/
def fnExactQuestionForSpec : ChangeSpec := { name := "fnExactQuestionFor", fn := fun _ => fun
  | [d1, d2, d3] => { results := [.lit (.bool true)], args := [d1, d2, d3] }
  | _ => none }
def fnExactQuestionForRow : OpenClaim := { program := "ytnnieeojfdjcoaa", sum := "6e7526a0b9283cff74d61796328b27dc46851d1f942a7321d19a89b47c6aa679", func := "loop.example/g03007/laws.FnExactQuestionFor", spec := "fnExactQuestionFor", unfollowed := true, recurses := true, apart := false }
def FnExactQuestionForSaid : Prop := fnExactQuestionForRow.holds Try.pinned (OpenSpec.ofChange fnExactQuestionForSpec)

/-- ITS FALSE NEIGHBOUR: 'it returns false'. Refute it at one input. -/
def fnExactQuestionForWrong : ChangeSpec := { name := "fnExactQuestionFor", fn := fun _ => fun
  | [d1, d2, d3] => { results := [.lit (.bool false)], args := [d1, d2, d3] }
  | _ => none }
def FnExactQuestionForWrongFalsely : Prop := fnExactQuestionForRow.holds Try.pinned (OpenSpec.ofChange fnExactQuestionForWrong)

/-- 'laws.FnExactPutMark': WHATEVER THE INPUT: true; the input reads as it did. -/
def fnExactPutMarkSpec : ChangeSpec := { name := "fnExactPutMark", fn := fun _ => fun
  | [d1, d2] => { results := [.lit (.bool true)], args := [d1, d2] }
  | _ => none }
def fnExactPutMarkRow : OpenClaim := { program := "ytnnieeojfdjcoaa", sum := "6e7526a0b9283cff74d61796328b27dc46851d1f942a7321d19a89b47c6aa679", func := "loop.example/g03007/laws.FnExactPutMark", spec := "fnExactPutMark", unfollowed := true, recurses := true, apart := false }
def FnExactPutMarkSaid : Prop := fnExactPutMarkRow.holds Try.pinned (OpenSpec.ofChange fnExactPutMarkSpec)

/-- ITS FALSE NEIGHBOUR: 'it returns false'. Refute it at one input. -/
def fnExactPutMarkWrong : ChangeSpec := { name := "fnExactPutMark", fn := fun _ => fun
  | [d1, d2] => { results := [.lit (.bool false)], args := [d1, d2] }
  | _ => none }
def FnExactPutMarkWrongFalsely : Prop := fnExactPutMarkRow.holds Try.pinned (OpenSpec.ofChange fnExactPutMarkWrong)

/-- 'laws.FnExactIsTrial': WHATEVER THE INPUT: true; the input reads as it did. -/
def fnExactIsTrialSpec : ChangeSpec := { name := "fnExactIsTrial", fn := fun _ => fun
  | [d] => { results := [.lit (.bool true)], args := [d] }
  | _ => none }
def fnExactIsTrialRow : OpenClaim := { program := "ytnnieeojfdjcoaa", sum := "6e7526a0b9283cff74d61796328b27dc46851d1f942a7321d19a89b47c6aa679", func := "loop.example/g03007/laws.FnExactIsTrial", spec := "fnExactIsTrial", apart := false }
def FnExactIsTrialSaid : Prop := fnExactIsTrialRow.holds Try.pinned (OpenSpec.ofChange fnExactIsTrialSpec)

/-- ITS FALSE NEIGHBOUR: 'it returns false'. Refute it at one input. -/
def fnExactIsTrialWrong : ChangeSpec := { name := "fnExactIsTrial", fn := fun _ => fun
  | [d] => { results := [.lit (.bool false)], args := [d] }
  | _ => none }
def FnExactIsTrialWrongFalsely : Prop := fnExactIsTrialRow.holds Try.pinned (OpenSpec.ofChange fnExactIsTrialWrong)

/-- 'laws.FnExactNeedFor': WHATEVER THE INPUT: true; the input reads as it did. -/
def fnExactNeedForSpec : ChangeSpec := { name := "fnExactNeedFor", fn := fun _ => fun
  | [d] => { results := [.lit (.bool true)], args := [d] }
  | _ => none }
def fnExactNeedForRow : OpenClaim := { program := "ytnnieeojfdjcoaa", sum := "6e7526a0b9283cff74d61796328b27dc46851d1f942a7321d19a89b47c6aa679", func := "loop.example/g03007/laws.FnExactNeedFor", spec := "fnExactNeedFor", unfollowed := true, recurses := true, apart := false }
def FnExactNeedForSaid : Prop := fnExactNeedForRow.holds Try.pinned (OpenSpec.ofChange fnExactNeedForSpec)

/-- ITS FALSE NEIGHBOUR: 'it returns false'. Refute it at one input. -/
def fnExactNeedForWrong : ChangeSpec := { name := "fnExactNeedFor", fn := fun _ => fun
  | [d] => { results := [.lit (.bool false)], args := [d] }
  | _ => none }
def FnExactNeedForWrongFalsely : Prop := fnExactNeedForRow.holds Try.pinned (OpenSpec.ofChange fnExactNeedForWrong)

/-- 'laws.FnExactTrialState': WHATEVER THE INPUT: true; the input reads as it did. -/
def fnExactTrialStateSpec : ChangeSpec := { name := "fnExactTrialState", fn := fun _ => fun
  | [d1, d2] => { results := [.lit (.bool true)], args := [d1, d2] }
  | _ => none }
def fnExactTrialStateRow : OpenClaim := { program := "ytnnieeojfdjcoaa", sum := "6e7526a0b9283cff74d61796328b27dc46851d1f942a7321d19a89b47c6aa679", func := "loop.example/g03007/laws.FnExactTrialState", spec := "fnExactTrialState", unfollowed := true, recurses := true, apart := false }
def FnExactTrialStateSaid : Prop := fnExactTrialStateRow.holds Try.pinned (OpenSpec.ofChange fnExactTrialStateSpec)

/-- ITS FALSE NEIGHBOUR: 'it returns false'. Refute it at one input. -/
def fnExactTrialStateWrong : ChangeSpec := { name := "fnExactTrialState", fn := fun _ => fun
  | [d1, d2] => { results := [.lit (.bool false)], args := [d1, d2] }
  | _ => none }
def FnExactTrialStateWrongFalsely : Prop := fnExactTrialStateRow.holds Try.pinned (OpenSpec.ofChange fnExactTrialStateWrong)

/-- 'laws.FnExactNextQuestion': WHATEVER THE INPUT: true; the input reads as it did. -/
def fnExactNextQuestionSpec : ChangeSpec := { name := "fnExactNextQuestion", fn := fun _ => fun
  | [d1, d2] => { results := [.lit (.bool true)], args := [d1, d2] }
  | _ => none }
def fnExactNextQuestionRow : OpenClaim := { program := "ytnnieeojfdjcoaa", sum := "6e7526a0b9283cff74d61796328b27dc46851d1f942a7321d19a89b47c6aa679", func := "loop.example/g03007/laws.FnExactNextQuestion", spec := "fnExactNextQuestion", unfollowed := true, recurses := true, apart := false }
def FnExactNextQuestionSaid : Prop := fnExactNextQuestionRow.holds Try.pinned (OpenSpec.ofChange fnExactNextQuestionSpec)

/-- ITS FALSE NEIGHBOUR: 'it returns false'. Refute it at one input. -/
def fnExactNextQuestionWrong : ChangeSpec := { name := "fnExactNextQuestion", fn := fun _ => fun
  | [d1, d2] => { results := [.lit (.bool false)], args := [d1, d2] }
  | _ => none }
def FnExactNextQuestionWrongFalsely : Prop := fnExactNextQuestionRow.holds Try.pinned (OpenSpec.ofChange fnExactNextQuestionWrong)

/-- 'laws.FnExactGiveAnswer': WHATEVER THE INPUT: true; the input reads as it did. -/
def fnExactGiveAnswerSpec : ChangeSpec := { name := "fnExactGiveAnswer", fn := fun _ => fun
  | [d1, d2, d3] => { results := [.lit (.bool true)], args := [d1, d2, d3] }
  | _ => none }
def fnExactGiveAnswerRow : OpenClaim := { program := "ytnnieeojfdjcoaa", sum := "6e7526a0b9283cff74d61796328b27dc46851d1f942a7321d19a89b47c6aa679", func := "loop.example/g03007/laws.FnExactGiveAnswer", spec := "fnExactGiveAnswer", unfollowed := true, recurses := true, apart := false }
def FnExactGiveAnswerSaid : Prop := fnExactGiveAnswerRow.holds Try.pinned (OpenSpec.ofChange fnExactGiveAnswerSpec)

/-- ITS FALSE NEIGHBOUR: 'it returns false'. Refute it at one input. -/
def fnExactGiveAnswerWrong : ChangeSpec := { name := "fnExactGiveAnswer", fn := fun _ => fun
  | [d1, d2, d3] => { results := [.lit (.bool false)], args := [d1, d2, d3] }
  | _ => none }
def FnExactGiveAnswerWrongFalsely : Prop := fnExactGiveAnswerRow.holds Try.pinned (OpenSpec.ofChange fnExactGiveAnswerWrong)

/-- 'laws.FnExactAnswerAll': WHATEVER THE INPUT: true; the input reads as it did. -/
def fnExactAnswerAllSpec : ChangeSpec := { name := "fnExactAnswerAll", fn := fun _ => fun
  | [d1, d2, d3] => { results := [.lit (.bool true)], args := [d1, d2, d3] }
  | _ => none }
def fnExactAnswerAllRow : OpenClaim := { program := "ytnnieeojfdjcoaa", sum := "6e7526a0b9283cff74d61796328b27dc46851d1f942a7321d19a89b47c6aa679", func := "loop.example/g03007/laws.FnExactAnswerAll", spec := "fnExactAnswerAll", unfollowed := true, recurses := true, apart := false }
def FnExactAnswerAllSaid : Prop := fnExactAnswerAllRow.holds Try.pinned (OpenSpec.ofChange fnExactAnswerAllSpec)

/-- ITS FALSE NEIGHBOUR: 'it returns false'. Refute it at one input. -/
def fnExactAnswerAllWrong : ChangeSpec := { name := "fnExactAnswerAll", fn := fun _ => fun
  | [d1, d2, d3] => { results := [.lit (.bool false)], args := [d1, d2, d3] }
  | _ => none }
def FnExactAnswerAllWrongFalsely : Prop := fnExactAnswerAllRow.holds Try.pinned (OpenSpec.ofChange fnExactAnswerAllWrong)

/-- 'laws.FnExactAreClaims': WHATEVER THE INPUT: true; the input reads as it did. -/
def fnExactAreClaimsSpec : ChangeSpec := { name := "fnExactAreClaims", fn := fun _ => fun
  | [d] => { results := [.lit (.bool true)], args := [d] }
  | _ => none }
def fnExactAreClaimsRow : OpenClaim := { program := "ytnnieeojfdjcoaa", sum := "6e7526a0b9283cff74d61796328b27dc46851d1f942a7321d19a89b47c6aa679", func := "loop.example/g03007/laws.FnExactAreClaims", spec := "fnExactAreClaims", unfollowed := true, recurses := true, apart := false }
def FnExactAreClaimsSaid : Prop := fnExactAreClaimsRow.holds Try.pinned (OpenSpec.ofChange fnExactAreClaimsSpec)

/-- ITS FALSE NEIGHBOUR: 'it returns false'. Refute it at one input. -/
def fnExactAreClaimsWrong : ChangeSpec := { name := "fnExactAreClaims", fn := fun _ => fun
  | [d] => { results := [.lit (.bool false)], args := [d] }
  | _ => none }
def FnExactAreClaimsWrongFalsely : Prop := fnExactAreClaimsRow.holds Try.pinned (OpenSpec.ofChange fnExactAreClaimsWrong)

/-- 'laws.FnExactFindClaim': WHATEVER THE INPUT: true; the input reads as it did. -/
def fnExactFindClaimSpec : ChangeSpec := { name := "fnExactFindClaim", fn := fun _ => fun
  | [d1, d2] => { results := [.lit (.bool true)], args := [d1, d2] }
  | _ => none }
def fnExactFindClaimRow : OpenClaim := { program := "ytnnieeojfdjcoaa", sum := "6e7526a0b9283cff74d61796328b27dc46851d1f942a7321d19a89b47c6aa679", func := "loop.example/g03007/laws.FnExactFindClaim", spec := "fnExactFindClaim", unfollowed := true, recurses := true, apart := false }
def FnExactFindClaimSaid : Prop := fnExactFindClaimRow.holds Try.pinned (OpenSpec.ofChange fnExactFindClaimSpec)

/-- ITS FALSE NEIGHBOUR: 'it returns false'. Refute it at one input. -/
def fnExactFindClaimWrong : ChangeSpec := { name := "fnExactFindClaim", fn := fun _ => fun
  | [d1, d2] => { results := [.lit (.bool false)], args := [d1, d2] }
  | _ => none }
def FnExactFindClaimWrongFalsely : Prop := fnExactFindClaimRow.holds Try.pinned (OpenSpec.ofChange fnExactFindClaimWrong)

/-- 'laws.FnExactAddClaim': WHATEVER THE INPUT: true; the input reads as it did. -/
def fnExactAddClaimSpec : ChangeSpec := { name := "fnExactAddClaim", fn := fun _ => fun
  | [d1, d2] => { results := [.lit (.bool true)], args := [d1, d2] }
  | _ => none }
def fnExactAddClaimRow : OpenClaim := { program := "ytnnieeojfdjcoaa", sum := "6e7526a0b9283cff74d61796328b27dc46851d1f942a7321d19a89b47c6aa679", func := "loop.example/g03007/laws.FnExactAddClaim", spec := "fnExactAddClaim", unfollowed := true, recurses := true, apart := false }
def FnExactAddClaimSaid : Prop := fnExactAddClaimRow.holds Try.pinned (OpenSpec.ofChange fnExactAddClaimSpec)

/-- ITS FALSE NEIGHBOUR: 'it returns false'. Refute it at one input. -/
def fnExactAddClaimWrong : ChangeSpec := { name := "fnExactAddClaim", fn := fun _ => fun
  | [d1, d2] => { results := [.lit (.bool false)], args := [d1, d2] }
  | _ => none }
def FnExactAddClaimWrongFalsely : Prop := fnExactAddClaimRow.holds Try.pinned (OpenSpec.ofChange fnExactAddClaimWrong)

/-- 'laws.FnExactSetState': WHATEVER THE INPUT: true; the input reads as it did. -/
def fnExactSetStateSpec : ChangeSpec := { name := "fnExactSetState", fn := fun _ => fun
  | [d1, d2, d3] => { results := [.lit (.bool true)], args := [d1, d2, d3] }
  | _ => none }
def fnExactSetStateRow : OpenClaim := { program := "ytnnieeojfdjcoaa", sum := "6e7526a0b9283cff74d61796328b27dc46851d1f942a7321d19a89b47c6aa679", func := "loop.example/g03007/laws.FnExactSetState", spec := "fnExactSetState", unfollowed := true, recurses := true, apart := false }
def FnExactSetStateSaid : Prop := fnExactSetStateRow.holds Try.pinned (OpenSpec.ofChange fnExactSetStateSpec)

/-- ITS FALSE NEIGHBOUR: 'it returns false'. Refute it at one input. -/
def fnExactSetStateWrong : ChangeSpec := { name := "fnExactSetState", fn := fun _ => fun
  | [d1, d2, d3] => { results := [.lit (.bool false)], args := [d1, d2, d3] }
  | _ => none }
def FnExactSetStateWrongFalsely : Prop := fnExactSetStateRow.holds Try.pinned (OpenSpec.ofChange fnExactSetStateWrong)

/-- 'laws.FnExactClaimsFor': WHATEVER THE INPUT: true; the input reads as it did. -/
def fnExactClaimsForSpec : ChangeSpec := { name := "fnExactClaimsFor", fn := fun _ => fun
  | [d1, d2] => { results := [.lit (.bool true)], args := [d1, d2] }
  | _ => none }
def fnExactClaimsForRow : OpenClaim := { program := "ytnnieeojfdjcoaa", sum := "6e7526a0b9283cff74d61796328b27dc46851d1f942a7321d19a89b47c6aa679", func := "loop.example/g03007/laws.FnExactClaimsFor", spec := "fnExactClaimsFor", apart := false }
def FnExactClaimsForSaid : Prop := fnExactClaimsForRow.holds Try.pinned (OpenSpec.ofChange fnExactClaimsForSpec)

/-- ITS FALSE NEIGHBOUR: 'it returns false'. Refute it at one input. -/
def fnExactClaimsForWrong : ChangeSpec := { name := "fnExactClaimsFor", fn := fun _ => fun
  | [d1, d2] => { results := [.lit (.bool false)], args := [d1, d2] }
  | _ => none }
def FnExactClaimsForWrongFalsely : Prop := fnExactClaimsForRow.holds Try.pinned (OpenSpec.ofChange fnExactClaimsForWrong)

/-- 'laws.FnExactFirstProved': WHATEVER THE INPUT: true; the input reads as it did. -/
def fnExactFirstProvedSpec : ChangeSpec := { name := "fnExactFirstProved", fn := fun _ => fun
  | [d1, d2] => { results := [.lit (.bool true)], args := [d1, d2] }
  | _ => none }
def fnExactFirstProvedRow : OpenClaim := { program := "ytnnieeojfdjcoaa", sum := "6e7526a0b9283cff74d61796328b27dc46851d1f942a7321d19a89b47c6aa679", func := "loop.example/g03007/laws.FnExactFirstProved", spec := "fnExactFirstProved", apart := false }
def FnExactFirstProvedSaid : Prop := fnExactFirstProvedRow.holds Try.pinned (OpenSpec.ofChange fnExactFirstProvedSpec)

/-- ITS FALSE NEIGHBOUR: 'it returns false'. Refute it at one input. -/
def fnExactFirstProvedWrong : ChangeSpec := { name := "fnExactFirstProved", fn := fun _ => fun
  | [d1, d2] => { results := [.lit (.bool false)], args := [d1, d2] }
  | _ => none }
def FnExactFirstProvedWrongFalsely : Prop := fnExactFirstProvedRow.holds Try.pinned (OpenSpec.ofChange fnExactFirstProvedWrong)

/-- 'laws.FnExactAreSlots': WHATEVER THE INPUT: true; the input reads as it did. -/
def fnExactAreSlotsSpec : ChangeSpec := { name := "fnExactAreSlots", fn := fun _ => fun
  | [d] => { results := [.lit (.bool true)], args := [d] }
  | _ => none }
def fnExactAreSlotsRow : OpenClaim := { program := "ytnnieeojfdjcoaa", sum := "6e7526a0b9283cff74d61796328b27dc46851d1f942a7321d19a89b47c6aa679", func := "loop.example/g03007/laws.FnExactAreSlots", spec := "fnExactAreSlots", unfollowed := true, recurses := true, apart := false }
def FnExactAreSlotsSaid : Prop := fnExactAreSlotsRow.holds Try.pinned (OpenSpec.ofChange fnExactAreSlotsSpec)

/-- ITS FALSE NEIGHBOUR: 'it returns false'. Refute it at one input. -/
def fnExactAreSlotsWrong : ChangeSpec := { name := "fnExactAreSlots", fn := fun _ => fun
  | [d] => { results := [.lit (.bool false)], args := [d] }
  | _ => none }
def FnExactAreSlotsWrongFalsely : Prop := fnExactAreSlotsRow.holds Try.pinned (OpenSpec.ofChange fnExactAreSlotsWrong)

/-- 'laws.FnExactSlotOf': WHATEVER THE INPUT: true; the input reads as it did. -/
def fnExactSlotOfSpec : ChangeSpec := { name := "fnExactSlotOf", fn := fun _ => fun
  | [d1, d2] => { results := [.lit (.bool true)], args := [d1, d2] }
  | _ => none }
def fnExactSlotOfRow : OpenClaim := { program := "ytnnieeojfdjcoaa", sum := "6e7526a0b9283cff74d61796328b27dc46851d1f942a7321d19a89b47c6aa679", func := "loop.example/g03007/laws.FnExactSlotOf", spec := "fnExactSlotOf", unfollowed := true, recurses := true, apart := false }
def FnExactSlotOfSaid : Prop := fnExactSlotOfRow.holds Try.pinned (OpenSpec.ofChange fnExactSlotOfSpec)

/-- ITS FALSE NEIGHBOUR: 'it returns false'. Refute it at one input. -/
def fnExactSlotOfWrong : ChangeSpec := { name := "fnExactSlotOf", fn := fun _ => fun
  | [d1, d2] => { results := [.lit (.bool false)], args := [d1, d2] }
  | _ => none }
def FnExactSlotOfWrongFalsely : Prop := fnExactSlotOfRow.holds Try.pinned (OpenSpec.ofChange fnExactSlotOfWrong)

/-- 'laws.FnExactSmallestFree': WHATEVER THE INPUT: true; the input reads as it did. -/
def fnExactSmallestFreeSpec : ChangeSpec := { name := "fnExactSmallestFree", fn := fun _ => fun
  | [d1, d2] => { results := [.lit (.bool true)], args := [d1, d2] }
  | _ => none }
def fnExactSmallestFreeRow : OpenClaim := { program := "ytnnieeojfdjcoaa", sum := "6e7526a0b9283cff74d61796328b27dc46851d1f942a7321d19a89b47c6aa679", func := "loop.example/g03007/laws.FnExactSmallestFree", spec := "fnExactSmallestFree", unfollowed := true, recurses := true, apart := false }
def FnExactSmallestFreeSaid : Prop := fnExactSmallestFreeRow.holds Try.pinned (OpenSpec.ofChange fnExactSmallestFreeSpec)

/-- ITS FALSE NEIGHBOUR: 'it returns false'. Refute it at one input. -/
def fnExactSmallestFreeWrong : ChangeSpec := { name := "fnExactSmallestFree", fn := fun _ => fun
  | [d1, d2] => { results := [.lit (.bool false)], args := [d1, d2] }
  | _ => none }
def FnExactSmallestFreeWrongFalsely : Prop := fnExactSmallestFreeRow.holds Try.pinned (OpenSpec.ofChange fnExactSmallestFreeWrong)

/-- 'laws.FnExactPutAway': WHATEVER THE INPUT: true; the input reads as it did. -/
def fnExactPutAwaySpec : ChangeSpec := { name := "fnExactPutAway", fn := fun _ => fun
  | [d1, d2] => { results := [.lit (.bool true)], args := [d1, d2] }
  | _ => none }
def fnExactPutAwayRow : OpenClaim := { program := "ytnnieeojfdjcoaa", sum := "6e7526a0b9283cff74d61796328b27dc46851d1f942a7321d19a89b47c6aa679", func := "loop.example/g03007/laws.FnExactPutAway", spec := "fnExactPutAway", unfollowed := true, recurses := true, apart := false }
def FnExactPutAwaySaid : Prop := fnExactPutAwayRow.holds Try.pinned (OpenSpec.ofChange fnExactPutAwaySpec)

/-- ITS FALSE NEIGHBOUR: 'it returns false'. Refute it at one input. -/
def fnExactPutAwayWrong : ChangeSpec := { name := "fnExactPutAway", fn := fun _ => fun
  | [d1, d2] => { results := [.lit (.bool false)], args := [d1, d2] }
  | _ => none }
def FnExactPutAwayWrongFalsely : Prop := fnExactPutAwayRow.holds Try.pinned (OpenSpec.ofChange fnExactPutAwayWrong)

/-- 'laws.FnExactTakeOut': WHATEVER THE INPUT: true; the input reads as it did. -/
def fnExactTakeOutSpec : ChangeSpec := { name := "fnExactTakeOut", fn := fun _ => fun
  | [d1, d2] => { results := [.lit (.bool true)], args := [d1, d2] }
  | _ => none }
def fnExactTakeOutRow : OpenClaim := { program := "ytnnieeojfdjcoaa", sum := "6e7526a0b9283cff74d61796328b27dc46851d1f942a7321d19a89b47c6aa679", func := "loop.example/g03007/laws.FnExactTakeOut", spec := "fnExactTakeOut", unfollowed := true, recurses := true, apart := false }
def FnExactTakeOutSaid : Prop := fnExactTakeOutRow.holds Try.pinned (OpenSpec.ofChange fnExactTakeOutSpec)

/-- ITS FALSE NEIGHBOUR: 'it returns false'. Refute it at one input. -/
def fnExactTakeOutWrong : ChangeSpec := { name := "fnExactTakeOut", fn := fun _ => fun
  | [d1, d2] => { results := [.lit (.bool false)], args := [d1, d2] }
  | _ => none }
def FnExactTakeOutWrongFalsely : Prop := fnExactTakeOutRow.holds Try.pinned (OpenSpec.ofChange fnExactTakeOutWrong)

/-- 'laws.FnExactFreeSlots': WHATEVER THE INPUT: true; the input reads as it did. -/
def fnExactFreeSlotsSpec : ChangeSpec := { name := "fnExactFreeSlots", fn := fun _ => fun
  | [d] => { results := [.lit (.bool true)], args := [d] }
  | _ => none }
def fnExactFreeSlotsRow : OpenClaim := { program := "ytnnieeojfdjcoaa", sum := "6e7526a0b9283cff74d61796328b27dc46851d1f942a7321d19a89b47c6aa679", func := "loop.example/g03007/laws.FnExactFreeSlots", spec := "fnExactFreeSlots", unfollowed := true, recurses := true, apart := false }
def FnExactFreeSlotsSaid : Prop := fnExactFreeSlotsRow.holds Try.pinned (OpenSpec.ofChange fnExactFreeSlotsSpec)

/-- ITS FALSE NEIGHBOUR: 'it returns false'. Refute it at one input. -/
def fnExactFreeSlotsWrong : ChangeSpec := { name := "fnExactFreeSlots", fn := fun _ => fun
  | [d] => { results := [.lit (.bool false)], args := [d] }
  | _ => none }
def FnExactFreeSlotsWrongFalsely : Prop := fnExactFreeSlotsRow.holds Try.pinned (OpenSpec.ofChange fnExactFreeSlotsWrong)

/-- 'laws.FnExactPutAll': WHATEVER THE INPUT: true; the input reads as it did. -/
def fnExactPutAllSpec : ChangeSpec := { name := "fnExactPutAll", fn := fun _ => fun
  | [d1, d2] => { results := [.lit (.bool true)], args := [d1, d2] }
  | _ => none }
def fnExactPutAllRow : OpenClaim := { program := "ytnnieeojfdjcoaa", sum := "6e7526a0b9283cff74d61796328b27dc46851d1f942a7321d19a89b47c6aa679", func := "loop.example/g03007/laws.FnExactPutAll", spec := "fnExactPutAll", unfollowed := true, recurses := true, apart := false }
def FnExactPutAllSaid : Prop := fnExactPutAllRow.holds Try.pinned (OpenSpec.ofChange fnExactPutAllSpec)

/-- ITS FALSE NEIGHBOUR: 'it returns false'. Refute it at one input. -/
def fnExactPutAllWrong : ChangeSpec := { name := "fnExactPutAll", fn := fun _ => fun
  | [d1, d2] => { results := [.lit (.bool false)], args := [d1, d2] }
  | _ => none }
def FnExactPutAllWrongFalsely : Prop := fnExactPutAllRow.holds Try.pinned (OpenSpec.ofChange fnExactPutAllWrong)

/-- 'laws.FnExactCanHold': WHATEVER THE INPUT: true; the input reads as it did. -/
def fnExactCanHoldSpec : ChangeSpec := { name := "fnExactCanHold", fn := fun _ => fun
  | [d1, d2] => { results := [.lit (.bool true)], args := [d1, d2] }
  | _ => none }
def fnExactCanHoldRow : OpenClaim := { program := "ytnnieeojfdjcoaa", sum := "6e7526a0b9283cff74d61796328b27dc46851d1f942a7321d19a89b47c6aa679", func := "loop.example/g03007/laws.FnExactCanHold", spec := "fnExactCanHold", unfollowed := true, recurses := true, apart := false }
def FnExactCanHoldSaid : Prop := fnExactCanHoldRow.holds Try.pinned (OpenSpec.ofChange fnExactCanHoldSpec)

/-- ITS FALSE NEIGHBOUR: 'it returns false'. Refute it at one input. -/
def fnExactCanHoldWrong : ChangeSpec := { name := "fnExactCanHold", fn := fun _ => fun
  | [d1, d2] => { results := [.lit (.bool false)], args := [d1, d2] }
  | _ => none }
def FnExactCanHoldWrongFalsely : Prop := fnExactCanHoldRow.holds Try.pinned (OpenSpec.ofChange fnExactCanHoldWrong)

/-- 'laws.FnExactWasted': WHATEVER THE INPUT: true; the input reads as it did. -/
def fnExactWastedSpec : ChangeSpec := { name := "fnExactWasted", fn := fun _ => fun
  | [d1, d2] => { results := [.lit (.bool true)], args := [d1, d2] }
  | _ => none }
def fnExactWastedRow : OpenClaim := { program := "ytnnieeojfdjcoaa", sum := "6e7526a0b9283cff74d61796328b27dc46851d1f942a7321d19a89b47c6aa679", func := "loop.example/g03007/laws.FnExactWasted", spec := "fnExactWasted", unfollowed := true, recurses := true, apart := false }
def FnExactWastedSaid : Prop := fnExactWastedRow.holds Try.pinned (OpenSpec.ofChange fnExactWastedSpec)

/-- ITS FALSE NEIGHBOUR: 'it returns false'. Refute it at one input. -/
def fnExactWastedWrong : ChangeSpec := { name := "fnExactWasted", fn := fun _ => fun
  | [d1, d2] => { results := [.lit (.bool false)], args := [d1, d2] }
  | _ => none }
def FnExactWastedWrongFalsely : Prop := fnExactWastedRow.holds Try.pinned (OpenSpec.ofChange fnExactWastedWrong)

/-- 'laws.FnExactTighten': WHATEVER THE INPUT: true; the input reads as it did. -/
def fnExactTightenSpec : ChangeSpec := { name := "fnExactTighten", fn := fun _ => fun
  | [d1, d2] => { results := [.lit (.bool true)], args := [d1, d2] }
  | _ => none }
def fnExactTightenRow : OpenClaim := { program := "ytnnieeojfdjcoaa", sum := "6e7526a0b9283cff74d61796328b27dc46851d1f942a7321d19a89b47c6aa679", func := "loop.example/g03007/laws.FnExactTighten", spec := "fnExactTighten", unfollowed := true, recurses := true, apart := false }
def FnExactTightenSaid : Prop := fnExactTightenRow.holds Try.pinned (OpenSpec.ofChange fnExactTightenSpec)

/-- ITS FALSE NEIGHBOUR: 'it returns false'. Refute it at one input. -/
def fnExactTightenWrong : ChangeSpec := { name := "fnExactTighten", fn := fun _ => fun
  | [d1, d2] => { results := [.lit (.bool false)], args := [d1, d2] }
  | _ => none }
def FnExactTightenWrongFalsely : Prop := fnExactTightenRow.holds Try.pinned (OpenSpec.ofChange fnExactTightenWrong)

/-- 'laws.FnExactLargestFree': WHATEVER THE INPUT: true; the input reads as it did. -/
def fnExactLargestFreeSpec : ChangeSpec := { name := "fnExactLargestFree", fn := fun _ => fun
  | [d] => { results := [.lit (.bool true)], args := [d] }
  | _ => none }
def fnExactLargestFreeRow : OpenClaim := { program := "ytnnieeojfdjcoaa", sum := "6e7526a0b9283cff74d61796328b27dc46851d1f942a7321d19a89b47c6aa679", func := "loop.example/g03007/laws.FnExactLargestFree", spec := "fnExactLargestFree", unfollowed := true, recurses := true, apart := false }
def FnExactLargestFreeSaid : Prop := fnExactLargestFreeRow.holds Try.pinned (OpenSpec.ofChange fnExactLargestFreeSpec)

/-- ITS FALSE NEIGHBOUR: 'it returns false'. Refute it at one input. -/
def fnExactLargestFreeWrong : ChangeSpec := { name := "fnExactLargestFree", fn := fun _ => fun
  | [d] => { results := [.lit (.bool false)], args := [d] }
  | _ => none }
def FnExactLargestFreeWrongFalsely : Prop := fnExactLargestFreeRow.holds Try.pinned (OpenSpec.ofChange fnExactLargestFreeWrong)

/- THE SECOND FORM. 'bulk': how many values and letters a reading holds, each counted each time it is reached (what is shared counts as often as it is met; a slice's spare places count too). A statement '..UptoSaid' is the law's where the arguments, and the package variables that the reading takes, are together of bulk at most 1048576: NARROWER than '..Said'. Prove '..Said' where nothing that the law and all that it calls make is longer than what came in: it says more and counts as full. Else prove '..UptoSaid'. A law counts once. -/
mutual
def uptoBulk {H : Type} : DataW H → Nat
  | .lit (.string bytes) => bytes.length + 1
  | .lit _ => 1
  | .nil => 1
  | .ptr d => uptoBulk d + 1
  | .slice elems spare => uptoBulkAll elems + uptoBulkAll spare + 1
  | .agg parts => uptoBulkAll parts + 1
  | .iface _ d => uptoBulk d + 1
  | .map entries => uptoBulkEntries entries + 1
  | .held _ => 1
def uptoBulkAll {H : Type} : List (DataW H) → Nat
  | [] => 0
  | d :: r => uptoBulk d + uptoBulkAll r
def uptoBulkEntries {H : Type} : List (Lit × DataW H) → Nat
  | [] => 0
  | x :: r => uptoBulkEntry x + uptoBulkEntries r
def uptoBulkEntry {H : Type} : Lit × DataW H → Nat
  | (.string bytes, d) => bytes.length + uptoBulk d + 1
  | (_, d) => uptoBulk d + 1
 end
def uptoSmall : (H : Type) → List (DataW H) → Bool := fun _ ds => decide (uptoBulkAll ds ≤ 1048576)
def OpenSpec.upto (s : _root_.Go.ChangeSpec) : _root_.Go.OpenSpec := { _root_.Go.OpenSpec.ofChange s with cond := some uptoSmall }

/-- 'laws.FnExactAreMarks', WHERE WHAT IT READS IS OF BULK AT MOST 1048576: true; the input reads as it did. -/
def fnExactAreMarksUptoRow : OpenClaim := { program := "ytnnieeojfdjcoaa", sum := "6e7526a0b9283cff74d61796328b27dc46851d1f942a7321d19a89b47c6aa679", func := "loop.example/g03007/laws.FnExactAreMarks", spec := "fnExactAreMarks", unfollowed := true, recurses := true, apart := false, narrowed := true }
def FnExactAreMarksUptoSaid : Prop := fnExactAreMarksUptoRow.holds Try.pinned (OpenSpec.upto fnExactAreMarksSpec)

/-- 'laws.FnExactAnswerOf', WHERE WHAT IT READS IS OF BULK AT MOST 1048576: true; the input reads as it did. -/
def fnExactAnswerOfUptoRow : OpenClaim := { program := "ytnnieeojfdjcoaa", sum := "6e7526a0b9283cff74d61796328b27dc46851d1f942a7321d19a89b47c6aa679", func := "loop.example/g03007/laws.FnExactAnswerOf", spec := "fnExactAnswerOf", apart := false, narrowed := true }
def FnExactAnswerOfUptoSaid : Prop := fnExactAnswerOfUptoRow.holds Try.pinned (OpenSpec.upto fnExactAnswerOfSpec)

/-- 'laws.FnExactSealMarks', WHERE WHAT IT READS IS OF BULK AT MOST 1048576: true; the input reads as it did. -/
def fnExactSealMarksUptoRow : OpenClaim := { program := "ytnnieeojfdjcoaa", sum := "6e7526a0b9283cff74d61796328b27dc46851d1f942a7321d19a89b47c6aa679", func := "loop.example/g03007/laws.FnExactSealMarks", spec := "fnExactSealMarks", unfollowed := true, recurses := true, apart := false, narrowed := true }
def FnExactSealMarksUptoSaid : Prop := fnExactSealMarksUptoRow.holds Try.pinned (OpenSpec.upto fnExactSealMarksSpec)

/-- 'laws.FnExactOpensSeal', WHERE WHAT IT READS IS OF BULK AT MOST 1048576: true; the input reads as it did. -/
def fnExactOpensSealUptoRow : OpenClaim := { program := "ytnnieeojfdjcoaa", sum := "6e7526a0b9283cff74d61796328b27dc46851d1f942a7321d19a89b47c6aa679", func := "loop.example/g03007/laws.FnExactOpensSeal", spec := "fnExactOpensSeal", unfollowed := true, recurses := true, apart := false, narrowed := true }
def FnExactOpensSealUptoSaid : Prop := fnExactOpensSealUptoRow.holds Try.pinned (OpenSpec.upto fnExactOpensSealSpec)

/-- 'laws.FnExactQuestionFor', WHERE WHAT IT READS IS OF BULK AT MOST 1048576: true; the input reads as it did. -/
def fnExactQuestionForUptoRow : OpenClaim := { program := "ytnnieeojfdjcoaa", sum := "6e7526a0b9283cff74d61796328b27dc46851d1f942a7321d19a89b47c6aa679", func := "loop.example/g03007/laws.FnExactQuestionFor", spec := "fnExactQuestionFor", unfollowed := true, recurses := true, apart := false, narrowed := true }
def FnExactQuestionForUptoSaid : Prop := fnExactQuestionForUptoRow.holds Try.pinned (OpenSpec.upto fnExactQuestionForSpec)

/-- 'laws.FnExactPutMark', WHERE WHAT IT READS IS OF BULK AT MOST 1048576: true; the input reads as it did. -/
def fnExactPutMarkUptoRow : OpenClaim := { program := "ytnnieeojfdjcoaa", sum := "6e7526a0b9283cff74d61796328b27dc46851d1f942a7321d19a89b47c6aa679", func := "loop.example/g03007/laws.FnExactPutMark", spec := "fnExactPutMark", unfollowed := true, recurses := true, apart := false, narrowed := true }
def FnExactPutMarkUptoSaid : Prop := fnExactPutMarkUptoRow.holds Try.pinned (OpenSpec.upto fnExactPutMarkSpec)

/-- 'laws.FnExactIsTrial', WHERE WHAT IT READS IS OF BULK AT MOST 1048576: true; the input reads as it did. -/
def fnExactIsTrialUptoRow : OpenClaim := { program := "ytnnieeojfdjcoaa", sum := "6e7526a0b9283cff74d61796328b27dc46851d1f942a7321d19a89b47c6aa679", func := "loop.example/g03007/laws.FnExactIsTrial", spec := "fnExactIsTrial", apart := false, narrowed := true }
def FnExactIsTrialUptoSaid : Prop := fnExactIsTrialUptoRow.holds Try.pinned (OpenSpec.upto fnExactIsTrialSpec)

/-- 'laws.FnExactNeedFor', WHERE WHAT IT READS IS OF BULK AT MOST 1048576: true; the input reads as it did. -/
def fnExactNeedForUptoRow : OpenClaim := { program := "ytnnieeojfdjcoaa", sum := "6e7526a0b9283cff74d61796328b27dc46851d1f942a7321d19a89b47c6aa679", func := "loop.example/g03007/laws.FnExactNeedFor", spec := "fnExactNeedFor", unfollowed := true, recurses := true, apart := false, narrowed := true }
def FnExactNeedForUptoSaid : Prop := fnExactNeedForUptoRow.holds Try.pinned (OpenSpec.upto fnExactNeedForSpec)

/-- 'laws.FnExactTrialState', WHERE WHAT IT READS IS OF BULK AT MOST 1048576: true; the input reads as it did. -/
def fnExactTrialStateUptoRow : OpenClaim := { program := "ytnnieeojfdjcoaa", sum := "6e7526a0b9283cff74d61796328b27dc46851d1f942a7321d19a89b47c6aa679", func := "loop.example/g03007/laws.FnExactTrialState", spec := "fnExactTrialState", unfollowed := true, recurses := true, apart := false, narrowed := true }
def FnExactTrialStateUptoSaid : Prop := fnExactTrialStateUptoRow.holds Try.pinned (OpenSpec.upto fnExactTrialStateSpec)

/-- 'laws.FnExactNextQuestion', WHERE WHAT IT READS IS OF BULK AT MOST 1048576: true; the input reads as it did. -/
def fnExactNextQuestionUptoRow : OpenClaim := { program := "ytnnieeojfdjcoaa", sum := "6e7526a0b9283cff74d61796328b27dc46851d1f942a7321d19a89b47c6aa679", func := "loop.example/g03007/laws.FnExactNextQuestion", spec := "fnExactNextQuestion", unfollowed := true, recurses := true, apart := false, narrowed := true }
def FnExactNextQuestionUptoSaid : Prop := fnExactNextQuestionUptoRow.holds Try.pinned (OpenSpec.upto fnExactNextQuestionSpec)

/-- 'laws.FnExactGiveAnswer', WHERE WHAT IT READS IS OF BULK AT MOST 1048576: true; the input reads as it did. -/
def fnExactGiveAnswerUptoRow : OpenClaim := { program := "ytnnieeojfdjcoaa", sum := "6e7526a0b9283cff74d61796328b27dc46851d1f942a7321d19a89b47c6aa679", func := "loop.example/g03007/laws.FnExactGiveAnswer", spec := "fnExactGiveAnswer", unfollowed := true, recurses := true, apart := false, narrowed := true }
def FnExactGiveAnswerUptoSaid : Prop := fnExactGiveAnswerUptoRow.holds Try.pinned (OpenSpec.upto fnExactGiveAnswerSpec)

/-- 'laws.FnExactAnswerAll', WHERE WHAT IT READS IS OF BULK AT MOST 1048576: true; the input reads as it did. -/
def fnExactAnswerAllUptoRow : OpenClaim := { program := "ytnnieeojfdjcoaa", sum := "6e7526a0b9283cff74d61796328b27dc46851d1f942a7321d19a89b47c6aa679", func := "loop.example/g03007/laws.FnExactAnswerAll", spec := "fnExactAnswerAll", unfollowed := true, recurses := true, apart := false, narrowed := true }
def FnExactAnswerAllUptoSaid : Prop := fnExactAnswerAllUptoRow.holds Try.pinned (OpenSpec.upto fnExactAnswerAllSpec)

/-- 'laws.FnExactAreClaims', WHERE WHAT IT READS IS OF BULK AT MOST 1048576: true; the input reads as it did. -/
def fnExactAreClaimsUptoRow : OpenClaim := { program := "ytnnieeojfdjcoaa", sum := "6e7526a0b9283cff74d61796328b27dc46851d1f942a7321d19a89b47c6aa679", func := "loop.example/g03007/laws.FnExactAreClaims", spec := "fnExactAreClaims", unfollowed := true, recurses := true, apart := false, narrowed := true }
def FnExactAreClaimsUptoSaid : Prop := fnExactAreClaimsUptoRow.holds Try.pinned (OpenSpec.upto fnExactAreClaimsSpec)

/-- 'laws.FnExactFindClaim', WHERE WHAT IT READS IS OF BULK AT MOST 1048576: true; the input reads as it did. -/
def fnExactFindClaimUptoRow : OpenClaim := { program := "ytnnieeojfdjcoaa", sum := "6e7526a0b9283cff74d61796328b27dc46851d1f942a7321d19a89b47c6aa679", func := "loop.example/g03007/laws.FnExactFindClaim", spec := "fnExactFindClaim", unfollowed := true, recurses := true, apart := false, narrowed := true }
def FnExactFindClaimUptoSaid : Prop := fnExactFindClaimUptoRow.holds Try.pinned (OpenSpec.upto fnExactFindClaimSpec)

/-- 'laws.FnExactAddClaim', WHERE WHAT IT READS IS OF BULK AT MOST 1048576: true; the input reads as it did. -/
def fnExactAddClaimUptoRow : OpenClaim := { program := "ytnnieeojfdjcoaa", sum := "6e7526a0b9283cff74d61796328b27dc46851d1f942a7321d19a89b47c6aa679", func := "loop.example/g03007/laws.FnExactAddClaim", spec := "fnExactAddClaim", unfollowed := true, recurses := true, apart := false, narrowed := true }
def FnExactAddClaimUptoSaid : Prop := fnExactAddClaimUptoRow.holds Try.pinned (OpenSpec.upto fnExactAddClaimSpec)

/-- 'laws.FnExactSetState', WHERE WHAT IT READS IS OF BULK AT MOST 1048576: true; the input reads as it did. -/
def fnExactSetStateUptoRow : OpenClaim := { program := "ytnnieeojfdjcoaa", sum := "6e7526a0b9283cff74d61796328b27dc46851d1f942a7321d19a89b47c6aa679", func := "loop.example/g03007/laws.FnExactSetState", spec := "fnExactSetState", unfollowed := true, recurses := true, apart := false, narrowed := true }
def FnExactSetStateUptoSaid : Prop := fnExactSetStateUptoRow.holds Try.pinned (OpenSpec.upto fnExactSetStateSpec)

/-- 'laws.FnExactClaimsFor', WHERE WHAT IT READS IS OF BULK AT MOST 1048576: true; the input reads as it did. -/
def fnExactClaimsForUptoRow : OpenClaim := { program := "ytnnieeojfdjcoaa", sum := "6e7526a0b9283cff74d61796328b27dc46851d1f942a7321d19a89b47c6aa679", func := "loop.example/g03007/laws.FnExactClaimsFor", spec := "fnExactClaimsFor", apart := false, narrowed := true }
def FnExactClaimsForUptoSaid : Prop := fnExactClaimsForUptoRow.holds Try.pinned (OpenSpec.upto fnExactClaimsForSpec)

/-- 'laws.FnExactFirstProved', WHERE WHAT IT READS IS OF BULK AT MOST 1048576: true; the input reads as it did. -/
def fnExactFirstProvedUptoRow : OpenClaim := { program := "ytnnieeojfdjcoaa", sum := "6e7526a0b9283cff74d61796328b27dc46851d1f942a7321d19a89b47c6aa679", func := "loop.example/g03007/laws.FnExactFirstProved", spec := "fnExactFirstProved", apart := false, narrowed := true }
def FnExactFirstProvedUptoSaid : Prop := fnExactFirstProvedUptoRow.holds Try.pinned (OpenSpec.upto fnExactFirstProvedSpec)

/-- 'laws.FnExactAreSlots', WHERE WHAT IT READS IS OF BULK AT MOST 1048576: true; the input reads as it did. -/
def fnExactAreSlotsUptoRow : OpenClaim := { program := "ytnnieeojfdjcoaa", sum := "6e7526a0b9283cff74d61796328b27dc46851d1f942a7321d19a89b47c6aa679", func := "loop.example/g03007/laws.FnExactAreSlots", spec := "fnExactAreSlots", unfollowed := true, recurses := true, apart := false, narrowed := true }
def FnExactAreSlotsUptoSaid : Prop := fnExactAreSlotsUptoRow.holds Try.pinned (OpenSpec.upto fnExactAreSlotsSpec)

/-- 'laws.FnExactSlotOf', WHERE WHAT IT READS IS OF BULK AT MOST 1048576: true; the input reads as it did. -/
def fnExactSlotOfUptoRow : OpenClaim := { program := "ytnnieeojfdjcoaa", sum := "6e7526a0b9283cff74d61796328b27dc46851d1f942a7321d19a89b47c6aa679", func := "loop.example/g03007/laws.FnExactSlotOf", spec := "fnExactSlotOf", unfollowed := true, recurses := true, apart := false, narrowed := true }
def FnExactSlotOfUptoSaid : Prop := fnExactSlotOfUptoRow.holds Try.pinned (OpenSpec.upto fnExactSlotOfSpec)

/-- 'laws.FnExactSmallestFree', WHERE WHAT IT READS IS OF BULK AT MOST 1048576: true; the input reads as it did. -/
def fnExactSmallestFreeUptoRow : OpenClaim := { program := "ytnnieeojfdjcoaa", sum := "6e7526a0b9283cff74d61796328b27dc46851d1f942a7321d19a89b47c6aa679", func := "loop.example/g03007/laws.FnExactSmallestFree", spec := "fnExactSmallestFree", unfollowed := true, recurses := true, apart := false, narrowed := true }
def FnExactSmallestFreeUptoSaid : Prop := fnExactSmallestFreeUptoRow.holds Try.pinned (OpenSpec.upto fnExactSmallestFreeSpec)

/-- 'laws.FnExactPutAway', WHERE WHAT IT READS IS OF BULK AT MOST 1048576: true; the input reads as it did. -/
def fnExactPutAwayUptoRow : OpenClaim := { program := "ytnnieeojfdjcoaa", sum := "6e7526a0b9283cff74d61796328b27dc46851d1f942a7321d19a89b47c6aa679", func := "loop.example/g03007/laws.FnExactPutAway", spec := "fnExactPutAway", unfollowed := true, recurses := true, apart := false, narrowed := true }
def FnExactPutAwayUptoSaid : Prop := fnExactPutAwayUptoRow.holds Try.pinned (OpenSpec.upto fnExactPutAwaySpec)

/-- 'laws.FnExactTakeOut', WHERE WHAT IT READS IS OF BULK AT MOST 1048576: true; the input reads as it did. -/
def fnExactTakeOutUptoRow : OpenClaim := { program := "ytnnieeojfdjcoaa", sum := "6e7526a0b9283cff74d61796328b27dc46851d1f942a7321d19a89b47c6aa679", func := "loop.example/g03007/laws.FnExactTakeOut", spec := "fnExactTakeOut", unfollowed := true, recurses := true, apart := false, narrowed := true }
def FnExactTakeOutUptoSaid : Prop := fnExactTakeOutUptoRow.holds Try.pinned (OpenSpec.upto fnExactTakeOutSpec)

/-- 'laws.FnExactFreeSlots', WHERE WHAT IT READS IS OF BULK AT MOST 1048576: true; the input reads as it did. -/
def fnExactFreeSlotsUptoRow : OpenClaim := { program := "ytnnieeojfdjcoaa", sum := "6e7526a0b9283cff74d61796328b27dc46851d1f942a7321d19a89b47c6aa679", func := "loop.example/g03007/laws.FnExactFreeSlots", spec := "fnExactFreeSlots", unfollowed := true, recurses := true, apart := false, narrowed := true }
def FnExactFreeSlotsUptoSaid : Prop := fnExactFreeSlotsUptoRow.holds Try.pinned (OpenSpec.upto fnExactFreeSlotsSpec)

/-- 'laws.FnExactPutAll', WHERE WHAT IT READS IS OF BULK AT MOST 1048576: true; the input reads as it did. -/
def fnExactPutAllUptoRow : OpenClaim := { program := "ytnnieeojfdjcoaa", sum := "6e7526a0b9283cff74d61796328b27dc46851d1f942a7321d19a89b47c6aa679", func := "loop.example/g03007/laws.FnExactPutAll", spec := "fnExactPutAll", unfollowed := true, recurses := true, apart := false, narrowed := true }
def FnExactPutAllUptoSaid : Prop := fnExactPutAllUptoRow.holds Try.pinned (OpenSpec.upto fnExactPutAllSpec)

/-- 'laws.FnExactCanHold', WHERE WHAT IT READS IS OF BULK AT MOST 1048576: true; the input reads as it did. -/
def fnExactCanHoldUptoRow : OpenClaim := { program := "ytnnieeojfdjcoaa", sum := "6e7526a0b9283cff74d61796328b27dc46851d1f942a7321d19a89b47c6aa679", func := "loop.example/g03007/laws.FnExactCanHold", spec := "fnExactCanHold", unfollowed := true, recurses := true, apart := false, narrowed := true }
def FnExactCanHoldUptoSaid : Prop := fnExactCanHoldUptoRow.holds Try.pinned (OpenSpec.upto fnExactCanHoldSpec)

/-- 'laws.FnExactWasted', WHERE WHAT IT READS IS OF BULK AT MOST 1048576: true; the input reads as it did. -/
def fnExactWastedUptoRow : OpenClaim := { program := "ytnnieeojfdjcoaa", sum := "6e7526a0b9283cff74d61796328b27dc46851d1f942a7321d19a89b47c6aa679", func := "loop.example/g03007/laws.FnExactWasted", spec := "fnExactWasted", unfollowed := true, recurses := true, apart := false, narrowed := true }
def FnExactWastedUptoSaid : Prop := fnExactWastedUptoRow.holds Try.pinned (OpenSpec.upto fnExactWastedSpec)

/-- 'laws.FnExactTighten', WHERE WHAT IT READS IS OF BULK AT MOST 1048576: true; the input reads as it did. -/
def fnExactTightenUptoRow : OpenClaim := { program := "ytnnieeojfdjcoaa", sum := "6e7526a0b9283cff74d61796328b27dc46851d1f942a7321d19a89b47c6aa679", func := "loop.example/g03007/laws.FnExactTighten", spec := "fnExactTighten", unfollowed := true, recurses := true, apart := false, narrowed := true }
def FnExactTightenUptoSaid : Prop := fnExactTightenUptoRow.holds Try.pinned (OpenSpec.upto fnExactTightenSpec)

/-- 'laws.FnExactLargestFree', WHERE WHAT IT READS IS OF BULK AT MOST 1048576: true; the input reads as it did. -/
def fnExactLargestFreeUptoRow : OpenClaim := { program := "ytnnieeojfdjcoaa", sum := "6e7526a0b9283cff74d61796328b27dc46851d1f942a7321d19a89b47c6aa679", func := "loop.example/g03007/laws.FnExactLargestFree", spec := "fnExactLargestFree", unfollowed := true, recurses := true, apart := false, narrowed := true }
def FnExactLargestFreeUptoSaid : Prop := fnExactLargestFreeUptoRow.holds Try.pinned (OpenSpec.upto fnExactLargestFreeSpec)

end Rows
end Go.Proofs.Ytnnieeojfdjcoaa
