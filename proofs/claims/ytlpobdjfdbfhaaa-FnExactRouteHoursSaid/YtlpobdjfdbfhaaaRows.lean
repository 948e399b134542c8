/-
  No cell of these rows narrows 'for every input' (looked for: loops, veiled, ifaces, maps, wideKeys, modest, calm, conditions, laid).
  DERIVED. THE GIVEN ROWS OF THIS SEAT. 28 by the template 'for every input the law returns true; each argument reads behind the call as it read before'; 0 by the template 'total and deterministic' (their statements: YtlpobdjfdbfhaaaTotals.lean).
  GIVEN WITH THE SEED: the statements are not yours to turn. If you find one false, say at which input.
  Laid BY PROGRAM, IN A SANDBOX (cutbox-rows.mjs): the forced cells as the released guide's own fill.sh prints them over the translation b59040fddeffe81d… (all of the seat's roots in one cut). By AI agents, Wed Nov 11 2026. No macro, syntax, notation, axiom, sorry.
-/
import Derived.Test.YtlpobdjfdbfhaaaChecked
import GoSem.Claim
import GoSem.ClaimJoined
import GoSem.ClaimMapViews
import Derived.JoinedTies
import Derived.KernelRfl
namespace Go.Proofs.Ytlpobdjfdbfhaaa
/- THE CELL 'sum', in the pinned program and in every row, IS THE sha256 OF THE DUMP (.gsa) THAT YtlpobdjfdbfhaaaProg.lean LOADS. Nothing in Lean hashes anything: it is a label: what it is worth is what the hold of that sum in a sandbox is worth. -/
noncomputable def Try.pinned : Pinned := { name := "ytlpobdjfdbfhaaa", sum := "b59040fddeffe81dab66e01f33ec6feae7f206cbb91cd17f0e19c9ae01037ef3", checked := Try.checked }
namespace Rows
def none {H : Type} : Left H := { results := [], args := [] }

/-- 'laws.FnExactIsFind': WHATEVER THE INPUT: true; the input reads as it did. -/
def fnExactIsFindSpec : ChangeSpec := { name := "fnExactIsFind", fn := fun _ => fun
  | [d] => { results := [.lit (.bool true)], args := [d] }
  | _ => none }
def fnExactIsFindRow : OpenClaim := { program := "ytlpobdjfdbfhaaa", sum := "b59040fddeffe81dab66e01f33ec6feae7f206cbb91cd17f0e19c9ae01037ef3", func := "loop.example/g03007/laws.FnExactIsFind", spec := "fnExactIsFind", unfollowed := true, recurses := true, apart := false }
def FnExactIsFindSaid : Prop := fnExactIsFindRow.holds Try.pinned (OpenSpec.ofChange fnExactIsFindSpec)

/-- ITS FALSE NEIGHBOUR: 'it returns false'. Refute it at one input. -/
def fnExactIsFindWrong : ChangeSpec := { name := "fnExactIsFind", fn := fun _ => fun
  | [d] => { results := [.lit (.bool false)], args := [d] }
  | _ => none }
def FnExactIsFindWrongFalsely : Prop := fnExactIsFindRow.holds Try.pinned (OpenSpec.ofChange fnExactIsFindWrong)

/-- 'laws.FnExactAreFinds': WHATEVER THE INPUT: true; the input reads as it did. -/
def fnExactAreFindsSpec : ChangeSpec := { name := "fnExactAreFinds", fn := fun _ => fun
  | [d] => { results := [.lit (.bool true)], args := [d] }
  | _ => none }
def fnExactAreFindsRow : OpenClaim := { program := "ytlpobdjfdbfhaaa", sum := "b59040fddeffe81dab66e01f33ec6feae7f206cbb91cd17f0e19c9ae01037ef3", func := "loop.example/g03007/laws.FnExactAreFinds", spec := "fnExactAreFinds", unfollowed := true, recurses := true, apart := false }
def FnExactAreFindsSaid : Prop := fnExactAreFindsRow.holds Try.pinned (OpenSpec.ofChange fnExactAreFindsSpec)

/-- ITS FALSE NEIGHBOUR: 'it returns false'. Refute it at one input. -/
def fnExactAreFindsWrong : ChangeSpec := { name := "fnExactAreFinds", fn := fun _ => fun
  | [d] => { results := [.lit (.bool false)], args := [d] }
  | _ => none }
def FnExactAreFindsWrongFalsely : Prop := fnExactAreFindsRow.holds Try.pinned (OpenSpec.ofChange fnExactAreFindsWrong)

/-- 'laws.FnExactFindThing': WHATEVER THE INPUT: true; the input reads as it did. -/
def fnExactFindThingSpec : ChangeSpec := { name := "fnExactFindThing", fn := fun _ => fun
  | [d1, d2] => { results := [.lit (.bool true)], args := [d1, d2] }
  | _ => none }
def fnExactFindThingRow : OpenClaim := { program := "ytlpobdjfdbfhaaa", sum := "b59040fddeffe81dab66e01f33ec6feae7f206cbb91cd17f0e19c9ae01037ef3", func := "loop.example/g03007/laws.FnExactFindThing", spec := "fnExactFindThing", unfollowed := true, recurses := true, apart := false }
def FnExactFindThingSaid : Prop := fnExactFindThingRow.holds Try.pinned (OpenSpec.ofChange fnExactFindThingSpec)

/-- ITS FALSE NEIGHBOUR: 'it returns false'. Refute it at one input. -/
def fnExactFindThingWrong : ChangeSpec := { name := "fnExactFindThing", fn := fun _ => fun
  | [d1, d2] => { results := [.lit (.bool false)], args := [d1, d2] }
  | _ => none }
def FnExactFindThingWrongFalsely : Prop := fnExactFindThingRow.holds Try.pinned (OpenSpec.ofChange fnExactFindThingWrong)

/-- 'laws.FnExactPutFind': WHATEVER THE INPUT: true; the input reads as it did. -/
def fnExactPutFindSpec : ChangeSpec := { name := "fnExactPutFind", fn := fun _ => fun
  | [d1, d2] => { results := [.lit (.bool true)], args := [d1, d2] }
  | _ => none }
def fnExactPutFindRow : OpenClaim := { program := "ytlpobdjfdbfhaaa", sum := "b59040fddeffe81dab66e01f33ec6feae7f206cbb91cd17f0e19c9ae01037ef3", func := "loop.example/g03007/laws.FnExactPutFind", spec := "fnExactPutFind", unfollowed := true, recurses := true, apart := false }
def FnExactPutFindSaid : Prop := fnExactPutFindRow.holds Try.pinned (OpenSpec.ofChange fnExactPutFindSpec)

/-- ITS FALSE NEIGHBOUR: 'it returns false'. Refute it at one input. -/
def fnExactPutFindWrong : ChangeSpec := { name := "fnExactPutFind", fn := fun _ => fun
  | [d1, d2] => { results := [.lit (.bool false)], args := [d1, d2] }
  | _ => none }
def FnExactPutFindWrongFalsely : Prop := fnExactPutFindRow.holds Try.pinned (OpenSpec.ofChange fnExactPutFindWrong)

/-- 'laws.FnExactFoundAt': WHATEVER THE INPUT: true; the input reads as it did. -/
def fnExactFoundAtSpec : ChangeSpec := { name := "fnExactFoundAt", fn := fun _ => fun
  | [d1, d2] => { results := [.lit (.bool true)], args := [d1, d2] }
  | _ => none }
def fnExactFoundAtRow : OpenClaim := { program := "ytlpobdjfdbfhaaa", sum := "b59040fddeffe81dab66e01f33ec6feae7f206cbb91cd17f0e19c9ae01037ef3", func := "loop.example/g03007/laws.FnExactFoundAt", spec := "fnExactFoundAt", unfollowed := true, recurses := true, apart := false }
def FnExactFoundAtSaid : Prop := fnExactFoundAtRow.holds Try.pinned (OpenSpec.ofChange fnExactFoundAtSpec)

/-- ITS FALSE NEIGHBOUR: 'it returns false'. Refute it at one input. -/
def fnExactFoundAtWrong : ChangeSpec := { name := "fnExactFoundAt", fn := fun _ => fun
  | [d1, d2] => { results := [.lit (.bool false)], args := [d1, d2] }
  | _ => none }
def FnExactFoundAtWrongFalsely : Prop := fnExactFoundAtRow.holds Try.pinned (OpenSpec.ofChange fnExactFoundAtWrong)

/-- 'laws.FnExactFoundIn': WHATEVER THE INPUT: true; the input reads as it did. -/
def fnExactFoundInSpec : ChangeSpec := { name := "fnExactFoundIn", fn := fun _ => fun
  | [d1, d2] => { results := [.lit (.bool true)], args := [d1, d2] }
  | _ => none }
def fnExactFoundInRow : OpenClaim := { program := "ytlpobdjfdbfhaaa", sum := "b59040fddeffe81dab66e01f33ec6feae7f206cbb91cd17f0e19c9ae01037ef3", func := "loop.example/g03007/laws.FnExactFoundIn", spec := "fnExactFoundIn", unfollowed := true, recurses := true, apart := false }
def FnExactFoundInSaid : Prop := fnExactFoundInRow.holds Try.pinned (OpenSpec.ofChange fnExactFoundInSpec)

/-- ITS FALSE NEIGHBOUR: 'it returns false'. Refute it at one input. -/
def fnExactFoundInWrong : ChangeSpec := { name := "fnExactFoundIn", fn := fun _ => fun
  | [d1, d2] => { results := [.lit (.bool false)], args := [d1, d2] }
  | _ => none }
def FnExactFoundInWrongFalsely : Prop := fnExactFoundInRow.holds Try.pinned (OpenSpec.ofChange fnExactFoundInWrong)

/-- 'laws.FnExactIsReport': WHATEVER THE INPUT: true; the input reads as it did. -/
def fnExactIsReportSpec : ChangeSpec := { name := "fnExactIsReport", fn := fun _ => fun
  | [d] => { results := [.lit (.bool true)], args := [d] }
  | _ => none }
def fnExactIsReportRow : OpenClaim := { program := "ytlpobdjfdbfhaaa", sum := "b59040fddeffe81dab66e01f33ec6feae7f206cbb91cd17f0e19c9ae01037ef3", func := "loop.example/g03007/laws.FnExactIsReport", spec := "fnExactIsReport", apart := false }
def FnExactIsReportSaid : Prop := fnExactIsReportRow.holds Try.pinned (OpenSpec.ofChange fnExactIsReportSpec)

/-- ITS FALSE NEIGHBOUR: 'it returns false'. Refute it at one input. -/
def fnExactIsReportWrong : ChangeSpec := { name := "fnExactIsReport", fn := fun _ => fun
  | [d] => { results := [.lit (.bool false)], args := [d] }
  | _ => none }
def FnExactIsReportWrongFalsely : Prop := fnExactIsReportRow.holds Try.pinned (OpenSpec.ofChange fnExactIsReportWrong)

/-- 'laws.FnExactAreReports': WHATEVER THE INPUT: true; the input reads as it did. -/
def fnExactAreReportsSpec : ChangeSpec := { name := "fnExactAreReports", fn := fun _ => fun
  | [d] => { results := [.lit (.bool true)], args := [d] }
  | _ => none }
def fnExactAreReportsRow : OpenClaim := { program := "ytlpobdjfdbfhaaa", sum := "b59040fddeffe81dab66e01f33ec6feae7f206cbb91cd17f0e19c9ae01037ef3", func := "loop.example/g03007/laws.FnExactAreReports", spec := "fnExactAreReports", unfollowed := true, recurses := true, apart := false }
def FnExactAreReportsSaid : Prop := fnExactAreReportsRow.holds Try.pinned (OpenSpec.ofChange fnExactAreReportsSpec)

/-- ITS FALSE NEIGHBOUR: 'it returns false'. Refute it at one input. -/
def fnExactAreReportsWrong : ChangeSpec := { name := "fnExactAreReports", fn := fun _ => fun
  | [d] => { results := [.lit (.bool false)], args := [d] }
  | _ => none }
def FnExactAreReportsWrongFalsely : Prop := fnExactAreReportsRow.holds Try.pinned (OpenSpec.ofChange fnExactAreReportsWrong)

/-- 'laws.FnExactFindReport': WHATEVER THE INPUT: true; the input reads as it did. -/
def fnExactFindReportSpec : ChangeSpec := { name := "fnExactFindReport", fn := fun _ => fun
  | [d1, d2] => { results := [.lit (.bool true)], args := [d1, d2] }
  | _ => none }
def fnExactFindReportRow : OpenClaim := { program := "ytlpobdjfdbfhaaa", sum := "b59040fddeffe81dab66e01f33ec6feae7f206cbb91cd17f0e19c9ae01037ef3", func := "loop.example/g03007/laws.FnExactFindReport", spec := "fnExactFindReport", unfollowed := true, recurses := true, apart := false }
def FnExactFindReportSaid : Prop := fnExactFindReportRow.holds Try.pinned (OpenSpec.ofChange fnExactFindReportSpec)

/-- ITS FALSE NEIGHBOUR: 'it returns false'. Refute it at one input. -/
def fnExactFindReportWrong : ChangeSpec := { name := "fnExactFindReport", fn := fun _ => fun
  | [d1, d2] => { results := [.lit (.bool false)], args := [d1, d2] }
  | _ => none }
def FnExactFindReportWrongFalsely : Prop := fnExactFindReportRow.holds Try.pinned (OpenSpec.ofChange fnExactFindReportWrong)

/-- 'laws.FnExactPutReport': WHATEVER THE INPUT: true; the input reads as it did. -/
def fnExactPutReportSpec : ChangeSpec := { name := "fnExactPutReport", fn := fun _ => fun
  | [d1, d2] => { results := [.lit (.bool true)], args := [d1, d2] }
  | _ => none }
def fnExactPutReportRow : OpenClaim := { program := "ytlpobdjfdbfhaaa", sum := "b59040fddeffe81dab66e01f33ec6feae7f206cbb91cd17f0e19c9ae01037ef3", func := "loop.example/g03007/laws.FnExactPutReport", spec := "fnExactPutReport", unfollowed := true, recurses := true, apart := false }
def FnExactPutReportSaid : Prop := fnExactPutReportRow.holds Try.pinned (OpenSpec.ofChange fnExactPutReportSpec)

/-- ITS FALSE NEIGHBOUR: 'it returns false'. Refute it at one input. -/
def fnExactPutReportWrong : ChangeSpec := { name := "fnExactPutReport", fn := fun _ => fun
  | [d1, d2] => { results := [.lit (.bool false)], args := [d1, d2] }
  | _ => none }
def FnExactPutReportWrongFalsely : Prop := fnExactPutReportRow.holds Try.pinned (OpenSpec.ofChange fnExactPutReportWrong)

/-- 'laws.FnExactIsVague': WHATEVER THE INPUT: true; the input reads as it did. -/
def fnExactIsVagueSpec : ChangeSpec := { name := "fnExactIsVague", fn := fun _ => fun
  | [d] => { results := [.lit (.bool true)], args := [d] }
  | _ => none }
def fnExactIsVagueRow : OpenClaim := { program := "ytlpobdjfdbfhaaa", sum := "b59040fddeffe81dab66e01f33ec6feae7f206cbb91cd17f0e19c9ae01037ef3", func := "loop.example/g03007/laws.FnExactIsVague", spec := "fnExactIsVague", apart := false }
def FnExactIsVagueSaid : Prop := fnExactIsVagueRow.holds Try.pinned (OpenSpec.ofChange fnExactIsVagueSpec)

/-- ITS FALSE NEIGHBOUR: 'it returns false'. Refute it at one input. -/
def fnExactIsVagueWrong : ChangeSpec := { name := "fnExactIsVague", fn := fun _ => fun
  | [d] => { results := [.lit (.bool false)], args := [d] }
  | _ => none }
def FnExactIsVagueWrongFalsely : Prop := fnExactIsVagueRow.holds Try.pinned (OpenSpec.ofChange fnExactIsVagueWrong)

/-- 'laws.FnExactEqualReports': WHATEVER THE INPUT: true; the input reads as it did. -/
def fnExactEqualReportsSpec : ChangeSpec := { name := "fnExactEqualReports", fn := fun _ => fun
  | [d1, d2] => { results := [.lit (.bool true)], args := [d1, d2] }
  | _ => none }
def fnExactEqualReportsRow : OpenClaim := { program := "ytlpobdjfdbfhaaa", sum := "b59040fddeffe81dab66e01f33ec6feae7f206cbb91cd17f0e19c9ae01037ef3", func := "loop.example/g03007/laws.FnExactEqualReports", spec := "fnExactEqualReports", apart := false }
def FnExactEqualReportsSaid : Prop := fnExactEqualReportsRow.holds Try.pinned (OpenSpec.ofChange fnExactEqualReportsSpec)

/-- ITS FALSE NEIGHBOUR: 'it returns false'. Refute it at one input. -/
def fnExactEqualReportsWrong : ChangeSpec := { name := "fnExactEqualReports", fn := fun _ => fun
  | [d1, d2] => { results := [.lit (.bool false)], args := [d1, d2] }
  | _ => none }
def FnExactEqualReportsWrongFalsely : Prop := fnExactEqualReportsRow.holds Try.pinned (OpenSpec.ofChange fnExactEqualReportsWrong)

/-- 'laws.FnExactCanBe': WHATEVER THE INPUT: true; the input reads as it did. -/
def fnExactCanBeSpec : ChangeSpec := { name := "fnExactCanBe", fn := fun _ => fun
  | [d1, d2] => { results := [.lit (.bool true)], args := [d1, d2] }
  | _ => none }
def fnExactCanBeRow : OpenClaim := { program := "ytlpobdjfdbfhaaa", sum := "b59040fddeffe81dab66e01f33ec6feae7f206cbb91cd17f0e19c9ae01037ef3", func := "loop.example/g03007/laws.FnExactCanBe", spec := "fnExactCanBe", unfollowed := true, recurses := true, apart := false }
def FnExactCanBeSaid : Prop := fnExactCanBeRow.holds Try.pinned (OpenSpec.ofChange fnExactCanBeSpec)

/-- ITS FALSE NEIGHBOUR: 'it returns false'. Refute it at one input. -/
def fnExactCanBeWrong : ChangeSpec := { name := "fnExactCanBe", fn := fun _ => fun
  | [d1, d2] => { results := [.lit (.bool false)], args := [d1, d2] }
  | _ => none }
def FnExactCanBeWrongFalsely : Prop := fnExactCanBeRow.holds Try.pinned (OpenSpec.ofChange fnExactCanBeWrong)

/-- 'laws.FnExactCandidates': WHATEVER THE INPUT: true; the input reads as it did. -/
def fnExactCandidatesSpec : ChangeSpec := { name := "fnExactCandidates", fn := fun _ => fun
  | [d1, d2] => { results := [.lit (.bool true)], args := [d1, d2] }
  | _ => none }
def fnExactCandidatesRow : OpenClaim := { program := "ytlpobdjfdbfhaaa", sum := "b59040fddeffe81dab66e01f33ec6feae7f206cbb91cd17f0e19c9ae01037ef3", func := "loop.example/g03007/laws.FnExactCandidates", spec := "fnExactCandidates", unfollowed := true, recurses := true, apart := false }
def FnExactCandidatesSaid : Prop := fnExactCandidatesRow.holds Try.pinned (OpenSpec.ofChange fnExactCandidatesSpec)

/-- ITS FALSE NEIGHBOUR: 'it returns false'. Refute it at one input. -/
def fnExactCandidatesWrong : ChangeSpec := { name := "fnExactCandidates", fn := fun _ => fun
  | [d1, d2] => { results := [.lit (.bool false)], args := [d1, d2] }
  | _ => none }
def FnExactCandidatesWrongFalsely : Prop := fnExactCandidatesRow.holds Try.pinned (OpenSpec.ofChange fnExactCandidatesWrong)

/-- 'laws.FnExactScore': WHATEVER THE INPUT: true; the input reads as it did. -/
def fnExactScoreSpec : ChangeSpec := { name := "fnExactScore", fn := fun _ => fun
  | [d1, d2] => { results := [.lit (.bool true)], args := [d1, d2] }
  | _ => none }
def fnExactScoreRow : OpenClaim := { program := "ytlpobdjfdbfhaaa", sum := "b59040fddeffe81dab66e01f33ec6feae7f206cbb91cd17f0e19c9ae01037ef3", func := "loop.example/g03007/laws.FnExactScore", spec := "fnExactScore", unfollowed := true, recurses := true, apart := false }
def FnExactScoreSaid : Prop := fnExactScoreRow.holds Try.pinned (OpenSpec.ofChange fnExactScoreSpec)

/-- ITS FALSE NEIGHBOUR: 'it returns false'. Refute it at one input. -/
def fnExactScoreWrong : ChangeSpec := { name := "fnExactScore", fn := fun _ => fun
  | [d1, d2] => { results := [.lit (.bool false)], args := [d1, d2] }
  | _ => none }
def FnExactScoreWrongFalsely : Prop := fnExactScoreRow.holds Try.pinned (OpenSpec.ofChange fnExactScoreWrong)

/-- 'laws.FnExactBestOf': WHATEVER THE INPUT: true; the input reads as it did. -/
def fnExactBestOfSpec : ChangeSpec := { name := "fnExactBestOf", fn := fun _ => fun
  | [d1, d2] => { results := [.lit (.bool true)], args := [d1, d2] }
  | _ => none }
def fnExactBestOfRow : OpenClaim := { program := "ytlpobdjfdbfhaaa", sum := "b59040fddeffe81dab66e01f33ec6feae7f206cbb91cd17f0e19c9ae01037ef3", func := "loop.example/g03007/laws.FnExactBestOf", spec := "fnExactBestOf", unfollowed := true, recurses := true, apart := false }
def FnExactBestOfSaid : Prop := fnExactBestOfRow.holds Try.pinned (OpenSpec.ofChange fnExactBestOfSpec)

/-- ITS FALSE NEIGHBOUR: 'it returns false'. Refute it at one input. -/
def fnExactBestOfWrong : ChangeSpec := { name := "fnExactBestOf", fn := fun _ => fun
  | [d1, d2] => { results := [.lit (.bool false)], args := [d1, d2] }
  | _ => none }
def FnExactBestOfWrongFalsely : Prop := fnExactBestOfRow.holds Try.pinned (OpenSpec.ofChange fnExactBestOfWrong)

/-- 'laws.FnExactSeekers': WHATEVER THE INPUT: true; the input reads as it did. -/
def fnExactSeekersSpec : ChangeSpec := { name := "fnExactSeekers", fn := fun _ => fun
  | [d1, d2] => { results := [.lit (.bool true)], args := [d1, d2] }
  | _ => none }
def fnExactSeekersRow : OpenClaim := { program := "ytlpobdjfdbfhaaa", sum := "b59040fddeffe81dab66e01f33ec6feae7f206cbb91cd17f0e19c9ae01037ef3", func := "loop.example/g03007/laws.FnExactSeekers", spec := "fnExactSeekers", unfollowed := true, recurses := true, apart := false }
def FnExactSeekersSaid : Prop := fnExactSeekersRow.holds Try.pinned (OpenSpec.ofChange fnExactSeekersSpec)

/-- ITS FALSE NEIGHBOUR: 'it returns false'. Refute it at one input. -/
def fnExactSeekersWrong : ChangeSpec := { name := "fnExactSeekers", fn := fun _ => fun
  | [d1, d2] => { results := [.lit (.bool false)], args := [d1, d2] }
  | _ => none }
def FnExactSeekersWrongFalsely : Prop := fnExactSeekersRow.holds Try.pinned (OpenSpec.ofChange fnExactSeekersWrong)

/-- 'laws.FnExactWhyNot': WHATEVER THE INPUT: true; the input reads as it did. -/
def fnExactWhyNotSpec : ChangeSpec := { name := "fnExactWhyNot", fn := fun _ => fun
  | [d1, d2] => { results := [.lit (.bool true)], args := [d1, d2] }
  | _ => none }
def fnExactWhyNotRow : OpenClaim := { program := "ytlpobdjfdbfhaaa", sum := "b59040fddeffe81dab66e01f33ec6feae7f206cbb91cd17f0e19c9ae01037ef3", func := "loop.example/g03007/laws.FnExactWhyNot", spec := "fnExactWhyNot", unfollowed := true, recurses := true, apart := false }
def FnExactWhyNotSaid : Prop := fnExactWhyNotRow.holds Try.pinned (OpenSpec.ofChange fnExactWhyNotSpec)

/-- ITS FALSE NEIGHBOUR: 'it returns false'. Refute it at one input. -/
def fnExactWhyNotWrong : ChangeSpec := { name := "fnExactWhyNot", fn := fun _ => fun
  | [d1, d2] => { results := [.lit (.bool false)], args := [d1, d2] }
  | _ => none }
def FnExactWhyNotWrongFalsely : Prop := fnExactWhyNotRow.holds Try.pinned (OpenSpec.ofChange fnExactWhyNotWrong)

/-- 'laws.FnExactIsDoubt': WHATEVER THE INPUT: true; the input reads as it did. -/
def fnExactIsDoubtSpec : ChangeSpec := { name := "fnExactIsDoubt", fn := fun _ => fun
  | [d] => { results := [.lit (.bool true)], args := [d] }
  | _ => none }
def fnExactIsDoubtRow : OpenClaim := { program := "ytlpobdjfdbfhaaa", sum := "b59040fddeffe81dab66e01f33ec6feae7f206cbb91cd17f0e19c9ae01037ef3", func := "loop.example/g03007/laws.FnExactIsDoubt", spec := "fnExactIsDoubt", apart := false }
def FnExactIsDoubtSaid : Prop := fnExactIsDoubtRow.holds Try.pinned (OpenSpec.ofChange fnExactIsDoubtSpec)

/-- ITS FALSE NEIGHBOUR: 'it returns false'. Refute it at one input. -/
def fnExactIsDoubtWrong : ChangeSpec := { name := "fnExactIsDoubt", fn := fun _ => fun
  | [d] => { results := [.lit (.bool false)], args := [d] }
  | _ => none }
def FnExactIsDoubtWrongFalsely : Prop := fnExactIsDoubtRow.holds Try.pinned (OpenSpec.ofChange fnExactIsDoubtWrong)

/-- 'laws.FnExactRemember': WHATEVER THE INPUT: true; the input reads as it did. -/
def fnExactRememberSpec : ChangeSpec := { name := "fnExactRemember", fn := fun _ => fun
  | [d1, d2, d3] => { results := [.lit (.bool true)], args := [d1, d2, d3] }
  | _ => none }
def fnExactRememberRow : OpenClaim := { program := "ytlpobdjfdbfhaaa", sum := "b59040fddeffe81dab66e01f33ec6feae7f206cbb91cd17f0e19c9ae01037ef3", func := "loop.example/g03007/laws.FnExactRemember", spec := "fnExactRemember", unfollowed := true, recurses := true, apart := false }
def FnExactRememberSaid : Prop := fnExactRememberRow.holds Try.pinned (OpenSpec.ofChange fnExactRememberSpec)

/-- ITS FALSE NEIGHBOUR: 'it returns false'. Refute it at one input. -/
def fnExactRememberWrong : ChangeSpec := { name := "fnExactRemember", fn := fun _ => fun
  | [d1, d2, d3] => { results := [.lit (.bool false)], args := [d1, d2, d3] }
  | _ => none }
def FnExactRememberWrongFalsely : Prop := fnExactRememberRow.holds Try.pinned (OpenSpec.ofChange fnExactRememberWrong)

/-- 'laws.FnExactJoinDoubts': WHATEVER THE INPUT: true; the input reads as it did. -/
def fnExactJoinDoubtsSpec : ChangeSpec := { name := "fnExactJoinDoubts", fn := fun _ => fun
  | [d1, d2] => { results := [.lit (.bool true)], args := [d1, d2] }
  | _ => none }
def fnExactJoinDoubtsRow : OpenClaim := { program := "ytlpobdjfdbfhaaa", sum := "b59040fddeffe81dab66e01f33ec6feae7f206cbb91cd17f0e19c9ae01037ef3", func := "loop.example/g03007/laws.FnExactJoinDoubts", spec := "fnExactJoinDoubts", unfollowed := true, recurses := true, apart := false }
def FnExactJoinDoubtsSaid : Prop := fnExactJoinDoubtsRow.holds Try.pinned (OpenSpec.ofChange fnExactJoinDoubtsSpec)

/-- ITS FALSE NEIGHBOUR: 'it returns false'. Refute it at one input. -/
def fnExactJoinDoubtsWrong : ChangeSpec := { name := "fnExactJoinDoubts", fn := fun _ => fun
  | [d1, d2] => { results := [.lit (.bool false)], args := [d1, d2] }
  | _ => none }
def FnExactJoinDoubtsWrongFalsely : Prop := fnExactJoinDoubtsRow.holds Try.pinned (OpenSpec.ofChange fnExactJoinDoubtsWrong)

/-- 'laws.FnExactIsWider': WHATEVER THE INPUT: true; the input reads as it did. -/
def fnExactIsWiderSpec : ChangeSpec := { name := "fnExactIsWider", fn := fun _ => fun
  | [d1, d2] => { results := [.lit (.bool true)], args := [d1, d2] }
  | _ => none }
def fnExactIsWiderRow : OpenClaim := { program := "ytlpobdjfdbfhaaa", sum := "b59040fddeffe81dab66e01f33ec6feae7f206cbb91cd17f0e19c9ae01037ef3", func := "loop.example/g03007/laws.FnExactIsWider", spec := "fnExactIsWider", unfollowed := true, recurses := true, apart := false }
def FnExactIsWiderSaid : Prop := fnExactIsWiderRow.holds Try.pinned (OpenSpec.ofChange fnExactIsWiderSpec)

/-- ITS FALSE NEIGHBOUR: 'it returns false'. Refute it at one input. -/
def fnExactIsWiderWrong : ChangeSpec := { name := "fnExactIsWider", fn := fun _ => fun
  | [d1, d2] => { results := [.lit (.bool false)], args := [d1, d2] }
  | _ => none }
def FnExactIsWiderWrongFalsely : Prop := fnExactIsWiderRow.holds Try.pinned (OpenSpec.ofChange fnExactIsWiderWrong)

/-- 'laws.FnExactSharpen': WHATEVER THE INPUT: true; the input reads as it did. -/
def fnExactSharpenSpec : ChangeSpec := { name := "fnExactSharpen", fn := fun _ => fun
  | [d1, d2] => { results := [.lit (.bool true)], args := [d1, d2] }
  | _ => none }
def fnExactSharpenRow : OpenClaim := { program := "ytlpobdjfdbfhaaa", sum := "b59040fddeffe81dab66e01f33ec6feae7f206cbb91cd17f0e19c9ae01037ef3", func := "loop.example/g03007/laws.FnExactSharpen", spec := "fnExactSharpen", unfollowed := true, recurses := true, apart := false }
def FnExactSharpenSaid : Prop := fnExactSharpenRow.holds Try.pinned (OpenSpec.ofChange fnExactSharpenSpec)

/-- ITS FALSE NEIGHBOUR: 'it returns false'. Refute it at one input. -/
def fnExactSharpenWrong : ChangeSpec := { name := "fnExactSharpen", fn := fun _ => fun
  | [d1, d2] => { results := [.lit (.bool false)], args := [d1, d2] }
  | _ => none }
def FnExactSharpenWrongFalsely : Prop := fnExactSharpenRow.holds Try.pinned (OpenSpec.ofChange fnExactSharpenWrong)

/-- 'laws.FnExactIsRoute': WHATEVER THE INPUT: true; the input reads as it did. -/
def fnExactIsRouteSpec : ChangeSpec := { name := "fnExactIsRoute", fn := fun _ => fun
  | [d] => { results := [.lit (.bool true)], args := [d] }
  | _ => none }
def fnExactIsRouteRow : OpenClaim := { program := "ytlpobdjfdbfhaaa", sum := "b59040fddeffe81dab66e01f33ec6feae7f206cbb91cd17f0e19c9ae01037ef3", func := "loop.example/g03007/laws.FnExactIsRoute", spec := "fnExactIsRoute", apart := false }
def FnExactIsRouteSaid : Prop := fnExactIsRouteRow.holds Try.pinned (OpenSpec.ofChange fnExactIsRouteSpec)

/-- ITS FALSE NEIGHBOUR: 'it returns false'. Refute it at one input. -/
def fnExactIsRouteWrong : ChangeSpec := { name := "fnExactIsRoute", fn := fun _ => fun
  | [d] => { results := [.lit (.bool false)], args := [d] }
  | _ => none }
def FnExactIsRouteWrongFalsely : Prop := fnExactIsRouteRow.holds Try.pinned (OpenSpec.ofChange fnExactIsRouteWrong)

/-- 'laws.FnExactStopAt': WHATEVER THE INPUT: true; the input reads as it did. -/
def fnExactStopAtSpec : ChangeSpec := { name := "fnExactStopAt", fn := fun _ => fun
  | [d1, d2] => { results := [.lit (.bool true)], args := [d1, d2] }
  | _ => none }
def fnExactStopAtRow : OpenClaim := { program := "ytlpobdjfdbfhaaa", sum := "b59040fddeffe81dab66e01f33ec6feae7f206cbb91cd17f0e19c9ae01037ef3", func := "loop.example/g03007/laws.FnExactStopAt", spec := "fnExactStopAt", unfollowed := true, recurses := true, apart := false }
def FnExactStopAtSaid : Prop := fnExactStopAtRow.holds Try.pinned (OpenSpec.ofChange fnExactStopAtSpec)

/-- ITS FALSE NEIGHBOUR: 'it returns false'. Refute it at one input. -/
def fnExactStopAtWrong : ChangeSpec := { name := "fnExactStopAt", fn := fun _ => fun
  | [d1, d2] => { results := [.lit (.bool false)], args := [d1, d2] }
  | _ => none }
def FnExactStopAtWrongFalsely : Prop := fnExactStopAtRow.holds Try.pinned (OpenSpec.ofChange fnExactStopAtWrong)

/-- 'laws.FnExactLeftBetween': WHATEVER THE INPUT: true; the input reads as it did. -/
def fnExactLeftBetweenSpec : ChangeSpec := { name := "fnExactLeftBetween", fn := fun _ => fun
  | [d1, d2] => { results := [.lit (.bool true)], args := [d1, d2] }
  | _ => none }
def fnExactLeftBetweenRow : OpenClaim := { program := "ytlpobdjfdbfhaaa", sum := "b59040fddeffe81dab66e01f33ec6feae7f206cbb91cd17f0e19c9ae01037ef3", func := "loop.example/g03007/laws.FnExactLeftBetween", spec := "fnExactLeftBetween", unfollowed := true, recurses := true, apart := false }
def FnExactLeftBetweenSaid : Prop := fnExactLeftBetweenRow.holds Try.pinned (OpenSpec.ofChange fnExactLeftBetweenSpec)

/-- ITS FALSE NEIGHBOUR: 'it returns false'. Refute it at one input. -/
def fnExactLeftBetweenWrong : ChangeSpec := { name := "fnExactLeftBetween", fn := fun _ => fun
  | [d1, d2] => { results := [.lit (.bool false)], args := [d1, d2] }
  | _ => none }
def FnExactLeftBetweenWrongFalsely : Prop := fnExactLeftBetweenRow.holds Try.pinned (OpenSpec.ofChange fnExactLeftBetweenWrong)

/-- 'laws.FnExactAlongRoute': WHATEVER THE INPUT: true; the input reads as it did. -/
def fnExactAlongRouteSpec : ChangeSpec := { name := "fnExactAlongRoute", fn := fun _ => fun
  | [d1, d2] => { results := [.lit (.bool true)], args := [d1, d2] }
  | _ => none }
def fnExactAlongRouteRow : OpenClaim := { program := "ytlpobdjfdbfhaaa", sum := "b59040fddeffe81dab66e01f33ec6feae7f206cbb91cd17f0e19c9ae01037ef3", func := "loop.example/g03007/laws.FnExactAlongRoute", spec := "fnExactAlongRoute", unfollowed := true, recurses := true, apart := false }
def FnExactAlongRouteSaid : Prop := fnExactAlongRouteRow.holds Try.pinned (OpenSpec.ofChange fnExactAlongRouteSpec)

/-- ITS FALSE NEIGHBOUR: 'it returns false'. Refute it at one input. -/
def fnExactAlongRouteWrong : ChangeSpec := { name := "fnExactAlongRoute", fn := fun _ => fun
  | [d1, d2] => { results := [.lit (.bool false)], args := [d1, d2] }
  | _ => none }
def FnExactAlongRouteWrongFalsely : Prop := fnExactAlongRouteRow.holds Try.pinned (OpenSpec.ofChange fnExactAlongRouteWrong)

/-- 'laws.FnExactRouteHours': WHATEVER THE INPUT: true; the input reads as it did. -/
def fnExactRouteHoursSpec : ChangeSpec := { name := "fnExactRouteHours", fn := fun _ => fun
  | [d] => { results := [.lit (.bool true)], args := [d] }
  | _ => none }
def fnExactRouteHoursRow : OpenClaim := { program := "ytlpobdjfdbfhaaa", sum := "b59040fddeffe81dab66e01f33ec6feae7f206cbb91cd17f0e19c9ae01037ef3", func := "loop.example/g03007/laws.FnExactRouteHours", spec := "fnExactRouteHours", apart := false }
def FnExactRouteHoursSaid : Prop := fnExactRouteHoursRow.holds Try.pinned (OpenSpec.ofChange fnExactRouteHoursSpec)

/-- ITS FALSE NEIGHBOUR: 'it returns false'. Refute it at one input. -/
def fnExactRouteHoursWrong : ChangeSpec := { name := "fnExactRouteHours", fn := fun _ => fun
  | [d] => { results := [.lit (.bool false)], args := [d] }
  | _ => none }
def FnExactRouteHoursWrongFalsely : Prop := fnExactRouteHoursRow.holds Try.pinned (OpenSpec.ofChange fnExactRouteHoursWrong)

/- THE SECOND FORM. 'bulk': how many values and letters a reading holds, each counted each time it is reached (what is shared counts as often as it is met; a slice's spare places count too). A statement '..UptoSaid' is the law's where the arguments, and the package variables that the reading takes, are together of bulk at most 1048576: NARROWER than '..Said'. Prove '..Said' where nothing that the law and all that it calls make is longer than what came in: it says more and counts as full. Else prove '..UptoSaid'. A law counts once. -/
mutual
def uptoBulk {H : Type} : DataW H → Nat
  | .lit (.string bytes) => bytes.length + 1
  | .lit _ => 1
  | .nil => 1
  | .ptr d => uptoBulk d + 1
  | .slice elems spare => uptoBulkAll elems + uptoBulkAll spare + 1
  | .agg parts => uptoBulkAll parts + 1
  | .iface _ d => uptoBulk d + 1
  | .map entries => uptoBulkEntries entries + 1
  | .held _ => 1
def uptoBulkAll {H : Type} : List (DataW H) → Nat
  | [] => 0
  | d :: r => uptoBulk d + uptoBulkAll r
def uptoBulkEntries {H : Type} : List (Lit × DataW H) → Nat
  | [] => 0
  | x :: r => uptoBulkEntry x + uptoBulkEntries r
def uptoBulkEntry {H : Type} : Lit × DataW H → Nat
  | (.string bytes, d) => bytes.length + uptoBulk d + 1
  | (_, d) => uptoBulk d + 1
 end
def uptoSmall : (H : Type) → List (DataW H) → Bool := fun _ ds => decide (uptoBulkAll ds ≤ 1048576)
def OpenSpec.upto (s : _root_.Go.ChangeSpec) : _root_.Go.OpenSpec := { _root_.Go.OpenSpec.ofChange s with cond := some uptoSmall }

/-- 'laws.FnExactIsFind', WHERE WHAT IT READS IS OF BULK AT MOST 1048576: true; the input reads as it did. -/
def fnExactIsFindUptoRow : OpenClaim := { program := "ytlpobdjfdbfhaaa", sum := "b59040fddeffe81dab66e01f33ec6feae7f206cbb91cd17f0e19c9ae01037ef3", func := "loop.example/g03007/laws.FnExactIsFind", spec := "fnExactIsFind", unfollowed := true, recurses := true, apart := false, narrowed := true }
def FnExactIsFindUptoSaid : Prop := fnExactIsFindUptoRow.holds Try.pinned (OpenSpec.upto fnExactIsFindSpec)

/-- 'laws.FnExactAreFinds', WHERE WHAT IT READS IS OF BULK AT MOST 1048576: true; the input reads as it did. -/
def fnExactAreFindsUptoRow : OpenClaim := { program := "ytlpobdjfdbfhaaa", sum := "b59040fddeffe81dab66e01f33ec6feae7f206cbb91cd17f0e19c9ae01037ef3", func := "loop.example/g03007/laws.FnExactAreFinds", spec := "fnExactAreFinds", unfollowed := true, recurses := true, apart := false, narrowed := true }
def FnExactAreFindsUptoSaid : Prop := fnExactAreFindsUptoRow.holds Try.pinned (OpenSpec.upto fnExactAreFindsSpec)

/-- 'laws.FnExactFindThing', WHERE WHAT IT READS IS OF BULK AT MOST 1048576: true; the input reads as it did. -/
def fnExactFindThingUptoRow : OpenClaim := { program := "ytlpobdjfdbfhaaa", sum := "b59040fddeffe81dab66e01f33ec6feae7f206cbb91cd17f0e19c9ae01037ef3", func := "loop.example/g03007/laws.FnExactFindThing", spec := "fnExactFindThing", unfollowed := true, recurses := true, apart := false, narrowed := true }
def FnExactFindThingUptoSaid : Prop := fnExactFindThingUptoRow.holds Try.pinned (OpenSpec.upto fnExactFindThingSpec)

/-- 'laws.FnExactPutFind', WHERE WHAT IT READS IS OF BULK AT MOST 1048576: true; the input reads as it did. -/
def fnExactPutFindUptoRow : OpenClaim := { program := "ytlpobdjfdbfhaaa", sum := "b59040fddeffe81dab66e01f33ec6feae7f206cbb91cd17f0e19c9ae01037ef3", func := "loop.example/g03007/laws.FnExactPutFind", spec := "fnExactPutFind", unfollowed := true, recurses := true, apart := false, narrowed := true }
def FnExactPutFindUptoSaid : Prop := fnExactPutFindUptoRow.holds Try.pinned (OpenSpec.upto fnExactPutFindSpec)

/-- 'laws.FnExactFoundAt', WHERE WHAT IT READS IS OF BULK AT MOST 1048576: true; the input reads as it did. -/
def fnExactFoundAtUptoRow : OpenClaim := { program := "ytlpobdjfdbfhaaa", sum := "b59040fddeffe81dab66e01f33ec6feae7f206cbb91cd17f0e19c9ae01037ef3", func := "loop.example/g03007/laws.FnExactFoundAt", spec := "fnExactFoundAt", unfollowed := true, recurses := true, apart := false, narrowed := true }
def FnExactFoundAtUptoSaid : Prop := fnExactFoundAtUptoRow.holds Try.pinned (OpenSpec.upto fnExactFoundAtSpec)

/-- 'laws.FnExactFoundIn', WHERE WHAT IT READS IS OF BULK AT MOST 1048576: true; the input reads as it did. -/
def fnExactFoundInUptoRow : OpenClaim := { program := "ytlpobdjfdbfhaaa", sum := "b59040fddeffe81dab66e01f33ec6feae7f206cbb91cd17f0e19c9ae01037ef3", func := "loop.example/g03007/laws.FnExactFoundIn", spec := "fnExactFoundIn", unfollowed := true, recurses := true, apart := false, narrowed := true }
def FnExactFoundInUptoSaid : Prop := fnExactFoundInUptoRow.holds Try.pinned (OpenSpec.upto fnExactFoundInSpec)

/-- 'laws.FnExactIsReport', WHERE WHAT IT READS IS OF BULK AT MOST 1048576: true; the input reads as it did. -/
def fnExactIsReportUptoRow : OpenClaim := { program := "ytlpobdjfdbfhaaa", sum := "b59040fddeffe81dab66e01f33ec6feae7f206cbb91cd17f0e19c9ae01037ef3", func := "loop.example/g03007/laws.FnExactIsReport", spec := "fnExactIsReport", apart := false, narrowed := true }
def FnExactIsReportUptoSaid : Prop := fnExactIsReportUptoRow.holds Try.pinned (OpenSpec.upto fnExactIsReportSpec)

/-- 'laws.FnExactAreReports', WHERE WHAT IT READS IS OF BULK AT MOST 1048576: true; the input reads as it did. -/
def fnExactAreReportsUptoRow : OpenClaim := { program := "ytlpobdjfdbfhaaa", sum := "b59040fddeffe81dab66e01f33ec6feae7f206cbb91cd17f0e19c9ae01037ef3", func := "loop.example/g03007/laws.FnExactAreReports", spec := "fnExactAreReports", unfollowed := true, recurses := true, apart := false, narrowed := true }
def FnExactAreReportsUptoSaid : Prop := fnExactAreReportsUptoRow.holds Try.pinned (OpenSpec.upto fnExactAreReportsSpec)

/-- 'laws.FnExactFindReport', WHERE WHAT IT READS IS OF BULK AT MOST 1048576: true; the input reads as it did. -/
def fnExactFindReportUptoRow : OpenClaim := { program := "ytlpobdjfdbfhaaa", sum := "b59040fddeffe81dab66e01f33ec6feae7f206cbb91cd17f0e19c9ae01037ef3", func := "loop.example/g03007/laws.FnExactFindReport", spec := "fnExactFindReport", unfollowed := true, recurses := true, apart := false, narrowed := true }
def FnExactFindReportUptoSaid : Prop := fnExactFindReportUptoRow.holds Try.pinned (OpenSpec.upto fnExactFindReportSpec)

/-- 'laws.FnExactPutReport', WHERE WHAT IT READS IS OF BULK AT MOST 1048576: true; the input reads as it did. -/
def fnExactPutReportUptoRow : OpenClaim := { program := "ytlpobdjfdbfhaaa", sum := "b59040fddeffe81dab66e01f33ec6feae7f206cbb91cd17f0e19c9ae01037ef3", func := "loop.example/g03007/laws.FnExactPutReport", spec := "fnExactPutReport", unfollowed := true, recurses := true, apart := false, narrowed := true }
def FnExactPutReportUptoSaid : Prop := fnExactPutReportUptoRow.holds Try.pinned (OpenSpec.upto fnExactPutReportSpec)

/-- 'laws.FnExactIsVague', WHERE WHAT IT READS IS OF BULK AT MOST 1048576: true; the input reads as it did. -/
def fnExactIsVagueUptoRow : OpenClaim := { program := "ytlpobdjfdbfhaaa", sum := "b59040fddeffe81dab66e01f33ec6feae7f206cbb91cd17f0e19c9ae01037ef3", func := "loop.example/g03007/laws.FnExactIsVague", spec := "fnExactIsVague", apart := false, narrowed := true }
def FnExactIsVagueUptoSaid : Prop := fnExactIsVagueUptoRow.holds Try.pinned (OpenSpec.upto fnExactIsVagueSpec)

/-- 'laws.FnExactEqualReports', WHERE WHAT IT READS IS OF BULK AT MOST 1048576: true; the input reads as it did. -/
def fnExactEqualReportsUptoRow : OpenClaim := { program := "ytlpobdjfdbfhaaa", sum := "b59040fddeffe81dab66e01f33ec6feae7f206cbb91cd17f0e19c9ae01037ef3", func := "loop.example/g03007/laws.FnExactEqualReports", spec := "fnExactEqualReports", apart := false, narrowed := true }
def FnExactEqualReportsUptoSaid : Prop := fnExactEqualReportsUptoRow.holds Try.pinned (OpenSpec.upto fnExactEqualReportsSpec)

/-- 'laws.FnExactCanBe', WHERE WHAT IT READS IS OF BULK AT MOST 1048576: true; the input reads as it did. -/
def fnExactCanBeUptoRow : OpenClaim := { program := "ytlpobdjfdbfhaaa", sum := "b59040fddeffe81dab66e01f33ec6feae7f206cbb91cd17f0e19c9ae01037ef3", func := "loop.example/g03007/laws.FnExactCanBe", spec := "fnExactCanBe", unfollowed := true, recurses := true, apart := false, narrowed := true }
def FnExactCanBeUptoSaid : Prop := fnExactCanBeUptoRow.holds Try.pinned (OpenSpec.upto fnExactCanBeSpec)

/-- 'laws.FnExactCandidates', WHERE WHAT IT READS IS OF BULK AT MOST 1048576: true; the input reads as it did. -/
def fnExactCandidatesUptoRow : OpenClaim := { program := "ytlpobdjfdbfhaaa", sum := "b59040fddeffe81dab66e01f33ec6feae7f206cbb91cd17f0e19c9ae01037ef3", func := "loop.example/g03007/laws.FnExactCandidates", spec := "fnExactCandidates", unfollowed := true, recurses := true, apart := false, narrowed := true }
def FnExactCandidatesUptoSaid : Prop := fnExactCandidatesUptoRow.holds Try.pinned (OpenSpec.upto fnExactCandidatesSpec)

/-- 'laws.FnExactScore', WHERE WHAT IT READS IS OF BULK AT MOST 1048576: true; the input reads as it did. -/
def fnExactScoreUptoRow : OpenClaim := { program := "ytlpobdjfdbfhaaa", sum := "b59040fddeffe81dab66e01f33ec6feae7f206cbb91cd17f0e19c9ae01037ef3", func := "loop.example/g03007/laws.FnExactScore", spec := "fnExactScore", unfollowed := true, recurses := true, apart := false, narrowed := true }
def FnExactScoreUptoSaid : Prop := fnExactScoreUptoRow.holds Try.pinned (OpenSpec.upto fnExactScoreSpec)

/-- 'laws.FnExactBestOf', WHERE WHAT IT READS IS OF BULK AT MOST 1048576: true; the input reads as it did. -/
def fnExactBestOfUptoRow : OpenClaim := { program := "ytlpobdjfdbfhaaa", sum := "b59040fddeffe81dab66e01f33ec6feae7f206cbb91cd17f0e19c9ae01037ef3", func := "loop.example/g03007/laws.FnExactBestOf", spec := "fnExactBestOf", unfollowed := true, recurses := true, apart := false, narrowed := true }
def FnExactBestOfUptoSaid : Prop := fnExactBestOfUptoRow.holds Try.pinned (OpenSpec.upto fnExactBestOfSpec)

/-- 'laws.FnExactSeekers', WHERE WHAT IT READS IS OF BULK AT MOST 1048576: true; the input reads as it did. -/
def fnExactSeekersUptoRow : OpenClaim := { program := "ytlpobdjfdbfhaaa", sum := "b59040fddeffe81dab66e01f33ec6feae7f206cbb91cd17f0e19c9ae01037ef3", func := "loop.example/g03007/laws.FnExactSeekers", spec := "fnExactSeekers", unfollowed := true, recurses := true, apart := false, narrowed := true }
def FnExactSeekersUptoSaid : Prop := fnExactSeekersUptoRow.holds Try.pinned (OpenSpec.upto fnExactSeekersSpec)

/-- 'laws.FnExactWhyNot', WHERE WHAT IT READS IS OF BULK AT MOST 1048576: true; the input reads as it did. -/
def fnExactWhyNotUptoRow : OpenClaim := { program := "ytlpobdjfdbfhaaa", sum := "b59040fddeffe81dab66e01f33ec6feae7f206cbb91cd17f0e19c9ae01037ef3", func := "loop.example/g03007/laws.FnExactWhyNot", spec := "fnExactWhyNot", unfollowed := true, recurses := true, apart := false, narrowed := true }
def FnExactWhyNotUptoSaid : Prop := fnExactWhyNotUptoRow.holds Try.pinned (OpenSpec.upto fnExactWhyNotSpec)

/-- 'laws.FnExactIsDoubt', WHERE WHAT IT READS IS OF BULK AT MOST 1048576: true; the input reads as it did. -/
def fnExactIsDoubtUptoRow : OpenClaim := { program := "ytlpobdjfdbfhaaa", sum := "b59040fddeffe81dab66e01f33ec6feae7f206cbb91cd17f0e19c9ae01037ef3", func := "loop.example/g03007/laws.FnExactIsDoubt", spec := "fnExactIsDoubt", apart := false, narrowed := true }
def FnExactIsDoubtUptoSaid : Prop := fnExactIsDoubtUptoRow.holds Try.pinned (OpenSpec.upto fnExactIsDoubtSpec)

/-- 'laws.FnExactRemember', WHERE WHAT IT READS IS OF BULK AT MOST 1048576: true; the input reads as it did. -/
def fnExactRememberUptoRow : OpenClaim := { program := "ytlpobdjfdbfhaaa", sum := "b59040fddeffe81dab66e01f33ec6feae7f206cbb91cd17f0e19c9ae01037ef3", func := "loop.example/g03007/laws.FnExactRemember", spec := "fnExactRemember", unfollowed := true, recurses := true, apart := false, narrowed := true }
def FnExactRememberUptoSaid : Prop := fnExactRememberUptoRow.holds Try.pinned (OpenSpec.upto fnExactRememberSpec)

/-- 'laws.FnExactJoinDoubts', WHERE WHAT IT READS IS OF BULK AT MOST 1048576: true; the input reads as it did. -/
def fnExactJoinDoubtsUptoRow : OpenClaim := { program := "ytlpobdjfdbfhaaa", sum := "b59040fddeffe81dab66e01f33ec6feae7f206cbb91cd17f0e19c9ae01037ef3", func := "loop.example/g03007/laws.FnExactJoinDoubts", spec := "fnExactJoinDoubts", unfollowed := true, recurses := true, apart := false, narrowed := true }
def FnExactJoinDoubtsUptoSaid : Prop := fnExactJoinDoubtsUptoRow.holds Try.pinned (OpenSpec.upto fnExactJoinDoubtsSpec)

/-- 'laws.FnExactIsWider', WHERE WHAT IT READS IS OF BULK AT MOST 1048576: true; the input reads as it did. -/
def fnExactIsWiderUptoRow : OpenClaim := { program := "ytlpobdjfdbfhaaa", sum := "b59040fddeffe81dab66e01f33ec6feae7f206cbb91cd17f0e19c9ae01037ef3", func := "loop.example/g03007/laws.FnExactIsWider", spec := "fnExactIsWider", unfollowed := true, recurses := true, apart := false, narrowed := true }
def FnExactIsWiderUptoSaid : Prop := fnExactIsWiderUptoRow.holds Try.pinned (OpenSpec.upto fnExactIsWiderSpec)

/-- 'laws.FnExactSharpen', WHERE WHAT IT READS IS OF BULK AT MOST 1048576: true; the input reads as it did. -/
def fnExactSharpenUptoRow : OpenClaim := { program := "ytlpobdjfdbfhaaa", sum := "b59040fddeffe81dab66e01f33ec6feae7f206cbb91cd17f0e19c9ae01037ef3", func := "loop.example/g03007/laws.FnExactSharpen", spec := "fnExactSharpen", unfollowed := true, recurses := true, apart := false, narrowed := true }
def FnExactSharpenUptoSaid : Prop := fnExactSharpenUptoRow.holds Try.pinned (OpenSpec.upto fnExactSharpenSpec)

/-- 'laws.FnExactIsRoute', WHERE WHAT IT READS IS OF BULK AT MOST 1048576: true; the input reads as it did. -/
def fnExactIsRouteUptoRow : OpenClaim := { program := "ytlpobdjfdbfhaaa", sum := "b59040fddeffe81dab66e01f33ec6feae7f206cbb91cd17f0e19c9ae01037ef3", func := "loop.example/g03007/laws.FnExactIsRoute", spec := "fnExactIsRoute", apart := false, narrowed := true }
def FnExactIsRouteUptoSaid : Prop := fnExactIsRouteUptoRow.holds Try.pinned (OpenSpec.upto fnExactIsRouteSpec)

/-- 'laws.FnExactStopAt', WHERE WHAT IT READS IS OF BULK AT MOST 1048576: true; the input reads as it did. -/
def fnExactStopAtUptoRow : OpenClaim := { program := "ytlpobdjfdbfhaaa", sum := "b59040fddeffe81dab66e01f33ec6feae7f206cbb91cd17f0e19c9ae01037ef3", func := "loop.example/g03007/laws.FnExactStopAt", spec := "fnExactStopAt", unfollowed := true, recurses := true, apart := false, narrowed := true }
def FnExactStopAtUptoSaid : Prop := fnExactStopAtUptoRow.holds Try.pinned (OpenSpec.upto fnExactStopAtSpec)

/-- 'laws.FnExactLeftBetween', WHERE WHAT IT READS IS OF BULK AT MOST 1048576: true; the input reads as it did. -/
def fnExactLeftBetweenUptoRow : OpenClaim := { program := "ytlpobdjfdbfhaaa", sum := "b59040fddeffe81dab66e01f33ec6feae7f206cbb91cd17f0e19c9ae01037ef3", func := "loop.example/g03007/laws.FnExactLeftBetween", spec := "fnExactLeftBetween", unfollowed := true, recurses := true, apart := false, narrowed := true }
def FnExactLeftBetweenUptoSaid : Prop := fnExactLeftBetweenUptoRow.holds Try.pinned (OpenSpec.upto fnExactLeftBetweenSpec)

/-- 'laws.FnExactAlongRoute', WHERE WHAT IT READS IS OF BULK AT MOST 1048576: true; the input reads as it did. -/
def fnExactAlongRouteUptoRow : OpenClaim := { program := "ytlpobdjfdbfhaaa", sum := "b59040fddeffe81dab66e01f33ec6feae7f206cbb91cd17f0e19c9ae01037ef3", func := "loop.example/g03007/laws.FnExactAlongRoute", spec := "fnExactAlongRoute", unfollowed := true, recurses := true, apart := false, narrowed := true }
def FnExactAlongRouteUptoSaid : Prop := fnExactAlongRouteUptoRow.holds Try.pinned (OpenSpec.upto fnExactAlongRouteSpec)

/-- 'laws.FnExactRouteHours', WHERE WHAT IT READS IS OF BULK AT MOST 1048576: true; the input reads as it did. -/
def fnExactRouteHoursUptoRow : OpenClaim := { program := "ytlpobdjfdbfhaaa", sum := "b59040fddeffe81dab66e01f33ec6feae7f206cbb91cd17f0e19c9ae01037ef3", func := "loop.example/g03007/laws.FnExactRouteHours", spec := "fnExactRouteHours", apart := false, narrowed := true }
def FnExactRouteHoursUptoSaid : Prop := fnExactRouteHoursUptoRow.holds Try.pinned (OpenSpec.upto fnExactRouteHoursSpec)

end Rows
end Go.Proofs.Ytlpobdjfdbfhaaa
