/-
  No cell of these rows narrows 'for every input' (looked for: loops, veiled, ifaces, maps, wideKeys, modest, calm, conditions, laid).
  DERIVED. THE GIVEN ROWS OF THIS SEAT. 19 by the template 'for every input the law returns true; each argument reads behind the call as it read before'; 0 by the template 'total and deterministic' (their statements: YtmhbciaolpamaaaRTotals.lean).
  GIVEN WITH THE SEED: the statements are not yours to turn. If you find one false, say at which input.
  Laid BY PROGRAM, IN A SANDBOX (cutbox-rows.mjs): the forced cells as the released guide's own fill.sh prints them over the translation a971e4b3978b3428… (all of the seat's roots in one cut). By AI agents, Wed Nov 11 2026. No macro, syntax, notation, axiom, sorry.
-/
import Derived.Test.YtmhbciaolpamaaaRChecked
import GoSem.Claim
import GoSem.ClaimJoined
import GoSem.ClaimMapViews
import Derived.JoinedTies
import Derived.KernelRfl
namespace Go.Proofs.YtmhbciaolpamaaaR
/- THE CELL 'sum', in the pinned program and in every row, IS THE sha256 OF THE DUMP (.gsa) THAT YtmhbciaolpamaaaRProg.lean LOADS. Nothing in Lean hashes anything: it is a label: what it is worth is what the hold of that sum in a sandbox is worth. -/
noncomputable def Try.pinned : Pinned := { name := "ytmhbciaolpamaaar", sum := "a971e4b3978b3428953a7095acf4cd8e743ab5d33b4f47ca6b30751e098ee701", checked := Try.checked }
namespace Rows
def none {H : Type} : Left H := { results := [], args := [] }

/-- 'laws.FnExactParseInt': WHATEVER THE INPUT: true; the input reads as it did. -/
def fnExactParseIntSpec : ChangeSpec := { name := "fnExactParseInt", fn := fun _ => fun
  | [d] => { results := [.lit (.bool true)], args := [d] }
  | _ => none }
def fnExactParseIntRow : OpenClaim := { program := "ytmhbciaolpamaaar", sum := "a971e4b3978b3428953a7095acf4cd8e743ab5d33b4f47ca6b30751e098ee701", func := "loop.example/g03007/laws.FnExactParseInt", spec := "fnExactParseInt", apart := false }
def FnExactParseIntSaid : Prop := fnExactParseIntRow.holds Try.pinned (OpenSpec.ofChange fnExactParseIntSpec)

/-- ITS FALSE NEIGHBOUR: 'it returns false'. Refute it at one input. -/
def fnExactParseIntWrong : ChangeSpec := { name := "fnExactParseInt", fn := fun _ => fun
  | [d] => { results := [.lit (.bool false)], args := [d] }
  | _ => none }
def FnExactParseIntWrongFalsely : Prop := fnExactParseIntRow.holds Try.pinned (OpenSpec.ofChange fnExactParseIntWrong)

/-- 'laws.FnExactEncrypt': WHATEVER THE INPUT: true; the input reads as it did. -/
def fnExactEncryptSpec : ChangeSpec := { name := "fnExactEncrypt", fn := fun _ => fun
  | [d1, d2] => { results := [.lit (.bool true)], args := [d1, d2] }
  | _ => none }
def fnExactEncryptRow : OpenClaim := { program := "ytmhbciaolpamaaar", sum := "a971e4b3978b3428953a7095acf4cd8e743ab5d33b4f47ca6b30751e098ee701", func := "loop.example/g03007/laws.FnExactEncrypt", spec := "fnExactEncrypt", unfollowed := true, recurses := true, apart := false }
def FnExactEncryptSaid : Prop := fnExactEncryptRow.holds Try.pinned (OpenSpec.ofChange fnExactEncryptSpec)

/-- ITS FALSE NEIGHBOUR: 'it returns false'. Refute it at one input. -/
def fnExactEncryptWrong : ChangeSpec := { name := "fnExactEncrypt", fn := fun _ => fun
  | [d1, d2] => { results := [.lit (.bool false)], args := [d1, d2] }
  | _ => none }
def FnExactEncryptWrongFalsely : Prop := fnExactEncryptRow.holds Try.pinned (OpenSpec.ofChange fnExactEncryptWrong)

/-- 'laws.FnExactDecrypt': WHATEVER THE INPUT: true; the input reads as it did. -/
def fnExactDecryptSpec : ChangeSpec := { name := "fnExactDecrypt", fn := fun _ => fun
  | [d1, d2] => { results := [.lit (.bool true)], args := [d1, d2] }
  | _ => none }
def fnExactDecryptRow : OpenClaim := { program := "ytmhbciaolpamaaar", sum := "a971e4b3978b3428953a7095acf4cd8e743ab5d33b4f47ca6b30751e098ee701", func := "loop.example/g03007/laws.FnExactDecrypt", spec := "fnExactDecrypt", unfollowed := true, recurses := true, apart := false }
def FnExactDecryptSaid : Prop := fnExactDecryptRow.holds Try.pinned (OpenSpec.ofChange fnExactDecryptSpec)

/-- ITS FALSE NEIGHBOUR: 'it returns false'. Refute it at one input. -/
def fnExactDecryptWrong : ChangeSpec := { name := "fnExactDecrypt", fn := fun _ => fun
  | [d1, d2] => { results := [.lit (.bool false)], args := [d1, d2] }
  | _ => none }
def FnExactDecryptWrongFalsely : Prop := fnExactDecryptRow.holds Try.pinned (OpenSpec.ofChange fnExactDecryptWrong)

/-- 'laws.FnExactAreReports': WHATEVER THE INPUT: true; the input reads as it did. -/
def fnExactAreReportsSpec : ChangeSpec := { name := "fnExactAreReports", fn := fun _ => fun
  | [d] => { results := [.lit (.bool true)], args := [d] }
  | _ => none }
def fnExactAreReportsRow : OpenClaim := { program := "ytmhbciaolpamaaar", sum := "a971e4b3978b3428953a7095acf4cd8e743ab5d33b4f47ca6b30751e098ee701", func := "loop.example/g03007/laws.FnExactAreReports", spec := "fnExactAreReports", unfollowed := true, recurses := true, apart := false }
def FnExactAreReportsSaid : Prop := fnExactAreReportsRow.holds Try.pinned (OpenSpec.ofChange fnExactAreReportsSpec)

/-- ITS FALSE NEIGHBOUR: 'it returns false'. Refute it at one input. -/
def fnExactAreReportsWrong : ChangeSpec := { name := "fnExactAreReports", fn := fun _ => fun
  | [d] => { results := [.lit (.bool false)], args := [d] }
  | _ => none }
def FnExactAreReportsWrongFalsely : Prop := fnExactAreReportsRow.holds Try.pinned (OpenSpec.ofChange fnExactAreReportsWrong)

/-- 'laws.FnExactFindReport': WHATEVER THE INPUT: true; the input reads as it did. -/
def fnExactFindReportSpec : ChangeSpec := { name := "fnExactFindReport", fn := fun _ => fun
  | [d1, d2] => { results := [.lit (.bool true)], args := [d1, d2] }
  | _ => none }
def fnExactFindReportRow : OpenClaim := { program := "ytmhbciaolpamaaar", sum := "a971e4b3978b3428953a7095acf4cd8e743ab5d33b4f47ca6b30751e098ee701", func := "loop.example/g03007/laws.FnExactFindReport", spec := "fnExactFindReport", unfollowed := true, recurses := true, apart := false }
def FnExactFindReportSaid : Prop := fnExactFindReportRow.holds Try.pinned (OpenSpec.ofChange fnExactFindReportSpec)

/-- ITS FALSE NEIGHBOUR: 'it returns false'. Refute it at one input. -/
def fnExactFindReportWrong : ChangeSpec := { name := "fnExactFindReport", fn := fun _ => fun
  | [d1, d2] => { results := [.lit (.bool false)], args := [d1, d2] }
  | _ => none }
def FnExactFindReportWrongFalsely : Prop := fnExactFindReportRow.holds Try.pinned (OpenSpec.ofChange fnExactFindReportWrong)

/-- 'laws.FnExactPutReport': WHATEVER THE INPUT: true; the input reads as it did. -/
def fnExactPutReportSpec : ChangeSpec := { name := "fnExactPutReport", fn := fun _ => fun
  | [d1, d2] => { results := [.lit (.bool true)], args := [d1, d2] }
  | _ => none }
def fnExactPutReportRow : OpenClaim := { program := "ytmhbciaolpamaaar", sum := "a971e4b3978b3428953a7095acf4cd8e743ab5d33b4f47ca6b30751e098ee701", func := "loop.example/g03007/laws.FnExactPutReport", spec := "fnExactPutReport", unfollowed := true, recurses := true, apart := false }
def FnExactPutReportSaid : Prop := fnExactPutReportRow.holds Try.pinned (OpenSpec.ofChange fnExactPutReportSpec)

/-- ITS FALSE NEIGHBOUR: 'it returns false'. Refute it at one input. -/
def fnExactPutReportWrong : ChangeSpec := { name := "fnExactPutReport", fn := fun _ => fun
  | [d1, d2] => { results := [.lit (.bool false)], args := [d1, d2] }
  | _ => none }
def FnExactPutReportWrongFalsely : Prop := fnExactPutReportRow.holds Try.pinned (OpenSpec.ofChange fnExactPutReportWrong)

/-- 'laws.FnExactCandidates': WHATEVER THE INPUT: true; the input reads as it did. -/
def fnExactCandidatesSpec : ChangeSpec := { name := "fnExactCandidates", fn := fun _ => fun
  | [d1, d2] => { results := [.lit (.bool true)], args := [d1, d2] }
  | _ => none }
def fnExactCandidatesRow : OpenClaim := { program := "ytmhbciaolpamaaar", sum := "a971e4b3978b3428953a7095acf4cd8e743ab5d33b4f47ca6b30751e098ee701", func := "loop.example/g03007/laws.FnExactCandidates", spec := "fnExactCandidates", unfollowed := true, recurses := true, apart := false }
def FnExactCandidatesSaid : Prop := fnExactCandidatesRow.holds Try.pinned (OpenSpec.ofChange fnExactCandidatesSpec)

/-- ITS FALSE NEIGHBOUR: 'it returns false'. Refute it at one input. -/
def fnExactCandidatesWrong : ChangeSpec := { name := "fnExactCandidates", fn := fun _ => fun
  | [d1, d2] => { results := [.lit (.bool false)], args := [d1, d2] }
  | _ => none }
def FnExactCandidatesWrongFalsely : Prop := fnExactCandidatesRow.holds Try.pinned (OpenSpec.ofChange fnExactCandidatesWrong)

/-- 'laws.FnExactSeekers': WHATEVER THE INPUT: true; the input reads as it did. -/
def fnExactSeekersSpec : ChangeSpec := { name := "fnExactSeekers", fn := fun _ => fun
  | [d1, d2] => { results := [.lit (.bool true)], args := [d1, d2] }
  | _ => none }
def fnExactSeekersRow : OpenClaim := { program := "ytmhbciaolpamaaar", sum := "a971e4b3978b3428953a7095acf4cd8e743ab5d33b4f47ca6b30751e098ee701", func := "loop.example/g03007/laws.FnExactSeekers", spec := "fnExactSeekers", unfollowed := true, recurses := true, apart := false }
def FnExactSeekersSaid : Prop := fnExactSeekersRow.holds Try.pinned (OpenSpec.ofChange fnExactSeekersSpec)

/-- ITS FALSE NEIGHBOUR: 'it returns false'. Refute it at one input. -/
def fnExactSeekersWrong : ChangeSpec := { name := "fnExactSeekers", fn := fun _ => fun
  | [d1, d2] => { results := [.lit (.bool false)], args := [d1, d2] }
  | _ => none }
def FnExactSeekersWrongFalsely : Prop := fnExactSeekersRow.holds Try.pinned (OpenSpec.ofChange fnExactSeekersWrong)

/-- 'laws.FnExactIsWider': WHATEVER THE INPUT: true; the input reads as it did. -/
def fnExactIsWiderSpec : ChangeSpec := { name := "fnExactIsWider", fn := fun _ => fun
  | [d1, d2] => { results := [.lit (.bool true)], args := [d1, d2] }
  | _ => none }
def fnExactIsWiderRow : OpenClaim := { program := "ytmhbciaolpamaaar", sum := "a971e4b3978b3428953a7095acf4cd8e743ab5d33b4f47ca6b30751e098ee701", func := "loop.example/g03007/laws.FnExactIsWider", spec := "fnExactIsWider", unfollowed := true, recurses := true, apart := false }
def FnExactIsWiderSaid : Prop := fnExactIsWiderRow.holds Try.pinned (OpenSpec.ofChange fnExactIsWiderSpec)

/-- ITS FALSE NEIGHBOUR: 'it returns false'. Refute it at one input. -/
def fnExactIsWiderWrong : ChangeSpec := { name := "fnExactIsWider", fn := fun _ => fun
  | [d1, d2] => { results := [.lit (.bool false)], args := [d1, d2] }
  | _ => none }
def FnExactIsWiderWrongFalsely : Prop := fnExactIsWiderRow.holds Try.pinned (OpenSpec.ofChange fnExactIsWiderWrong)

/-- 'laws.FnExactWithoutBid': WHATEVER THE INPUT: true; the input reads as it did. -/
def fnExactWithoutBidSpec : ChangeSpec := { name := "fnExactWithoutBid", fn := fun _ => fun
  | [d1, d2] => { results := [.lit (.bool true)], args := [d1, d2] }
  | _ => none }
def fnExactWithoutBidRow : OpenClaim := { program := "ytmhbciaolpamaaar", sum := "a971e4b3978b3428953a7095acf4cd8e743ab5d33b4f47ca6b30751e098ee701", func := "loop.example/g03007/laws.FnExactWithoutBid", spec := "fnExactWithoutBid", unfollowed := true, recurses := true, apart := false }
def FnExactWithoutBidSaid : Prop := fnExactWithoutBidRow.holds Try.pinned (OpenSpec.ofChange fnExactWithoutBidSpec)

/-- ITS FALSE NEIGHBOUR: 'it returns false'. Refute it at one input. -/
def fnExactWithoutBidWrong : ChangeSpec := { name := "fnExactWithoutBid", fn := fun _ => fun
  | [d1, d2] => { results := [.lit (.bool false)], args := [d1, d2] }
  | _ => none }
def FnExactWithoutBidWrongFalsely : Prop := fnExactWithoutBidRow.holds Try.pinned (OpenSpec.ofChange fnExactWithoutBidWrong)

/-- 'laws.FnExactSplitMoney': WHATEVER THE INPUT: true; the input reads as it did. -/
def fnExactSplitMoneySpec : ChangeSpec := { name := "fnExactSplitMoney", fn := fun _ => fun
  | [d1, d2] => { results := [.lit (.bool true)], args := [d1, d2] }
  | _ => none }
def fnExactSplitMoneyRow : OpenClaim := { program := "ytmhbciaolpamaaar", sum := "a971e4b3978b3428953a7095acf4cd8e743ab5d33b4f47ca6b30751e098ee701", func := "loop.example/g03007/laws.FnExactSplitMoney", spec := "fnExactSplitMoney", apart := false }
def FnExactSplitMoneySaid : Prop := fnExactSplitMoneyRow.holds Try.pinned (OpenSpec.ofChange fnExactSplitMoneySpec)

/-- ITS FALSE NEIGHBOUR: 'it returns false'. Refute it at one input. -/
def fnExactSplitMoneyWrong : ChangeSpec := { name := "fnExactSplitMoney", fn := fun _ => fun
  | [d1, d2] => { results := [.lit (.bool false)], args := [d1, d2] }
  | _ => none }
def FnExactSplitMoneyWrongFalsely : Prop := fnExactSplitMoneyRow.holds Try.pinned (OpenSpec.ofChange fnExactSplitMoneyWrong)

/-- 'laws.FnExactSalesOf': WHATEVER THE INPUT: true; the input reads as it did. -/
def fnExactSalesOfSpec : ChangeSpec := { name := "fnExactSalesOf", fn := fun _ => fun
  | [d1, d2] => { results := [.lit (.bool true)], args := [d1, d2] }
  | _ => none }
def fnExactSalesOfRow : OpenClaim := { program := "ytmhbciaolpamaaar", sum := "a971e4b3978b3428953a7095acf4cd8e743ab5d33b4f47ca6b30751e098ee701", func := "loop.example/g03007/laws.FnExactSalesOf", spec := "fnExactSalesOf", apart := false }
def FnExactSalesOfSaid : Prop := fnExactSalesOfRow.holds Try.pinned (OpenSpec.ofChange fnExactSalesOfSpec)

/-- ITS FALSE NEIGHBOUR: 'it returns false'. Refute it at one input. -/
def fnExactSalesOfWrong : ChangeSpec := { name := "fnExactSalesOf", fn := fun _ => fun
  | [d1, d2] => { results := [.lit (.bool false)], args := [d1, d2] }
  | _ => none }
def FnExactSalesOfWrongFalsely : Prop := fnExactSalesOfRow.holds Try.pinned (OpenSpec.ofChange fnExactSalesOfWrong)

/-- 'laws.FnExactIsParcel': WHATEVER THE INPUT: true; the input reads as it did. -/
def fnExactIsParcelSpec : ChangeSpec := { name := "fnExactIsParcel", fn := fun _ => fun
  | [d] => { results := [.lit (.bool true)], args := [d] }
  | _ => none }
def fnExactIsParcelRow : OpenClaim := { program := "ytmhbciaolpamaaar", sum := "a971e4b3978b3428953a7095acf4cd8e743ab5d33b4f47ca6b30751e098ee701", func := "loop.example/g03007/laws.FnExactIsParcel", spec := "fnExactIsParcel", apart := false }
def FnExactIsParcelSaid : Prop := fnExactIsParcelRow.holds Try.pinned (OpenSpec.ofChange fnExactIsParcelSpec)

/-- ITS FALSE NEIGHBOUR: 'it returns false'. Refute it at one input. -/
def fnExactIsParcelWrong : ChangeSpec := { name := "fnExactIsParcel", fn := fun _ => fun
  | [d] => { results := [.lit (.bool false)], args := [d] }
  | _ => none }
def FnExactIsParcelWrongFalsely : Prop := fnExactIsParcelRow.holds Try.pinned (OpenSpec.ofChange fnExactIsParcelWrong)

/-- 'laws.FnExactKindOf': WHATEVER THE INPUT: true; the input reads as it did. -/
def fnExactKindOfSpec : ChangeSpec := { name := "fnExactKindOf", fn := fun _ => fun
  | [d] => { results := [.lit (.bool true)], args := [d] }
  | _ => none }
def fnExactKindOfRow : OpenClaim := { program := "ytmhbciaolpamaaar", sum := "a971e4b3978b3428953a7095acf4cd8e743ab5d33b4f47ca6b30751e098ee701", func := "loop.example/g03007/laws.FnExactKindOf", spec := "fnExactKindOf", apart := false }
def FnExactKindOfSaid : Prop := fnExactKindOfRow.holds Try.pinned (OpenSpec.ofChange fnExactKindOfSpec)

/-- ITS FALSE NEIGHBOUR: 'it returns false'. Refute it at one input. -/
def fnExactKindOfWrong : ChangeSpec := { name := "fnExactKindOf", fn := fun _ => fun
  | [d] => { results := [.lit (.bool false)], args := [d] }
  | _ => none }
def FnExactKindOfWrongFalsely : Prop := fnExactKindOfRow.holds Try.pinned (OpenSpec.ofChange fnExactKindOfWrong)

/-- 'laws.FnExactAreSecrets': WHATEVER THE INPUT: true; the input reads as it did. -/
def fnExactAreSecretsSpec : ChangeSpec := { name := "fnExactAreSecrets", fn := fun _ => fun
  | [d] => { results := [.lit (.bool true)], args := [d] }
  | _ => none }
def fnExactAreSecretsRow : OpenClaim := { program := "ytmhbciaolpamaaar", sum := "a971e4b3978b3428953a7095acf4cd8e743ab5d33b4f47ca6b30751e098ee701", func := "loop.example/g03007/laws.FnExactAreSecrets", spec := "fnExactAreSecrets", unfollowed := true, recurses := true, apart := false }
def FnExactAreSecretsSaid : Prop := fnExactAreSecretsRow.holds Try.pinned (OpenSpec.ofChange fnExactAreSecretsSpec)

/-- ITS FALSE NEIGHBOUR: 'it returns false'. Refute it at one input. -/
def fnExactAreSecretsWrong : ChangeSpec := { name := "fnExactAreSecrets", fn := fun _ => fun
  | [d] => { results := [.lit (.bool false)], args := [d] }
  | _ => none }
def FnExactAreSecretsWrongFalsely : Prop := fnExactAreSecretsRow.holds Try.pinned (OpenSpec.ofChange fnExactAreSecretsWrong)

/-- 'laws.FnExactEqualSecrets': WHATEVER THE INPUT: true; the input reads as it did. -/
def fnExactEqualSecretsSpec : ChangeSpec := { name := "fnExactEqualSecrets", fn := fun _ => fun
  | [d1, d2] => { results := [.lit (.bool true)], args := [d1, d2] }
  | _ => none }
def fnExactEqualSecretsRow : OpenClaim := { program := "ytmhbciaolpamaaar", sum := "a971e4b3978b3428953a7095acf4cd8e743ab5d33b4f47ca6b30751e098ee701", func := "loop.example/g03007/laws.FnExactEqualSecrets", spec := "fnExactEqualSecrets", unfollowed := true, recurses := true, apart := false }
def FnExactEqualSecretsSaid : Prop := fnExactEqualSecretsRow.holds Try.pinned (OpenSpec.ofChange fnExactEqualSecretsSpec)

/-- ITS FALSE NEIGHBOUR: 'it returns false'. Refute it at one input. -/
def fnExactEqualSecretsWrong : ChangeSpec := { name := "fnExactEqualSecrets", fn := fun _ => fun
  | [d1, d2] => { results := [.lit (.bool false)], args := [d1, d2] }
  | _ => none }
def FnExactEqualSecretsWrongFalsely : Prop := fnExactEqualSecretsRow.holds Try.pinned (OpenSpec.ofChange fnExactEqualSecretsWrong)

/-- 'laws.FnExactCountEvents': WHATEVER THE INPUT: true; the input reads as it did. -/
def fnExactCountEventsSpec : ChangeSpec := { name := "fnExactCountEvents", fn := fun _ => fun
  | [d1, d2] => { results := [.lit (.bool true)], args := [d1, d2] }
  | _ => none }
def fnExactCountEventsRow : OpenClaim := { program := "ytmhbciaolpamaaar", sum := "a971e4b3978b3428953a7095acf4cd8e743ab5d33b4f47ca6b30751e098ee701", func := "loop.example/g03007/laws.FnExactCountEvents", spec := "fnExactCountEvents", unfollowed := true, recurses := true, apart := false }
def FnExactCountEventsSaid : Prop := fnExactCountEventsRow.holds Try.pinned (OpenSpec.ofChange fnExactCountEventsSpec)

/-- ITS FALSE NEIGHBOUR: 'it returns false'. Refute it at one input. -/
def fnExactCountEventsWrong : ChangeSpec := { name := "fnExactCountEvents", fn := fun _ => fun
  | [d1, d2] => { results := [.lit (.bool false)], args := [d1, d2] }
  | _ => none }
def FnExactCountEventsWrongFalsely : Prop := fnExactCountEventsRow.holds Try.pinned (OpenSpec.ofChange fnExactCountEventsWrong)

/-- 'laws.FnExactBusiestPlace': WHATEVER THE INPUT: true; the input reads as it did. -/
def fnExactBusiestPlaceSpec : ChangeSpec := { name := "fnExactBusiestPlace", fn := fun _ => fun
  | [d] => { results := [.lit (.bool true)], args := [d] }
  | _ => none }
def fnExactBusiestPlaceRow : OpenClaim := { program := "ytmhbciaolpamaaar", sum := "a971e4b3978b3428953a7095acf4cd8e743ab5d33b4f47ca6b30751e098ee701", func := "loop.example/g03007/laws.FnExactBusiestPlace", spec := "fnExactBusiestPlace", unfollowed := true, recurses := true, apart := false }
def FnExactBusiestPlaceSaid : Prop := fnExactBusiestPlaceRow.holds Try.pinned (OpenSpec.ofChange fnExactBusiestPlaceSpec)

/-- ITS FALSE NEIGHBOUR: 'it returns false'. Refute it at one input. -/
def fnExactBusiestPlaceWrong : ChangeSpec := { name := "fnExactBusiestPlace", fn := fun _ => fun
  | [d] => { results := [.lit (.bool false)], args := [d] }
  | _ => none }
def FnExactBusiestPlaceWrongFalsely : Prop := fnExactBusiestPlaceRow.holds Try.pinned (OpenSpec.ofChange fnExactBusiestPlaceWrong)

/-- 'laws.FnExactServedShare': WHATEVER THE INPUT: true; the input reads as it did. -/
def fnExactServedShareSpec : ChangeSpec := { name := "fnExactServedShare", fn := fun _ => fun
  | [d] => { results := [.lit (.bool true)], args := [d] }
  | _ => none }
def fnExactServedShareRow : OpenClaim := { program := "ytmhbciaolpamaaar", sum := "a971e4b3978b3428953a7095acf4cd8e743ab5d33b4f47ca6b30751e098ee701", func := "loop.example/g03007/laws.FnExactServedShare", spec := "fnExactServedShare", unfollowed := true, recurses := true, apart := false }
def FnExactServedShareSaid : Prop := fnExactServedShareRow.holds Try.pinned (OpenSpec.ofChange fnExactServedShareSpec)

/-- ITS FALSE NEIGHBOUR: 'it returns false'. Refute it at one input. -/
def fnExactServedShareWrong : ChangeSpec := { name := "fnExactServedShare", fn := fun _ => fun
  | [d] => { results := [.lit (.bool false)], args := [d] }
  | _ => none }
def FnExactServedShareWrongFalsely : Prop := fnExactServedShareRow.holds Try.pinned (OpenSpec.ofChange fnExactServedShareWrong)

/- THE SECOND FORM. 'bulk': how many values and letters a reading holds, each counted each time it is reached (what is shared counts as often as it is met; a slice's spare places count too). A statement '..UptoSaid' is the law's where the arguments, and the package variables that the reading takes, are together of bulk at most 1048576: NARROWER than '..Said'. Prove '..Said' where nothing that the law and all that it calls make is longer than what came in: it says more and counts as full. Else prove '..UptoSaid'. A law counts once. -/
mutual
def uptoBulk {H : Type} : DataW H → Nat
  | .lit (.string bytes) => bytes.length + 1
  | .lit _ => 1
  | .nil => 1
  | .ptr d => uptoBulk d + 1
  | .slice elems spare => uptoBulkAll elems + uptoBulkAll spare + 1
  | .agg parts => uptoBulkAll parts + 1
  | .iface _ d => uptoBulk d + 1
  | .map entries => uptoBulkEntries entries + 1
  | .held _ => 1
def uptoBulkAll {H : Type} : List (DataW H) → Nat
  | [] => 0
  | d :: r => uptoBulk d + uptoBulkAll r
def uptoBulkEntries {H : Type} : List (Lit × DataW H) → Nat
  | [] => 0
  | x :: r => uptoBulkEntry x + uptoBulkEntries r
def uptoBulkEntry {H : Type} : Lit × DataW H → Nat
  | (.string bytes, d) => bytes.length + uptoBulk d + 1
  | (_, d) => uptoBulk d + 1
 end
def uptoSmall : (H : Type) → List (DataW H) → Bool := fun _ ds => decide (uptoBulkAll ds ≤ 1048576)
def OpenSpec.upto (s : _root_.Go.ChangeSpec) : _root_.Go.OpenSpec := { _root_.Go.OpenSpec.ofChange s with cond := some uptoSmall }

/-- 'laws.FnExactParseInt', WHERE WHAT IT READS IS OF BULK AT MOST 1048576: true; the input reads as it did. -/
def fnExactParseIntUptoRow : OpenClaim := { program := "ytmhbciaolpamaaar", sum := "a971e4b3978b3428953a7095acf4cd8e743ab5d33b4f47ca6b30751e098ee701", func := "loop.example/g03007/laws.FnExactParseInt", spec := "fnExactParseInt", apart := false, narrowed := true }
def FnExactParseIntUptoSaid : Prop := fnExactParseIntUptoRow.holds Try.pinned (OpenSpec.upto fnExactParseIntSpec)

/-- 'laws.FnExactEncrypt', WHERE WHAT IT READS IS OF BULK AT MOST 1048576: true; the input reads as it did. -/
def fnExactEncryptUptoRow : OpenClaim := { program := "ytmhbciaolpamaaar", sum := "a971e4b3978b3428953a7095acf4cd8e743ab5d33b4f47ca6b30751e098ee701", func := "loop.example/g03007/laws.FnExactEncrypt", spec := "fnExactEncrypt", unfollowed := true, recurses := true, apart := false, narrowed := true }
def FnExactEncryptUptoSaid : Prop := fnExactEncryptUptoRow.holds Try.pinned (OpenSpec.upto fnExactEncryptSpec)

/-- 'laws.FnExactDecrypt', WHERE WHAT IT READS IS OF BULK AT MOST 1048576: true; the input reads as it did. -/
def fnExactDecryptUptoRow : OpenClaim := { program := "ytmhbciaolpamaaar", sum := "a971e4b3978b3428953a7095acf4cd8e743ab5d33b4f47ca6b30751e098ee701", func := "loop.example/g03007/laws.FnExactDecrypt", spec := "fnExactDecrypt", unfollowed := true, recurses := true, apart := false, narrowed := true }
def FnExactDecryptUptoSaid : Prop := fnExactDecryptUptoRow.holds Try.pinned (OpenSpec.upto fnExactDecryptSpec)

/-- 'laws.FnExactAreReports', WHERE WHAT IT READS IS OF BULK AT MOST 1048576: true; the input reads as it did. -/
def fnExactAreReportsUptoRow : OpenClaim := { program := "ytmhbciaolpamaaar", sum := "a971e4b3978b3428953a7095acf4cd8e743ab5d33b4f47ca6b30751e098ee701", func := "loop.example/g03007/laws.FnExactAreReports", spec := "fnExactAreReports", unfollowed := true, recurses := true, apart := false, narrowed := true }
def FnExactAreReportsUptoSaid : Prop := fnExactAreReportsUptoRow.holds Try.pinned (OpenSpec.upto fnExactAreReportsSpec)

/-- 'laws.FnExactFindReport', WHERE WHAT IT READS IS OF BULK AT MOST 1048576: true; the input reads as it did. -/
def fnExactFindReportUptoRow : OpenClaim := { program := "ytmhbciaolpamaaar", sum := "a971e4b3978b3428953a7095acf4cd8e743ab5d33b4f47ca6b30751e098ee701", func := "loop.example/g03007/laws.FnExactFindReport", spec := "fnExactFindReport", unfollowed := true, recurses := true, apart := false, narrowed := true }
def FnExactFindReportUptoSaid : Prop := fnExactFindReportUptoRow.holds Try.pinned (OpenSpec.upto fnExactFindReportSpec)

/-- 'laws.FnExactPutReport', WHERE WHAT IT READS IS OF BULK AT MOST 1048576: true; the input reads as it did. -/
def fnExactPutReportUptoRow : OpenClaim := { program := "ytmhbciaolpamaaar", sum := "a971e4b3978b3428953a7095acf4cd8e743ab5d33b4f47ca6b30751e098ee701", func := "loop.example/g03007/laws.FnExactPutReport", spec := "fnExactPutReport", unfollowed := true, recurses := true, apart := false, narrowed := true }
def FnExactPutReportUptoSaid : Prop := fnExactPutReportUptoRow.holds Try.pinned (OpenSpec.upto fnExactPutReportSpec)

/-- 'laws.FnExactCandidates', WHERE WHAT IT READS IS OF BULK AT MOST 1048576: true; the input reads as it did. -/
def fnExactCandidatesUptoRow : OpenClaim := { program := "ytmhbciaolpamaaar", sum := "a971e4b3978b3428953a7095acf4cd8e743ab5d33b4f47ca6b30751e098ee701", func := "loop.example/g03007/laws.FnExactCandidates", spec := "fnExactCandidates", unfollowed := true, recurses := true, apart := false, narrowed := true }
def FnExactCandidatesUptoSaid : Prop := fnExactCandidatesUptoRow.holds Try.pinned (OpenSpec.upto fnExactCandidatesSpec)

/-- 'laws.FnExactSeekers', WHERE WHAT IT READS IS OF BULK AT MOST 1048576: true; the input reads as it did. -/
def fnExactSeekersUptoRow : OpenClaim := { program := "ytmhbciaolpamaaar", sum := "a971e4b3978b3428953a7095acf4cd8e743ab5d33b4f47ca6b30751e098ee701", func := "loop.example/g03007/laws.FnExactSeekers", spec := "fnExactSeekers", unfollowed := true, recurses := true, apart := false, narrowed := true }
def FnExactSeekersUptoSaid : Prop := fnExactSeekersUptoRow.holds Try.pinned (OpenSpec.upto fnExactSeekersSpec)

/-- 'laws.FnExactIsWider', WHERE WHAT IT READS IS OF BULK AT MOST 1048576: true; the input reads as it did. -/
def fnExactIsWiderUptoRow : OpenClaim := { program := "ytmhbciaolpamaaar", sum := "a971e4b3978b3428953a7095acf4cd8e743ab5d33b4f47ca6b30751e098ee701", func := "loop.example/g03007/laws.FnExactIsWider", spec := "fnExactIsWider", unfollowed := true, recurses := true, apart := false, narrowed := true }
def FnExactIsWiderUptoSaid : Prop := fnExactIsWiderUptoRow.holds Try.pinned (OpenSpec.upto fnExactIsWiderSpec)

/-- 'laws.FnExactWithoutBid', WHERE WHAT IT READS IS OF BULK AT MOST 1048576: true; the input reads as it did. -/
def fnExactWithoutBidUptoRow : OpenClaim := { program := "ytmhbciaolpamaaar", sum := "a971e4b3978b3428953a7095acf4cd8e743ab5d33b4f47ca6b30751e098ee701", func := "loop.example/g03007/laws.FnExactWithoutBid", spec := "fnExactWithoutBid", unfollowed := true, recurses := true, apart := false, narrowed := true }
def FnExactWithoutBidUptoSaid : Prop := fnExactWithoutBidUptoRow.holds Try.pinned (OpenSpec.upto fnExactWithoutBidSpec)

/-- 'laws.FnExactSplitMoney', WHERE WHAT IT READS IS OF BULK AT MOST 1048576: true; the input reads as it did. -/
def fnExactSplitMoneyUptoRow : OpenClaim := { program := "ytmhbciaolpamaaar", sum := "a971e4b3978b3428953a7095acf4cd8e743ab5d33b4f47ca6b30751e098ee701", func := "loop.example/g03007/laws.FnExactSplitMoney", spec := "fnExactSplitMoney", apart := false, narrowed := true }
def FnExactSplitMoneyUptoSaid : Prop := fnExactSplitMoneyUptoRow.holds Try.pinned (OpenSpec.upto fnExactSplitMoneySpec)

/-- 'laws.FnExactSalesOf', WHERE WHAT IT READS IS OF BULK AT MOST 1048576: true; the input reads as it did. -/
def fnExactSalesOfUptoRow : OpenClaim := { program := "ytmhbciaolpamaaar", sum := "a971e4b3978b3428953a7095acf4cd8e743ab5d33b4f47ca6b30751e098ee701", func := "loop.example/g03007/laws.FnExactSalesOf", spec := "fnExactSalesOf", apart := false, narrowed := true }
def FnExactSalesOfUptoSaid : Prop := fnExactSalesOfUptoRow.holds Try.pinned (OpenSpec.upto fnExactSalesOfSpec)

/-- 'laws.FnExactIsParcel', WHERE WHAT IT READS IS OF BULK AT MOST 1048576: true; the input reads as it did. -/
def fnExactIsParcelUptoRow : OpenClaim := { program := "ytmhbciaolpamaaar", sum := "a971e4b3978b3428953a7095acf4cd8e743ab5d33b4f47ca6b30751e098ee701", func := "loop.example/g03007/laws.FnExactIsParcel", spec := "fnExactIsParcel", apart := false, narrowed := true }
def FnExactIsParcelUptoSaid : Prop := fnExactIsParcelUptoRow.holds Try.pinned (OpenSpec.upto fnExactIsParcelSpec)

/-- 'laws.FnExactKindOf', WHERE WHAT IT READS IS OF BULK AT MOST 1048576: true; the input reads as it did. -/
def fnExactKindOfUptoRow : OpenClaim := { program := "ytmhbciaolpamaaar", sum := "a971e4b3978b3428953a7095acf4cd8e743ab5d33b4f47ca6b30751e098ee701", func := "loop.example/g03007/laws.FnExactKindOf", spec := "fnExactKindOf", apart := false, narrowed := true }
def FnExactKindOfUptoSaid : Prop := fnExactKindOfUptoRow.holds Try.pinned (OpenSpec.upto fnExactKindOfSpec)

/-- 'laws.FnExactAreSecrets', WHERE WHAT IT READS IS OF BULK AT MOST 1048576: true; the input reads as it did. -/
def fnExactAreSecretsUptoRow : OpenClaim := { program := "ytmhbciaolpamaaar", sum := "a971e4b3978b3428953a7095acf4cd8e743ab5d33b4f47ca6b30751e098ee701", func := "loop.example/g03007/laws.FnExactAreSecrets", spec := "fnExactAreSecrets", unfollowed := true, recurses := true, apart := false, narrowed := true }
def FnExactAreSecretsUptoSaid : Prop := fnExactAreSecretsUptoRow.holds Try.pinned (OpenSpec.upto fnExactAreSecretsSpec)

/-- 'laws.FnExactEqualSecrets', WHERE WHAT IT READS IS OF BULK AT MOST 1048576: true; the input reads as it did. -/
def fnExactEqualSecretsUptoRow : OpenClaim := { program := "ytmhbciaolpamaaar", sum := "a971e4b3978b3428953a7095acf4cd8e743ab5d33b4f47ca6b30751e098ee701", func := "loop.example/g03007/laws.FnExactEqualSecrets", spec := "fnExactEqualSecrets", unfollowed := true, recurses := true, apart := false, narrowed := true }
def FnExactEqualSecretsUptoSaid : Prop := fnExactEqualSecretsUptoRow.holds Try.pinned (OpenSpec.upto fnExactEqualSecretsSpec)

/-- 'laws.FnExactCountEvents', WHERE WHAT IT READS IS OF BULK AT MOST 1048576: true; the input reads as it did. -/
def fnExactCountEventsUptoRow : OpenClaim := { program := "ytmhbciaolpamaaar", sum := "a971e4b3978b3428953a7095acf4cd8e743ab5d33b4f47ca6b30751e098ee701", func := "loop.example/g03007/laws.FnExactCountEvents", spec := "fnExactCountEvents", unfollowed := true, recurses := true, apart := false, narrowed := true }
def FnExactCountEventsUptoSaid : Prop := fnExactCountEventsUptoRow.holds Try.pinned (OpenSpec.upto fnExactCountEventsSpec)

/-- 'laws.FnExactBusiestPlace', WHERE WHAT IT READS IS OF BULK AT MOST 1048576: true; the input reads as it did. -/
def fnExactBusiestPlaceUptoRow : OpenClaim := { program := "ytmhbciaolpamaaar", sum := "a971e4b3978b3428953a7095acf4cd8e743ab5d33b4f47ca6b30751e098ee701", func := "loop.example/g03007/laws.FnExactBusiestPlace", spec := "fnExactBusiestPlace", unfollowed := true, recurses := true, apart := false, narrowed := true }
def FnExactBusiestPlaceUptoSaid : Prop := fnExactBusiestPlaceUptoRow.holds Try.pinned (OpenSpec.upto fnExactBusiestPlaceSpec)

/-- 'laws.FnExactServedShare', WHERE WHAT IT READS IS OF BULK AT MOST 1048576: true; the input reads as it did. -/
def fnExactServedShareUptoRow : OpenClaim := { program := "ytmhbciaolpamaaar", sum := "a971e4b3978b3428953a7095acf4cd8e743ab5d33b4f47ca6b30751e098ee701", func := "loop.example/g03007/laws.FnExactServedShare", spec := "fnExactServedShare", unfollowed := true, recurses := true, apart := false, narrowed := true }
def FnExactServedShareUptoSaid : Prop := fnExactServedShareUptoRow.holds Try.pinned (OpenSpec.upto fnExactServedShareSpec)

end Rows
end Go.Proofs.YtmhbciaolpamaaaR
