/-
  DERIVED. GIVEN WITH THE SEED: THE CARDS: each row of YtbpcabaaniiggaaDoorRows.lean that lists a variable, with what it lists TIED to the program's text (the seventh form; the later family's looks); each row that meets fmt, with fmt's text TOLD by the authors' own Lean function (tested against real Go, not proved from fmt's source: count such statements apart). THE CARD IS WHAT COUNTS. Prove the row's statement (the work); the ties are given (YtbpcabaaniiggaaDoorTie.lean); close each card by the builder's one call (the guide's Derived/Test/ToyasCard.lean, 'card_holds'). Laid BY PROGRAM, IN A SANDBOX (cutbox-door.mjs). By AI agents, Wed Nov 11 2026. No macro, syntax, notation, axiom, sorry.
-/
import Derived.Test.YtbpcabaaniiggaaDoorRows
import GoSem.ClaimSeven
namespace Go.Proofs.YtbpcabaaniiggaaDoor
namespace Rows

/-- THE TIED CARD OF 'laws.FnExactFormatInt'. -/
def fnExactFormatIntCard : Claim7 := { stood := { row := fnExactFormatIntRow, standIns := [], harness := (true, "c00167d31166506cb0e150f137a558f6d22fdd2a46dcd0189a648c97a2f4a144"), looks := false }, kinds := [], alts := [], laidByText := true, laidKinds := [.data, .data, .data], laidTests := true, laidLooks := .later }
def FnExactFormatIntCardSaid : Prop := Claim7.holds Tryd.pinned (.plain (OpenSpec.ofChange fnExactFormatIntSpec)) fnExactFormatIntCard

/-- THE TIED CARD OF 'laws.FnExactThingText'. -/
def fnExactThingTextCard : Claim7 := { stood := { row := fnExactThingTextRow, standIns := [], harness := (true, "c00167d31166506cb0e150f137a558f6d22fdd2a46dcd0189a648c97a2f4a144"), looks := false }, kinds := [], alts := [], laidByText := true, laidKinds := [.data, .data, .data], laidTests := true, laidLooks := .later }
def FnExactThingTextCardSaid : Prop := Claim7.holds Tryd.pinned (.plain (OpenSpec.ofChange fnExactThingTextSpec)) fnExactThingTextCard

/-- THE TIED CARD OF 'laws.FnExactListText'. -/
def fnExactListTextCard : Claim7 := { stood := { row := fnExactListTextRow, standIns := [], harness := (true, "c00167d31166506cb0e150f137a558f6d22fdd2a46dcd0189a648c97a2f4a144"), looks := false }, kinds := [], alts := [], laidByText := true, laidKinds := [.data, .data, .data], laidTests := true, laidLooks := .later }
def FnExactListTextCardSaid : Prop := Claim7.holds Tryd.pinned (.plain (OpenSpec.ofChange fnExactListTextSpec)) fnExactListTextCard

/-- THE TIED CARD OF 'laws.FnExactReportText'. -/
def fnExactReportTextCard : Claim7 := { stood := { row := fnExactReportTextRow, standIns := [], harness := (true, "c00167d31166506cb0e150f137a558f6d22fdd2a46dcd0189a648c97a2f4a144"), looks := false }, kinds := [], alts := [], laidByText := true, laidKinds := [.data, .data, .data], laidTests := true, laidLooks := .later }
def FnExactReportTextCardSaid : Prop := Claim7.holds Tryd.pinned (.plain (OpenSpec.ofChange fnExactReportTextSpec)) fnExactReportTextCard

/-- THE TIED CARD OF 'laws.FnExactFindText'. -/
def fnExactFindTextCard : Claim7 := { stood := { row := fnExactFindTextRow, standIns := [], harness := (true, "c00167d31166506cb0e150f137a558f6d22fdd2a46dcd0189a648c97a2f4a144"), looks := false }, kinds := [], alts := [], laidByText := true, laidKinds := [.data, .data, .data], laidTests := true, laidLooks := .later }
def FnExactFindTextCardSaid : Prop := Claim7.holds Tryd.pinned (.plain (OpenSpec.ofChange fnExactFindTextSpec)) fnExactFindTextCard

/-- THE TIED CARD OF 'laws.FnExactTaskText'. -/
def fnExactTaskTextCard : Claim7 := { stood := { row := fnExactTaskTextRow, standIns := [], harness := (true, "c00167d31166506cb0e150f137a558f6d22fdd2a46dcd0189a648c97a2f4a144"), looks := false }, kinds := [], alts := [], laidByText := true, laidKinds := [.data, .data, .data], laidTests := true, laidLooks := .later }
def FnExactTaskTextCardSaid : Prop := Claim7.holds Tryd.pinned (.plain (OpenSpec.ofChange fnExactTaskTextSpec)) fnExactTaskTextCard

/-- THE TIED CARD OF 'laws.FnExactFormatNumbers'. -/
def fnExactFormatNumbersCard : Claim7 := { stood := { row := fnExactFormatNumbersRow, standIns := [], harness := (true, "c00167d31166506cb0e150f137a558f6d22fdd2a46dcd0189a648c97a2f4a144"), looks := false }, kinds := [], alts := [], laidByText := true, laidKinds := [.data, .data, .data], laidTests := true, laidLooks := .later }
def FnExactFormatNumbersCardSaid : Prop := Claim7.holds Tryd.pinned (.plain (OpenSpec.ofChange fnExactFormatNumbersSpec)) fnExactFormatNumbersCard

/-- THE TIED CARD OF 'laws.FnExactFormatCents'. -/
def fnExactFormatCentsCard : Claim7 := { stood := { row := fnExactFormatCentsRow, standIns := [], harness := (true, "c00167d31166506cb0e150f137a558f6d22fdd2a46dcd0189a648c97a2f4a144"), looks := false }, kinds := [], alts := [], laidByText := true, laidKinds := [.data, .data, .data], laidTests := true, laidLooks := .later }
def FnExactFormatCentsCardSaid : Prop := Claim7.holds Tryd.pinned (.plain (OpenSpec.ofChange fnExactFormatCentsSpec)) fnExactFormatCentsCard

/-- THE TIED CARD OF 'laws.FnExactFormatSlots'. -/
def fnExactFormatSlotsCard : Claim7 := { stood := { row := fnExactFormatSlotsRow, standIns := [], harness := (true, "c00167d31166506cb0e150f137a558f6d22fdd2a46dcd0189a648c97a2f4a144"), looks := false }, kinds := [], alts := [], laidByText := true, laidKinds := [.data, .data, .data], laidTests := true, laidLooks := .later }
def FnExactFormatSlotsCardSaid : Prop := Claim7.holds Tryd.pinned (.plain (OpenSpec.ofChange fnExactFormatSlotsSpec)) fnExactFormatSlotsCard

/-- THE TIED CARD OF 'laws.FnExactFormatClaims'. -/
def fnExactFormatClaimsCard : Claim7 := { stood := { row := fnExactFormatClaimsRow, standIns := [], harness := (true, "c00167d31166506cb0e150f137a558f6d22fdd2a46dcd0189a648c97a2f4a144"), looks := false }, kinds := [], alts := [], laidByText := true, laidKinds := [.data, .data, .data], laidTests := true, laidLooks := .later }
def FnExactFormatClaimsCardSaid : Prop := Claim7.holds Tryd.pinned (.plain (OpenSpec.ofChange fnExactFormatClaimsSpec)) fnExactFormatClaimsCard

/-- THE TIED CARD OF 'laws.FnExactFormatHits'. -/
def fnExactFormatHitsCard : Claim7 := { stood := { row := fnExactFormatHitsRow, standIns := [], harness := (true, "c00167d31166506cb0e150f137a558f6d22fdd2a46dcd0189a648c97a2f4a144"), looks := false }, kinds := [], alts := [], laidByText := true, laidKinds := [.data, .data, .data], laidTests := true, laidLooks := .later }
def FnExactFormatHitsCardSaid : Prop := Claim7.holds Tryd.pinned (.plain (OpenSpec.ofChange fnExactFormatHitsSpec)) fnExactFormatHitsCard

/-- THE SECOND FORM's CARD OF 'laws.FnExactFormatInt'. -/
def fnExactFormatIntUptoCard : Claim7 := { stood := { row := fnExactFormatIntUptoRow, standIns := [], harness := (true, "c00167d31166506cb0e150f137a558f6d22fdd2a46dcd0189a648c97a2f4a144"), looks := false }, kinds := [], alts := [], laidByText := true, laidKinds := [.data, .data, .data], laidTests := true, laidLooks := .later }
def FnExactFormatIntUptoCardSaid : Prop := Claim7.holds Tryd.pinned (.plain (OpenSpec.upto fnExactFormatIntSpec)) fnExactFormatIntUptoCard

/-- THE SECOND FORM's CARD OF 'laws.FnExactThingText'. -/
def fnExactThingTextUptoCard : Claim7 := { stood := { row := fnExactThingTextUptoRow, standIns := [], harness := (true, "c00167d31166506cb0e150f137a558f6d22fdd2a46dcd0189a648c97a2f4a144"), looks := false }, kinds := [], alts := [], laidByText := true, laidKinds := [.data, .data, .data], laidTests := true, laidLooks := .later }
def FnExactThingTextUptoCardSaid : Prop := Claim7.holds Tryd.pinned (.plain (OpenSpec.upto fnExactThingTextSpec)) fnExactThingTextUptoCard

/-- THE SECOND FORM's CARD OF 'laws.FnExactListText'. -/
def fnExactListTextUptoCard : Claim7 := { stood := { row := fnExactListTextUptoRow, standIns := [], harness := (true, "c00167d31166506cb0e150f137a558f6d22fdd2a46dcd0189a648c97a2f4a144"), looks := false }, kinds := [], alts := [], laidByText := true, laidKinds := [.data, .data, .data], laidTests := true, laidLooks := .later }
def FnExactListTextUptoCardSaid : Prop := Claim7.holds Tryd.pinned (.plain (OpenSpec.upto fnExactListTextSpec)) fnExactListTextUptoCard

/-- THE SECOND FORM's CARD OF 'laws.FnExactReportText'. -/
def fnExactReportTextUptoCard : Claim7 := { stood := { row := fnExactReportTextUptoRow, standIns := [], harness := (true, "c00167d31166506cb0e150f137a558f6d22fdd2a46dcd0189a648c97a2f4a144"), looks := false }, kinds := [], alts := [], laidByText := true, laidKinds := [.data, .data, .data], laidTests := true, laidLooks := .later }
def FnExactReportTextUptoCardSaid : Prop := Claim7.holds Tryd.pinned (.plain (OpenSpec.upto fnExactReportTextSpec)) fnExactReportTextUptoCard

/-- THE SECOND FORM's CARD OF 'laws.FnExactFindText'. -/
def fnExactFindTextUptoCard : Claim7 := { stood := { row := fnExactFindTextUptoRow, standIns := [], harness := (true, "c00167d31166506cb0e150f137a558f6d22fdd2a46dcd0189a648c97a2f4a144"), looks := false }, kinds := [], alts := [], laidByText := true, laidKinds := [.data, .data, .data], laidTests := true, laidLooks := .later }
def FnExactFindTextUptoCardSaid : Prop := Claim7.holds Tryd.pinned (.plain (OpenSpec.upto fnExactFindTextSpec)) fnExactFindTextUptoCard

/-- THE SECOND FORM's CARD OF 'laws.FnExactTaskText'. -/
def fnExactTaskTextUptoCard : Claim7 := { stood := { row := fnExactTaskTextUptoRow, standIns := [], harness := (true, "c00167d31166506cb0e150f137a558f6d22fdd2a46dcd0189a648c97a2f4a144"), looks := false }, kinds := [], alts := [], laidByText := true, laidKinds := [.data, .data, .data], laidTests := true, laidLooks := .later }
def FnExactTaskTextUptoCardSaid : Prop := Claim7.holds Tryd.pinned (.plain (OpenSpec.upto fnExactTaskTextSpec)) fnExactTaskTextUptoCard

/-- THE SECOND FORM's CARD OF 'laws.FnExactFormatNumbers'. -/
def fnExactFormatNumbersUptoCard : Claim7 := { stood := { row := fnExactFormatNumbersUptoRow, standIns := [], harness := (true, "c00167d31166506cb0e150f137a558f6d22fdd2a46dcd0189a648c97a2f4a144"), looks := false }, kinds := [], alts := [], laidByText := true, laidKinds := [.data, .data, .data], laidTests := true, laidLooks := .later }
def FnExactFormatNumbersUptoCardSaid : Prop := Claim7.holds Tryd.pinned (.plain (OpenSpec.upto fnExactFormatNumbersSpec)) fnExactFormatNumbersUptoCard

/-- THE SECOND FORM's CARD OF 'laws.FnExactFormatCents'. -/
def fnExactFormatCentsUptoCard : Claim7 := { stood := { row := fnExactFormatCentsUptoRow, standIns := [], harness := (true, "c00167d31166506cb0e150f137a558f6d22fdd2a46dcd0189a648c97a2f4a144"), looks := false }, kinds := [], alts := [], laidByText := true, laidKinds := [.data, .data, .data], laidTests := true, laidLooks := .later }
def FnExactFormatCentsUptoCardSaid : Prop := Claim7.holds Tryd.pinned (.plain (OpenSpec.upto fnExactFormatCentsSpec)) fnExactFormatCentsUptoCard

/-- THE SECOND FORM's CARD OF 'laws.FnExactFormatSlots'. -/
def fnExactFormatSlotsUptoCard : Claim7 := { stood := { row := fnExactFormatSlotsUptoRow, standIns := [], harness := (true, "c00167d31166506cb0e150f137a558f6d22fdd2a46dcd0189a648c97a2f4a144"), looks := false }, kinds := [], alts := [], laidByText := true, laidKinds := [.data, .data, .data], laidTests := true, laidLooks := .later }
def FnExactFormatSlotsUptoCardSaid : Prop := Claim7.holds Tryd.pinned (.plain (OpenSpec.upto fnExactFormatSlotsSpec)) fnExactFormatSlotsUptoCard

/-- THE SECOND FORM's CARD OF 'laws.FnExactFormatClaims'. -/
def fnExactFormatClaimsUptoCard : Claim7 := { stood := { row := fnExactFormatClaimsUptoRow, standIns := [], harness := (true, "c00167d31166506cb0e150f137a558f6d22fdd2a46dcd0189a648c97a2f4a144"), looks := false }, kinds := [], alts := [], laidByText := true, laidKinds := [.data, .data, .data], laidTests := true, laidLooks := .later }
def FnExactFormatClaimsUptoCardSaid : Prop := Claim7.holds Tryd.pinned (.plain (OpenSpec.upto fnExactFormatClaimsSpec)) fnExactFormatClaimsUptoCard

/-- THE SECOND FORM's CARD OF 'laws.FnExactFormatHits'. -/
def fnExactFormatHitsUptoCard : Claim7 := { stood := { row := fnExactFormatHitsUptoRow, standIns := [], harness := (true, "c00167d31166506cb0e150f137a558f6d22fdd2a46dcd0189a648c97a2f4a144"), looks := false }, kinds := [], alts := [], laidByText := true, laidKinds := [.data, .data, .data], laidTests := true, laidLooks := .later }
def FnExactFormatHitsUptoCardSaid : Prop := Claim7.holds Tryd.pinned (.plain (OpenSpec.upto fnExactFormatHitsSpec)) fnExactFormatHitsUptoCard
end Rows
end Go.Proofs.YtbpcabaaniiggaaDoor
