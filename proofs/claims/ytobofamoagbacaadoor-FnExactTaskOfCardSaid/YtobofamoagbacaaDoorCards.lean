/-
  DERIVED. GIVEN WITH THE SEED: THE CARDS: each row of YtobofamoagbacaaDoorRows.lean that lists a variable, with what it lists TIED to the program's text (the seventh form; the later family's looks); each row that meets fmt, with fmt's text TOLD by the authors' own Lean function (tested against real Go, not proved from fmt's source: count such statements apart). THE CARD IS WHAT COUNTS. Prove the row's statement (the work); the ties are given (YtobofamoagbacaaDoorTie.lean); close each card by the builder's one call (the guide's Derived/Test/ToyasCard.lean, 'card_holds'). Laid BY PROGRAM, IN A SANDBOX (cutbox-door.mjs). By AI agents, Wed Nov 11 2026. No macro, syntax, notation, axiom, sorry.
-/
import Derived.Test.YtobofamoagbacaaDoorRows
import GoSem.ClaimSeven
namespace Go.Proofs.YtobofamoagbacaaDoor
namespace Rows

/-- THE TIED CARD OF 'laws.FnExactKeepDays'. -/
def fnExactKeepDaysCard : Claim7 := { stood := { row := fnExactKeepDaysRow, standIns := [], harness := (true, "d071548778c74726af27cc0d6ff7b817ceebd35ac81a73ecb809a9b925ef96b7"), looks := true }, kinds := [], alts := [], laidByText := true, laidKinds := [.data], laidTests := true, laidLooks := .later }
def FnExactKeepDaysCardSaid : Prop := Claim7.holds Tryd.pinned (.plain (OpenSpec.ofChange fnExactKeepDaysSpec)) fnExactKeepDaysCard

/-- THE TIED CARD OF 'laws.FnExactDueHour'. -/
def fnExactDueHourCard : Claim7 := { stood := { row := fnExactDueHourRow, standIns := [], harness := (true, "d071548778c74726af27cc0d6ff7b817ceebd35ac81a73ecb809a9b925ef96b7"), looks := true }, kinds := [], alts := [], laidByText := true, laidKinds := [.data], laidTests := true, laidLooks := .later }
def FnExactDueHourCardSaid : Prop := Claim7.holds Tryd.pinned (.plain (OpenSpec.ofChange fnExactDueHourSpec)) fnExactDueHourCard

/-- THE TIED CARD OF 'laws.FnExactIsDue'. -/
def fnExactIsDueCard : Claim7 := { stood := { row := fnExactIsDueRow, standIns := [], harness := (true, "d071548778c74726af27cc0d6ff7b817ceebd35ac81a73ecb809a9b925ef96b7"), looks := true }, kinds := [], alts := [], laidByText := true, laidKinds := [.data], laidTests := true, laidLooks := .later }
def FnExactIsDueCardSaid : Prop := Claim7.holds Tryd.pinned (.plain (OpenSpec.ofChange fnExactIsDueSpec)) fnExactIsDueCard

/-- THE TIED CARD OF 'laws.FnExactDueThings'. -/
def fnExactDueThingsCard : Claim7 := { stood := { row := fnExactDueThingsRow, standIns := [], harness := (true, "d071548778c74726af27cc0d6ff7b817ceebd35ac81a73ecb809a9b925ef96b7"), looks := true }, kinds := [], alts := [], laidByText := true, laidKinds := [.data], laidTests := true, laidLooks := .later }
def FnExactDueThingsCardSaid : Prop := Claim7.holds Tryd.pinned (.plain (OpenSpec.ofChange fnExactDueThingsSpec)) fnExactDueThingsCard

/-- THE TIED CARD OF 'laws.FnExactNextDue'. -/
def fnExactNextDueCard : Claim7 := { stood := { row := fnExactNextDueRow, standIns := [], harness := (true, "d071548778c74726af27cc0d6ff7b817ceebd35ac81a73ecb809a9b925ef96b7"), looks := true }, kinds := [], alts := [], laidByText := true, laidKinds := [.data], laidTests := true, laidLooks := .later }
def FnExactNextDueCardSaid : Prop := Claim7.holds Tryd.pinned (.plain (OpenSpec.ofChange fnExactNextDueSpec)) fnExactNextDueCard

/-- THE TIED CARD OF 'laws.FnExactDaysLeft'. -/
def fnExactDaysLeftCard : Claim7 := { stood := { row := fnExactDaysLeftRow, standIns := [], harness := (true, "d071548778c74726af27cc0d6ff7b817ceebd35ac81a73ecb809a9b925ef96b7"), looks := true }, kinds := [], alts := [], laidByText := true, laidKinds := [.data], laidTests := true, laidLooks := .later }
def FnExactDaysLeftCardSaid : Prop := Claim7.holds Tryd.pinned (.plain (OpenSpec.ofChange fnExactDaysLeftSpec)) fnExactDaysLeftCard

/-- THE TIED CARD OF 'laws.FnExactFateOf'. -/
def fnExactFateOfCard : Claim7 := { stood := { row := fnExactFateOfRow, standIns := [], harness := (true, "d071548778c74726af27cc0d6ff7b817ceebd35ac81a73ecb809a9b925ef96b7"), looks := true }, kinds := [], alts := [], laidByText := true, laidKinds := [.data], laidTests := true, laidLooks := .later }
def FnExactFateOfCardSaid : Prop := Claim7.holds Tryd.pinned (.plain (OpenSpec.ofChange fnExactFateOfSpec)) fnExactFateOfCard

/-- THE TIED CARD OF 'laws.FnExactMustKeep'. -/
def fnExactMustKeepCard : Claim7 := { stood := { row := fnExactMustKeepRow, standIns := [], harness := (true, "d071548778c74726af27cc0d6ff7b817ceebd35ac81a73ecb809a9b925ef96b7"), looks := true }, kinds := [], alts := [], laidByText := true, laidKinds := [.data], laidTests := true, laidLooks := .later }
def FnExactMustKeepCardSaid : Prop := Claim7.holds Tryd.pinned (.plain (OpenSpec.ofChange fnExactMustKeepSpec)) fnExactMustKeepCard

/-- THE TIED CARD OF 'laws.FnExactFatesOf'. -/
def fnExactFatesOfCard : Claim7 := { stood := { row := fnExactFatesOfRow, standIns := [], harness := (true, "d071548778c74726af27cc0d6ff7b817ceebd35ac81a73ecb809a9b925ef96b7"), looks := true }, kinds := [], alts := [], laidByText := true, laidKinds := [.data], laidTests := true, laidLooks := .later }
def FnExactFatesOfCardSaid : Prop := Claim7.holds Tryd.pinned (.plain (OpenSpec.ofChange fnExactFatesOfSpec)) fnExactFatesOfCard

/-- THE TIED CARD OF 'laws.FnExactLastDay'. -/
def fnExactLastDayCard : Claim7 := { stood := { row := fnExactLastDayRow, standIns := [], harness := (true, "d071548778c74726af27cc0d6ff7b817ceebd35ac81a73ecb809a9b925ef96b7"), looks := true }, kinds := [], alts := [], laidByText := true, laidKinds := [.data], laidTests := true, laidLooks := .later }
def FnExactLastDayCardSaid : Prop := Claim7.holds Tryd.pinned (.plain (OpenSpec.ofChange fnExactLastDaySpec)) fnExactLastDayCard

/-- THE TIED CARD OF 'laws.FnExactTaskOf'. -/
def fnExactTaskOfCard : Claim7 := { stood := { row := fnExactTaskOfRow, standIns := [], harness := (true, "d071548778c74726af27cc0d6ff7b817ceebd35ac81a73ecb809a9b925ef96b7"), looks := true }, kinds := [], alts := [], laidByText := true, laidKinds := [.data], laidTests := true, laidLooks := .later }
def FnExactTaskOfCardSaid : Prop := Claim7.holds Tryd.pinned (.plain (OpenSpec.ofChange fnExactTaskOfSpec)) fnExactTaskOfCard

/-- THE TIED CARD OF 'laws.FnExactMarksOf'. -/
def fnExactMarksOfCard : Claim7 := { stood := { row := fnExactMarksOfRow, standIns := [], harness := (true, "d071548778c74726af27cc0d6ff7b817ceebd35ac81a73ecb809a9b925ef96b7"), looks := true }, kinds := [], alts := [], laidByText := true, laidKinds := [.sentinel], laidTests := true, laidLooks := .later }
def FnExactMarksOfCardSaid : Prop := Claim7.holds Tryd.pinned (.plain (OpenSpec.ofChange fnExactMarksOfSpec)) fnExactMarksOfCard

/-- THE TIED CARD OF 'laws.FnExactSealOf'. -/
def fnExactSealOfCard : Claim7 := { stood := { row := fnExactSealOfRow, standIns := [], harness := (true, "d071548778c74726af27cc0d6ff7b817ceebd35ac81a73ecb809a9b925ef96b7"), looks := true }, kinds := [], alts := [], laidByText := true, laidKinds := [.sentinel], laidTests := true, laidLooks := .later }
def FnExactSealOfCardSaid : Prop := Claim7.holds Tryd.pinned (.plain (OpenSpec.ofChange fnExactSealOfSpec)) fnExactSealOfCard

/-- THE SECOND FORM's CARD OF 'laws.FnExactKeepDays'. -/
def fnExactKeepDaysUptoCard : Claim7 := { stood := { row := fnExactKeepDaysUptoRow, standIns := [], harness := (true, "d071548778c74726af27cc0d6ff7b817ceebd35ac81a73ecb809a9b925ef96b7"), looks := true }, kinds := [], alts := [], laidByText := true, laidKinds := [.data], laidTests := true, laidLooks := .later }
def FnExactKeepDaysUptoCardSaid : Prop := Claim7.holds Tryd.pinned (.plain (OpenSpec.upto fnExactKeepDaysSpec)) fnExactKeepDaysUptoCard

/-- THE SECOND FORM's CARD OF 'laws.FnExactDueHour'. -/
def fnExactDueHourUptoCard : Claim7 := { stood := { row := fnExactDueHourUptoRow, standIns := [], harness := (true, "d071548778c74726af27cc0d6ff7b817ceebd35ac81a73ecb809a9b925ef96b7"), looks := true }, kinds := [], alts := [], laidByText := true, laidKinds := [.data], laidTests := true, laidLooks := .later }
def FnExactDueHourUptoCardSaid : Prop := Claim7.holds Tryd.pinned (.plain (OpenSpec.upto fnExactDueHourSpec)) fnExactDueHourUptoCard

/-- THE SECOND FORM's CARD OF 'laws.FnExactIsDue'. -/
def fnExactIsDueUptoCard : Claim7 := { stood := { row := fnExactIsDueUptoRow, standIns := [], harness := (true, "d071548778c74726af27cc0d6ff7b817ceebd35ac81a73ecb809a9b925ef96b7"), looks := true }, kinds := [], alts := [], laidByText := true, laidKinds := [.data], laidTests := true, laidLooks := .later }
def FnExactIsDueUptoCardSaid : Prop := Claim7.holds Tryd.pinned (.plain (OpenSpec.upto fnExactIsDueSpec)) fnExactIsDueUptoCard

/-- THE SECOND FORM's CARD OF 'laws.FnExactDueThings'. -/
def fnExactDueThingsUptoCard : Claim7 := { stood := { row := fnExactDueThingsUptoRow, standIns := [], harness := (true, "d071548778c74726af27cc0d6ff7b817ceebd35ac81a73ecb809a9b925ef96b7"), looks := true }, kinds := [], alts := [], laidByText := true, laidKinds := [.data], laidTests := true, laidLooks := .later }
def FnExactDueThingsUptoCardSaid : Prop := Claim7.holds Tryd.pinned (.plain (OpenSpec.upto fnExactDueThingsSpec)) fnExactDueThingsUptoCard

/-- THE SECOND FORM's CARD OF 'laws.FnExactNextDue'. -/
def fnExactNextDueUptoCard : Claim7 := { stood := { row := fnExactNextDueUptoRow, standIns := [], harness := (true, "d071548778c74726af27cc0d6ff7b817ceebd35ac81a73ecb809a9b925ef96b7"), looks := true }, kinds := [], alts := [], laidByText := true, laidKinds := [.data], laidTests := true, laidLooks := .later }
def FnExactNextDueUptoCardSaid : Prop := Claim7.holds Tryd.pinned (.plain (OpenSpec.upto fnExactNextDueSpec)) fnExactNextDueUptoCard

/-- THE SECOND FORM's CARD OF 'laws.FnExactDaysLeft'. -/
def fnExactDaysLeftUptoCard : Claim7 := { stood := { row := fnExactDaysLeftUptoRow, standIns := [], harness := (true, "d071548778c74726af27cc0d6ff7b817ceebd35ac81a73ecb809a9b925ef96b7"), looks := true }, kinds := [], alts := [], laidByText := true, laidKinds := [.data], laidTests := true, laidLooks := .later }
def FnExactDaysLeftUptoCardSaid : Prop := Claim7.holds Tryd.pinned (.plain (OpenSpec.upto fnExactDaysLeftSpec)) fnExactDaysLeftUptoCard

/-- THE SECOND FORM's CARD OF 'laws.FnExactFateOf'. -/
def fnExactFateOfUptoCard : Claim7 := { stood := { row := fnExactFateOfUptoRow, standIns := [], harness := (true, "d071548778c74726af27cc0d6ff7b817ceebd35ac81a73ecb809a9b925ef96b7"), looks := true }, kinds := [], alts := [], laidByText := true, laidKinds := [.data], laidTests := true, laidLooks := .later }
def FnExactFateOfUptoCardSaid : Prop := Claim7.holds Tryd.pinned (.plain (OpenSpec.upto fnExactFateOfSpec)) fnExactFateOfUptoCard

/-- THE SECOND FORM's CARD OF 'laws.FnExactMustKeep'. -/
def fnExactMustKeepUptoCard : Claim7 := { stood := { row := fnExactMustKeepUptoRow, standIns := [], harness := (true, "d071548778c74726af27cc0d6ff7b817ceebd35ac81a73ecb809a9b925ef96b7"), looks := true }, kinds := [], alts := [], laidByText := true, laidKinds := [.data], laidTests := true, laidLooks := .later }
def FnExactMustKeepUptoCardSaid : Prop := Claim7.holds Tryd.pinned (.plain (OpenSpec.upto fnExactMustKeepSpec)) fnExactMustKeepUptoCard

/-- THE SECOND FORM's CARD OF 'laws.FnExactFatesOf'. -/
def fnExactFatesOfUptoCard : Claim7 := { stood := { row := fnExactFatesOfUptoRow, standIns := [], harness := (true, "d071548778c74726af27cc0d6ff7b817ceebd35ac81a73ecb809a9b925ef96b7"), looks := true }, kinds := [], alts := [], laidByText := true, laidKinds := [.data], laidTests := true, laidLooks := .later }
def FnExactFatesOfUptoCardSaid : Prop := Claim7.holds Tryd.pinned (.plain (OpenSpec.upto fnExactFatesOfSpec)) fnExactFatesOfUptoCard

/-- THE SECOND FORM's CARD OF 'laws.FnExactLastDay'. -/
def fnExactLastDayUptoCard : Claim7 := { stood := { row := fnExactLastDayUptoRow, standIns := [], harness := (true, "d071548778c74726af27cc0d6ff7b817ceebd35ac81a73ecb809a9b925ef96b7"), looks := true }, kinds := [], alts := [], laidByText := true, laidKinds := [.data], laidTests := true, laidLooks := .later }
def FnExactLastDayUptoCardSaid : Prop := Claim7.holds Tryd.pinned (.plain (OpenSpec.upto fnExactLastDaySpec)) fnExactLastDayUptoCard

/-- THE SECOND FORM's CARD OF 'laws.FnExactTaskOf'. -/
def fnExactTaskOfUptoCard : Claim7 := { stood := { row := fnExactTaskOfUptoRow, standIns := [], harness := (true, "d071548778c74726af27cc0d6ff7b817ceebd35ac81a73ecb809a9b925ef96b7"), looks := true }, kinds := [], alts := [], laidByText := true, laidKinds := [.data], laidTests := true, laidLooks := .later }
def FnExactTaskOfUptoCardSaid : Prop := Claim7.holds Tryd.pinned (.plain (OpenSpec.upto fnExactTaskOfSpec)) fnExactTaskOfUptoCard

/-- THE SECOND FORM's CARD OF 'laws.FnExactMarksOf'. -/
def fnExactMarksOfUptoCard : Claim7 := { stood := { row := fnExactMarksOfUptoRow, standIns := [], harness := (true, "d071548778c74726af27cc0d6ff7b817ceebd35ac81a73ecb809a9b925ef96b7"), looks := true }, kinds := [], alts := [], laidByText := true, laidKinds := [.sentinel], laidTests := true, laidLooks := .later }
def FnExactMarksOfUptoCardSaid : Prop := Claim7.holds Tryd.pinned (.plain (OpenSpec.upto fnExactMarksOfSpec)) fnExactMarksOfUptoCard

/-- THE SECOND FORM's CARD OF 'laws.FnExactSealOf'. -/
def fnExactSealOfUptoCard : Claim7 := { stood := { row := fnExactSealOfUptoRow, standIns := [], harness := (true, "d071548778c74726af27cc0d6ff7b817ceebd35ac81a73ecb809a9b925ef96b7"), looks := true }, kinds := [], alts := [], laidByText := true, laidKinds := [.sentinel], laidTests := true, laidLooks := .later }
def FnExactSealOfUptoCardSaid : Prop := Claim7.holds Tryd.pinned (.plain (OpenSpec.upto fnExactSealOfSpec)) fnExactSealOfUptoCard
end Rows
end Go.Proofs.YtobofamoagbacaaDoor
