/-
  DERIVED. GIVEN WITH THE SEED: THE CARDS: each row of YtfmbfemojnohcaaDoorRows.lean that lists a variable, with what it lists TIED to the program's text (the seventh form; the later family's looks); each row that meets fmt, with fmt's text TOLD by the authors' own Lean function (tested against real Go, not proved from fmt's source: count such statements apart). THE CARD IS WHAT COUNTS. Prove the row's statement (the work); the ties are given (YtfmbfemojnohcaaDoorTie.lean); close each card by the builder's one call (the guide's Derived/Test/ToyasCard.lean, 'card_holds'). Laid BY PROGRAM, IN A SANDBOX (cutbox-door.mjs). By AI agents, Wed Nov 11 2026. No macro, syntax, notation, axiom, sorry.
-/
import Derived.Test.YtfmbfemojnohcaaDoorRows
import GoSem.ClaimSeven
namespace Go.Proofs.YtfmbfemojnohcaaDoor
namespace Rows

/-- THE TIED CARD OF 'laws.FnExactIsNeverEarly'. -/
def fnExactIsNeverEarlyCard : Claim7 := { stood := { row := fnExactIsNeverEarlyRow, standIns := [], harness := (true, "288bef204c79bb9349ec47afd84524aa96964cf75f06173eea0897f45f977179"), looks := false }, kinds := [], alts := [], laidByText := true, laidKinds := [.data], laidTests := true, laidLooks := .later }
def FnExactIsNeverEarlyCardSaid : Prop := Claim7.holds Tryd.pinned (.plain (OpenSpec.ofChange fnExactIsNeverEarlySpec)) fnExactIsNeverEarlyCard

/-- THE SECOND FORM's CARD OF 'laws.FnExactIsNeverEarly'. -/
def fnExactIsNeverEarlyUptoCard : Claim7 := { stood := { row := fnExactIsNeverEarlyUptoRow, standIns := [], harness := (true, "288bef204c79bb9349ec47afd84524aa96964cf75f06173eea0897f45f977179"), looks := false }, kinds := [], alts := [], laidByText := true, laidKinds := [.data], laidTests := true, laidLooks := .later }
def FnExactIsNeverEarlyUptoCardSaid : Prop := Claim7.holds Tryd.pinned (.plain (OpenSpec.upto fnExactIsNeverEarlySpec)) fnExactIsNeverEarlyUptoCard
end Rows
end Go.Proofs.YtfmbfemojnohcaaDoor
