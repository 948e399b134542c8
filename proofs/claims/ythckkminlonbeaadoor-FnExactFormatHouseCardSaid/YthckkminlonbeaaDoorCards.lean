/-
  DERIVED. GIVEN WITH THE SEED: THE CARDS: each row of YthckkminlonbeaaDoorRows.lean that lists a variable, with what it lists TIED to the program's text (the seventh form; the later family's looks); each row that meets fmt, with fmt's text TOLD by the authors' own Lean function (tested against real Go, not proved from fmt's source: count such statements apart). THE CARD IS WHAT COUNTS. Prove the row's statement (the work); the ties are given (YthckkminlonbeaaDoorTie.lean); close each card by the builder's one call (the guide's Derived/Test/ToyasCard.lean, 'card_holds'). Laid BY PROGRAM, IN A SANDBOX (cutbox-door.mjs). By AI agents, Wed Nov 11 2026. No macro, syntax, notation, axiom, sorry.
-/
import Derived.Test.YthckkminlonbeaaDoorRows
import GoSem.ClaimSeven
namespace Go.Proofs.YthckkminlonbeaaDoor
namespace Rows

/-- THE TIED CARD OF 'laws.FnExactFormatHouse'. -/
def fnExactFormatHouseCard : Claim7 := { stood := { row := fnExactFormatHouseRow, standIns := [], harness := (true, "43ccad001ea284a1a76df88586b261d9cb50744dbf16ee50522c1bef0844795d"), looks := false }, kinds := [], alts := [], laidByText := true, laidKinds := [.data, .data, .data], laidTests := true, laidLooks := .later }
def FnExactFormatHouseCardSaid : Prop := Claim7.holds Tryd.pinned (.plain (OpenSpec.ofChange fnExactFormatHouseSpec)) fnExactFormatHouseCard

/-- THE SECOND FORM's CARD OF 'laws.FnExactFormatHouse'. -/
def fnExactFormatHouseUptoCard : Claim7 := { stood := { row := fnExactFormatHouseUptoRow, standIns := [], harness := (true, "43ccad001ea284a1a76df88586b261d9cb50744dbf16ee50522c1bef0844795d"), looks := false }, kinds := [], alts := [], laidByText := true, laidKinds := [.data, .data, .data], laidTests := true, laidLooks := .later }
def FnExactFormatHouseUptoCardSaid : Prop := Claim7.holds Tryd.pinned (.plain (OpenSpec.upto fnExactFormatHouseSpec)) fnExactFormatHouseUptoCard
end Rows
end Go.Proofs.YthckkminlonbeaaDoor
