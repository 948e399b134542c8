/-
  DERIVED. GIVEN WITH THE SEED: THE CARDS: each row of YtdbhfkbfajljpaaDoorRows.lean that lists a variable, with what it lists TIED to the program's text (the seventh form; the later family's looks); each row that meets fmt, with fmt's text TOLD by the authors' own Lean function (tested against real Go, not proved from fmt's source: count such statements apart). THE CARD IS WHAT COUNTS. Prove the row's statement (the work); the ties are given (YtdbhfkbfajljpaaDoorTie.lean); close each card by the builder's one call (the guide's Derived/Test/ToyasCard.lean, 'card_holds'). Laid BY PROGRAM, IN A SANDBOX (cutbox-door.mjs). By AI agents, Wed Nov 11 2026. No macro, syntax, notation, axiom, sorry.
-/
import Derived.Test.YtdbhfkbfajljpaaDoorRows
import GoSem.ClaimSeven
namespace Go.Proofs.YtdbhfkbfajljpaaDoor
namespace Rows

/-- THE TIED CARD OF 'laws.FnCalendars'. -/
def fnCalendarsCard : Claim7 := { stood := { row := fnCalendarsRow, standIns := [], harness := (true, "5b4eef739a2d3598a9675c1eda70b0c7358279b5ae8a650b48a2aa3e82c9bde5"), looks := false }, kinds := [], alts := [], laidByText := true, laidKinds := [.data], laidTests := true, laidLooks := .later }
def FnCalendarsCardSaid : Prop := Claim7.holds Tryd.pinned (.plain (OpenSpec.ofChange fnCalendarsSpec)) fnCalendarsCard

/-- THE SECOND FORM's CARD OF 'laws.FnCalendars'. -/
def fnCalendarsUptoCard : Claim7 := { stood := { row := fnCalendarsUptoRow, standIns := [], harness := (true, "5b4eef739a2d3598a9675c1eda70b0c7358279b5ae8a650b48a2aa3e82c9bde5"), looks := false }, kinds := [], alts := [], laidByText := true, laidKinds := [.data], laidTests := true, laidLooks := .later }
def FnCalendarsUptoCardSaid : Prop := Claim7.holds Tryd.pinned (.plain (OpenSpec.upto fnCalendarsSpec)) fnCalendarsUptoCard
end Rows
end Go.Proofs.YtdbhfkbfajljpaaDoor
