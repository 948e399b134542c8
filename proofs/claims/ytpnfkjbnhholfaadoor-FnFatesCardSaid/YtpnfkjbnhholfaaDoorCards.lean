/-
  DERIVED. GIVEN WITH THE SEED: THE CARDS: each row of YtpnfkjbnhholfaaDoorRows.lean that lists a variable, with what it lists TIED to the program's text (the seventh form; the later family's looks); each row that meets fmt, with fmt's text TOLD by the authors' own Lean function (tested against real Go, not proved from fmt's source: count such statements apart). THE CARD IS WHAT COUNTS. Prove the row's statement (the work); the ties are given (YtpnfkjbnhholfaaDoorTie.lean); close each card by the builder's one call (the guide's Derived/Test/ToyasCard.lean, 'card_holds'). Laid BY PROGRAM, IN A SANDBOX (cutbox-door.mjs). By AI agents, Wed Nov 11 2026. No macro, syntax, notation, axiom, sorry.
-/
import Derived.Test.YtpnfkjbnhholfaaDoorRows
import GoSem.ClaimSeven
namespace Go.Proofs.YtpnfkjbnhholfaaDoor
namespace Rows

/-- THE TIED CARD OF 'laws.FnKept'. -/
def fnKeptCard : Claim7 := { stood := { row := fnKeptRow, standIns := [], harness := (true, "6fb8067ba1988d65957239f440f7e3990781d9b39c17cbb7bfcbdf1fde43e212"), looks := false }, kinds := [], alts := [], laidByText := true, laidKinds := [.data], laidTests := true, laidLooks := .later }
def FnKeptCardSaid : Prop := Claim7.holds Tryd.pinned (.plain (OpenSpec.ofChange fnKeptSpec)) fnKeptCard

/-- THE TIED CARD OF 'laws.FnFates'. -/
def fnFatesCard : Claim7 := { stood := { row := fnFatesRow, standIns := [], harness := (true, "6fb8067ba1988d65957239f440f7e3990781d9b39c17cbb7bfcbdf1fde43e212"), looks := false }, kinds := [], alts := [], laidByText := true, laidKinds := [.data], laidTests := true, laidLooks := .later }
def FnFatesCardSaid : Prop := Claim7.holds Tryd.pinned (.plain (OpenSpec.ofChange fnFatesSpec)) fnFatesCard

/-- THE SECOND FORM's CARD OF 'laws.FnKept'. -/
def fnKeptUptoCard : Claim7 := { stood := { row := fnKeptUptoRow, standIns := [], harness := (true, "6fb8067ba1988d65957239f440f7e3990781d9b39c17cbb7bfcbdf1fde43e212"), looks := false }, kinds := [], alts := [], laidByText := true, laidKinds := [.data], laidTests := true, laidLooks := .later }
def FnKeptUptoCardSaid : Prop := Claim7.holds Tryd.pinned (.plain (OpenSpec.upto fnKeptSpec)) fnKeptUptoCard

/-- THE SECOND FORM's CARD OF 'laws.FnFates'. -/
def fnFatesUptoCard : Claim7 := { stood := { row := fnFatesUptoRow, standIns := [], harness := (true, "6fb8067ba1988d65957239f440f7e3990781d9b39c17cbb7bfcbdf1fde43e212"), looks := false }, kinds := [], alts := [], laidByText := true, laidKinds := [.data], laidTests := true, laidLooks := .later }
def FnFatesUptoCardSaid : Prop := Claim7.holds Tryd.pinned (.plain (OpenSpec.upto fnFatesSpec)) fnFatesUptoCard
end Rows
end Go.Proofs.YtpnfkjbnhholfaaDoor
