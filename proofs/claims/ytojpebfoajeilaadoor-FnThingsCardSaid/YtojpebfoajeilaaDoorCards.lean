/-
  DERIVED. GIVEN WITH THE SEED: THE CARDS: each row of YtojpebfoajeilaaDoorRows.lean that lists a variable, with what it lists TIED to the program's text (the seventh form; the later family's looks); each row that meets fmt, with fmt's text TOLD by the authors' own Lean function (tested against real Go, not proved from fmt's source: count such statements apart). THE CARD IS WHAT COUNTS. Prove the row's statement (the work); the ties are given (YtojpebfoajeilaaDoorTie.lean); close each card by the builder's one call (the guide's Derived/Test/ToyasCard.lean, 'card_holds'). Laid BY PROGRAM, IN A SANDBOX (cutbox-door.mjs). By AI agents, Wed Nov 11 2026. No macro, syntax, notation, axiom, sorry.
-/
import Derived.Test.YtojpebfoajeilaaDoorRows
import GoSem.ClaimSeven
namespace Go.Proofs.YtojpebfoajeilaaDoor
namespace Rows

/-- THE TIED CARD OF 'laws.FnThings'. -/
def fnThingsCard : Claim7 := { stood := { row := fnThingsRow, standIns := [], harness := (true, "afc25a52f591e3e2c6b721b8ff31fa36bb833c05c4914c1bb84abdc48d535035"), looks := false }, kinds := [], alts := [], laidByText := true, laidKinds := [.data, .data, .data], laidTests := true, laidLooks := .later }
def FnThingsCardSaid : Prop := Claim7.holds Tryd.pinned (.plain (OpenSpec.ofChange fnThingsSpec)) fnThingsCard

/-- THE SECOND FORM's CARD OF 'laws.FnThings'. -/
def fnThingsUptoCard : Claim7 := { stood := { row := fnThingsUptoRow, standIns := [], harness := (true, "afc25a52f591e3e2c6b721b8ff31fa36bb833c05c4914c1bb84abdc48d535035"), looks := false }, kinds := [], alts := [], laidByText := true, laidKinds := [.data, .data, .data], laidTests := true, laidLooks := .later }
def FnThingsUptoCardSaid : Prop := Claim7.holds Tryd.pinned (.plain (OpenSpec.upto fnThingsSpec)) fnThingsUptoCard
end Rows
end Go.Proofs.YtojpebfoajeilaaDoor
