/-
  DERIVED. GIVEN WITH THE SEED: THE CARDS: each row of YtgpobkdgfmehnaaDoorRows.lean that lists a variable, with what it lists TIED to the program's text (the seventh form; the later family's looks); each row that meets fmt, with fmt's text TOLD by the authors' own Lean function (tested against real Go, not proved from fmt's source: count such statements apart). THE CARD IS WHAT COUNTS. Prove the row's statement (the work); the ties are given (YtgpobkdgfmehnaaDoorTie.lean); close each card by the builder's one call (the guide's Derived/Test/ToyasCard.lean, 'card_holds'). Laid BY PROGRAM, IN A SANDBOX (cutbox-door.mjs). By AI agents, Wed Nov 11 2026. No macro, syntax, notation, axiom, sorry.
-/
import Derived.Test.YtgpobkdgfmehnaaDoorRows
import GoSem.ClaimSeven
namespace Go.Proofs.YtgpobkdgfmehnaaDoor
namespace Rows

/-- THE TIED CARD OF 'laws.FnExactFormatClaims'. -/
def fnExactFormatClaimsCard : Claim7 := { stood := { row := fnExactFormatClaimsRow, standIns := [], harness := (true, "9b5a07683f7e13bb6f7526032fd938b12171625bd95f5245d1bef6dd3e843af9"), looks := false }, kinds := [], alts := [], laidByText := true, laidKinds := [.data, .data, .data], laidTests := true, laidLooks := .later }
def FnExactFormatClaimsCardSaid : Prop := Claim7.holds Tryd.pinned (.plain (OpenSpec.ofChange fnExactFormatClaimsSpec)) fnExactFormatClaimsCard

/-- THE SECOND FORM's CARD OF 'laws.FnExactFormatClaims'. -/
def fnExactFormatClaimsUptoCard : Claim7 := { stood := { row := fnExactFormatClaimsUptoRow, standIns := [], harness := (true, "9b5a07683f7e13bb6f7526032fd938b12171625bd95f5245d1bef6dd3e843af9"), looks := false }, kinds := [], alts := [], laidByText := true, laidKinds := [.data, .data, .data], laidTests := true, laidLooks := .later }
def FnExactFormatClaimsUptoCardSaid : Prop := Claim7.holds Tryd.pinned (.plain (OpenSpec.upto fnExactFormatClaimsSpec)) fnExactFormatClaimsUptoCard
end Rows
end Go.Proofs.YtgpobkdgfmehnaaDoor
