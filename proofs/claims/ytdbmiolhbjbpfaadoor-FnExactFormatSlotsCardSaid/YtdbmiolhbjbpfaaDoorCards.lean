/-
  DERIVED. GIVEN WITH THE SEED: THE CARDS: each row of YtdbmiolhbjbpfaaDoorRows.lean that lists a variable, with what it lists TIED to the program's text (the seventh form; the later family's looks); each row that meets fmt, with fmt's text TOLD by the authors' own Lean function (tested against real Go, not proved from fmt's source: count such statements apart). THE CARD IS WHAT COUNTS. Prove the row's statement (the work); the ties are given (YtdbmiolhbjbpfaaDoorTie.lean); close each card by the builder's one call (the guide's Derived/Test/ToyasCard.lean, 'card_holds'). Laid BY PROGRAM, IN A SANDBOX (cutbox-door.mjs). By AI agents, Wed Nov 11 2026. No macro, syntax, notation, axiom, sorry.
-/
import Derived.Test.YtdbmiolhbjbpfaaDoorRows
import GoSem.ClaimSeven
namespace Go.Proofs.YtdbmiolhbjbpfaaDoor
namespace Rows

/-- THE TIED CARD OF 'laws.FnExactFormatNumbers'. -/
def fnExactFormatNumbersCard : Claim7 := { stood := { row := fnExactFormatNumbersRow, standIns := [], harness := (true, "e91cec16eb742e5ff653be30446efd20f0707b9a48091d252cec11eb624a7375"), looks := false }, kinds := [], alts := [], laidByText := true, laidKinds := [.data, .data, .data], laidTests := true, laidLooks := .later }
def FnExactFormatNumbersCardSaid : Prop := Claim7.holds Tryd.pinned (.plain (OpenSpec.ofChange fnExactFormatNumbersSpec)) fnExactFormatNumbersCard

/-- THE TIED CARD OF 'laws.FnExactFormatSlots'. -/
def fnExactFormatSlotsCard : Claim7 := { stood := { row := fnExactFormatSlotsRow, standIns := [], harness := (true, "e91cec16eb742e5ff653be30446efd20f0707b9a48091d252cec11eb624a7375"), looks := false }, kinds := [], alts := [], laidByText := true, laidKinds := [.data, .data, .data], laidTests := true, laidLooks := .later }
def FnExactFormatSlotsCardSaid : Prop := Claim7.holds Tryd.pinned (.plain (OpenSpec.ofChange fnExactFormatSlotsSpec)) fnExactFormatSlotsCard

/-- THE TIED CARD OF 'laws.FnExactFormatClaims'. -/
def fnExactFormatClaimsCard : Claim7 := { stood := { row := fnExactFormatClaimsRow, standIns := [], harness := (true, "e91cec16eb742e5ff653be30446efd20f0707b9a48091d252cec11eb624a7375"), looks := false }, kinds := [], alts := [], laidByText := true, laidKinds := [.data, .data, .data], laidTests := true, laidLooks := .later }
def FnExactFormatClaimsCardSaid : Prop := Claim7.holds Tryd.pinned (.plain (OpenSpec.ofChange fnExactFormatClaimsSpec)) fnExactFormatClaimsCard

/-- THE TIED CARD OF 'laws.FnExactFormatHits'. -/
def fnExactFormatHitsCard : Claim7 := { stood := { row := fnExactFormatHitsRow, standIns := [], harness := (true, "e91cec16eb742e5ff653be30446efd20f0707b9a48091d252cec11eb624a7375"), looks := false }, kinds := [], alts := [], laidByText := true, laidKinds := [.data, .data, .data], laidTests := true, laidLooks := .later }
def FnExactFormatHitsCardSaid : Prop := Claim7.holds Tryd.pinned (.plain (OpenSpec.ofChange fnExactFormatHitsSpec)) fnExactFormatHitsCard

/-- THE SECOND FORM's CARD OF 'laws.FnExactFormatNumbers'. -/
def fnExactFormatNumbersUptoCard : Claim7 := { stood := { row := fnExactFormatNumbersUptoRow, standIns := [], harness := (true, "e91cec16eb742e5ff653be30446efd20f0707b9a48091d252cec11eb624a7375"), looks := false }, kinds := [], alts := [], laidByText := true, laidKinds := [.data, .data, .data], laidTests := true, laidLooks := .later }
def FnExactFormatNumbersUptoCardSaid : Prop := Claim7.holds Tryd.pinned (.plain (OpenSpec.upto fnExactFormatNumbersSpec)) fnExactFormatNumbersUptoCard

/-- THE SECOND FORM's CARD OF 'laws.FnExactFormatSlots'. -/
def fnExactFormatSlotsUptoCard : Claim7 := { stood := { row := fnExactFormatSlotsUptoRow, standIns := [], harness := (true, "e91cec16eb742e5ff653be30446efd20f0707b9a48091d252cec11eb624a7375"), looks := false }, kinds := [], alts := [], laidByText := true, laidKinds := [.data, .data, .data], laidTests := true, laidLooks := .later }
def FnExactFormatSlotsUptoCardSaid : Prop := Claim7.holds Tryd.pinned (.plain (OpenSpec.upto fnExactFormatSlotsSpec)) fnExactFormatSlotsUptoCard

/-- THE SECOND FORM's CARD OF 'laws.FnExactFormatClaims'. -/
def fnExactFormatClaimsUptoCard : Claim7 := { stood := { row := fnExactFormatClaimsUptoRow, standIns := [], harness := (true, "e91cec16eb742e5ff653be30446efd20f0707b9a48091d252cec11eb624a7375"), looks := false }, kinds := [], alts := [], laidByText := true, laidKinds := [.data, .data, .data], laidTests := true, laidLooks := .later }
def FnExactFormatClaimsUptoCardSaid : Prop := Claim7.holds Tryd.pinned (.plain (OpenSpec.upto fnExactFormatClaimsSpec)) fnExactFormatClaimsUptoCard

/-- THE SECOND FORM's CARD OF 'laws.FnExactFormatHits'. -/
def fnExactFormatHitsUptoCard : Claim7 := { stood := { row := fnExactFormatHitsUptoRow, standIns := [], harness := (true, "e91cec16eb742e5ff653be30446efd20f0707b9a48091d252cec11eb624a7375"), looks := false }, kinds := [], alts := [], laidByText := true, laidKinds := [.data, .data, .data], laidTests := true, laidLooks := .later }
def FnExactFormatHitsUptoCardSaid : Prop := Claim7.holds Tryd.pinned (.plain (OpenSpec.upto fnExactFormatHitsSpec)) fnExactFormatHitsUptoCard
end Rows
end Go.Proofs.YtdbmiolhbjbpfaaDoor
