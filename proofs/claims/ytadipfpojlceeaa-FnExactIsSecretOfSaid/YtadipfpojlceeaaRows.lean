/-
  No cell of these rows narrows 'for every input' (looked for: loops, veiled, ifaces, maps, wideKeys, modest, calm, conditions, laid).
  DERIVED. THE GIVEN ROWS OF THIS SEAT. 26 by the template 'for every input the law returns true; each argument reads behind the call as it read before'; 0 by the template 'total and deterministic' (their statements: YtadipfpojlceeaaTotals.lean).
  GIVEN WITH THE SEED: the statements are not yours to turn. If you find one false, say at which input.
  Laid BY PROGRAM, IN A SANDBOX (cutbox-rows.mjs): the forced cells as the released guide's own fill.sh prints them over the translation 15a86eb7204cde67… (all of the seat's roots in one cut). By AI agents, Wed Nov 11 2026. No macro, syntax, notation, axiom, sorry.
-/
import Derived.Test.YtadipfpojlceeaaChecked
import GoSem.Claim
import GoSem.ClaimJoined
import GoSem.ClaimMapViews
import Derived.JoinedTies
import Derived.KernelRfl
namespace Go.Proofs.Ytadipfpojlceeaa
/- THE CELL 'sum', in the pinned program and in every row, IS THE sha256 OF THE DUMP (.gsa) THAT YtadipfpojlceeaaProg.lean LOADS. Nothing in Lean hashes anything: it is a label: what it is worth is what the hold of that sum in a sandbox is worth. -/
noncomputable def Try.pinned : Pinned := { name := "ytadipfpojlceeaa", sum := "15a86eb7204cde67cd8dec1bfb1adf8bc6f9c59de4b38b8385e77da44683fd0b", checked := Try.checked }
namespace Rows
def none {H : Type} : Left H := { results := [], args := [] }

/-- 'laws.FnExactHintOf': WHATEVER THE INPUT: true; the input reads as it did. -/
def fnExactHintOfSpec : ChangeSpec := { name := "fnExactHintOf", fn := fun _ => fun
  | [d1, d2] => { results := [.lit (.bool true)], args := [d1, d2] }
  | _ => none }
def fnExactHintOfRow : OpenClaim := { program := "ytadipfpojlceeaa", sum := "15a86eb7204cde67cd8dec1bfb1adf8bc6f9c59de4b38b8385e77da44683fd0b", func := "loop.example/g03007/laws.FnExactHintOf", spec := "fnExactHintOf", unfollowed := true, recurses := true, apart := false }
def FnExactHintOfSaid : Prop := fnExactHintOfRow.holds Try.pinned (OpenSpec.ofChange fnExactHintOfSpec)

/-- ITS FALSE NEIGHBOUR: 'it returns false'. Refute it at one input. -/
def fnExactHintOfWrong : ChangeSpec := { name := "fnExactHintOf", fn := fun _ => fun
  | [d1, d2] => { results := [.lit (.bool false)], args := [d1, d2] }
  | _ => none }
def FnExactHintOfWrongFalsely : Prop := fnExactHintOfRow.holds Try.pinned (OpenSpec.ofChange fnExactHintOfWrong)

/-- 'laws.FnExactSharedHints': WHATEVER THE INPUT: true; the input reads as it did. -/
def fnExactSharedHintsSpec : ChangeSpec := { name := "fnExactSharedHints", fn := fun _ => fun
  | [d1, d2] => { results := [.lit (.bool true)], args := [d1, d2] }
  | _ => none }
def fnExactSharedHintsRow : OpenClaim := { program := "ytadipfpojlceeaa", sum := "15a86eb7204cde67cd8dec1bfb1adf8bc6f9c59de4b38b8385e77da44683fd0b", func := "loop.example/g03007/laws.FnExactSharedHints", spec := "fnExactSharedHints", apart := false }
def FnExactSharedHintsSaid : Prop := fnExactSharedHintsRow.holds Try.pinned (OpenSpec.ofChange fnExactSharedHintsSpec)

/-- ITS FALSE NEIGHBOUR: 'it returns false'. Refute it at one input. -/
def fnExactSharedHintsWrong : ChangeSpec := { name := "fnExactSharedHints", fn := fun _ => fun
  | [d1, d2] => { results := [.lit (.bool false)], args := [d1, d2] }
  | _ => none }
def FnExactSharedHintsWrongFalsely : Prop := fnExactSharedHintsRow.holds Try.pinned (OpenSpec.ofChange fnExactSharedHintsWrong)

/-- 'laws.FnExactIsParcel': WHATEVER THE INPUT: true; the input reads as it did. -/
def fnExactIsParcelSpec : ChangeSpec := { name := "fnExactIsParcel", fn := fun _ => fun
  | [d] => { results := [.lit (.bool true)], args := [d] }
  | _ => none }
def fnExactIsParcelRow : OpenClaim := { program := "ytadipfpojlceeaa", sum := "15a86eb7204cde67cd8dec1bfb1adf8bc6f9c59de4b38b8385e77da44683fd0b", func := "loop.example/g03007/laws.FnExactIsParcel", spec := "fnExactIsParcel", apart := false }
def FnExactIsParcelSaid : Prop := fnExactIsParcelRow.holds Try.pinned (OpenSpec.ofChange fnExactIsParcelSpec)

/-- ITS FALSE NEIGHBOUR: 'it returns false'. Refute it at one input. -/
def fnExactIsParcelWrong : ChangeSpec := { name := "fnExactIsParcel", fn := fun _ => fun
  | [d] => { results := [.lit (.bool false)], args := [d] }
  | _ => none }
def FnExactIsParcelWrongFalsely : Prop := fnExactIsParcelRow.holds Try.pinned (OpenSpec.ofChange fnExactIsParcelWrong)

/-- 'laws.FnExactAreTwins': WHATEVER THE INPUT: true; the input reads as it did. -/
def fnExactAreTwinsSpec : ChangeSpec := { name := "fnExactAreTwins", fn := fun _ => fun
  | [d1, d2] => { results := [.lit (.bool true)], args := [d1, d2] }
  | _ => none }
def fnExactAreTwinsRow : OpenClaim := { program := "ytadipfpojlceeaa", sum := "15a86eb7204cde67cd8dec1bfb1adf8bc6f9c59de4b38b8385e77da44683fd0b", func := "loop.example/g03007/laws.FnExactAreTwins", spec := "fnExactAreTwins", unfollowed := true, recurses := true, apart := false }
def FnExactAreTwinsSaid : Prop := fnExactAreTwinsRow.holds Try.pinned (OpenSpec.ofChange fnExactAreTwinsSpec)

/-- ITS FALSE NEIGHBOUR: 'it returns false'. Refute it at one input. -/
def fnExactAreTwinsWrong : ChangeSpec := { name := "fnExactAreTwins", fn := fun _ => fun
  | [d1, d2] => { results := [.lit (.bool false)], args := [d1, d2] }
  | _ => none }
def FnExactAreTwinsWrongFalsely : Prop := fnExactAreTwinsRow.holds Try.pinned (OpenSpec.ofChange fnExactAreTwinsWrong)

/-- 'laws.FnExactOuterOf': WHATEVER THE INPUT: true; the input reads as it did. -/
def fnExactOuterOfSpec : ChangeSpec := { name := "fnExactOuterOf", fn := fun _ => fun
  | [d1, d2] => { results := [.lit (.bool true)], args := [d1, d2] }
  | _ => none }
def fnExactOuterOfRow : OpenClaim := { program := "ytadipfpojlceeaa", sum := "15a86eb7204cde67cd8dec1bfb1adf8bc6f9c59de4b38b8385e77da44683fd0b", func := "loop.example/g03007/laws.FnExactOuterOf", spec := "fnExactOuterOf", unfollowed := true, recurses := true, apart := false }
def FnExactOuterOfSaid : Prop := fnExactOuterOfRow.holds Try.pinned (OpenSpec.ofChange fnExactOuterOfSpec)

/-- ITS FALSE NEIGHBOUR: 'it returns false'. Refute it at one input. -/
def fnExactOuterOfWrong : ChangeSpec := { name := "fnExactOuterOf", fn := fun _ => fun
  | [d1, d2] => { results := [.lit (.bool false)], args := [d1, d2] }
  | _ => none }
def FnExactOuterOfWrongFalsely : Prop := fnExactOuterOfRow.holds Try.pinned (OpenSpec.ofChange fnExactOuterOfWrong)

/-- 'laws.FnExactIsCalendar': WHATEVER THE INPUT: true; the input reads as it did. -/
def fnExactIsCalendarSpec : ChangeSpec := { name := "fnExactIsCalendar", fn := fun _ => fun
  | [d] => { results := [.lit (.bool true)], args := [d] }
  | _ => none }
def fnExactIsCalendarRow : OpenClaim := { program := "ytadipfpojlceeaa", sum := "15a86eb7204cde67cd8dec1bfb1adf8bc6f9c59de4b38b8385e77da44683fd0b", func := "loop.example/g03007/laws.FnExactIsCalendar", spec := "fnExactIsCalendar", apart := false }
def FnExactIsCalendarSaid : Prop := fnExactIsCalendarRow.holds Try.pinned (OpenSpec.ofChange fnExactIsCalendarSpec)

/-- ITS FALSE NEIGHBOUR: 'it returns false'. Refute it at one input. -/
def fnExactIsCalendarWrong : ChangeSpec := { name := "fnExactIsCalendar", fn := fun _ => fun
  | [d] => { results := [.lit (.bool false)], args := [d] }
  | _ => none }
def FnExactIsCalendarWrongFalsely : Prop := fnExactIsCalendarRow.holds Try.pinned (OpenSpec.ofChange fnExactIsCalendarWrong)

/-- 'laws.FnExactIsOpen': WHATEVER THE INPUT: true; the input reads as it did. -/
def fnExactIsOpenSpec : ChangeSpec := { name := "fnExactIsOpen", fn := fun _ => fun
  | [d1, d2] => { results := [.lit (.bool true)], args := [d1, d2] }
  | _ => none }
def fnExactIsOpenRow : OpenClaim := { program := "ytadipfpojlceeaa", sum := "15a86eb7204cde67cd8dec1bfb1adf8bc6f9c59de4b38b8385e77da44683fd0b", func := "loop.example/g03007/laws.FnExactIsOpen", spec := "fnExactIsOpen", apart := false }
def FnExactIsOpenSaid : Prop := fnExactIsOpenRow.holds Try.pinned (OpenSpec.ofChange fnExactIsOpenSpec)

/-- ITS FALSE NEIGHBOUR: 'it returns false'. Refute it at one input. -/
def fnExactIsOpenWrong : ChangeSpec := { name := "fnExactIsOpen", fn := fun _ => fun
  | [d1, d2] => { results := [.lit (.bool false)], args := [d1, d2] }
  | _ => none }
def FnExactIsOpenWrongFalsely : Prop := fnExactIsOpenRow.holds Try.pinned (OpenSpec.ofChange fnExactIsOpenWrong)

/-- 'laws.FnExactNextOpen': WHATEVER THE INPUT: true; the input reads as it did. -/
def fnExactNextOpenSpec : ChangeSpec := { name := "fnExactNextOpen", fn := fun _ => fun
  | [d1, d2] => { results := [.lit (.bool true)], args := [d1, d2] }
  | _ => none }
def fnExactNextOpenRow : OpenClaim := { program := "ytadipfpojlceeaa", sum := "15a86eb7204cde67cd8dec1bfb1adf8bc6f9c59de4b38b8385e77da44683fd0b", func := "loop.example/g03007/laws.FnExactNextOpen", spec := "fnExactNextOpen", unfollowed := true, recurses := true, apart := false }
def FnExactNextOpenSaid : Prop := fnExactNextOpenRow.holds Try.pinned (OpenSpec.ofChange fnExactNextOpenSpec)

/-- ITS FALSE NEIGHBOUR: 'it returns false'. Refute it at one input. -/
def fnExactNextOpenWrong : ChangeSpec := { name := "fnExactNextOpen", fn := fun _ => fun
  | [d1, d2] => { results := [.lit (.bool false)], args := [d1, d2] }
  | _ => none }
def FnExactNextOpenWrongFalsely : Prop := fnExactNextOpenRow.holds Try.pinned (OpenSpec.ofChange fnExactNextOpenWrong)

/-- 'laws.FnExactAddOpenDays': WHATEVER THE INPUT: true; the input reads as it did. -/
def fnExactAddOpenDaysSpec : ChangeSpec := { name := "fnExactAddOpenDays", fn := fun _ => fun
  | [d1, d2, d3] => { results := [.lit (.bool true)], args := [d1, d2, d3] }
  | _ => none }
def fnExactAddOpenDaysRow : OpenClaim := { program := "ytadipfpojlceeaa", sum := "15a86eb7204cde67cd8dec1bfb1adf8bc6f9c59de4b38b8385e77da44683fd0b", func := "loop.example/g03007/laws.FnExactAddOpenDays", spec := "fnExactAddOpenDays", unfollowed := true, recurses := true, apart := false }
def FnExactAddOpenDaysSaid : Prop := fnExactAddOpenDaysRow.holds Try.pinned (OpenSpec.ofChange fnExactAddOpenDaysSpec)

/-- ITS FALSE NEIGHBOUR: 'it returns false'. Refute it at one input. -/
def fnExactAddOpenDaysWrong : ChangeSpec := { name := "fnExactAddOpenDays", fn := fun _ => fun
  | [d1, d2, d3] => { results := [.lit (.bool false)], args := [d1, d2, d3] }
  | _ => none }
def FnExactAddOpenDaysWrongFalsely : Prop := fnExactAddOpenDaysRow.holds Try.pinned (OpenSpec.ofChange fnExactAddOpenDaysWrong)

/-- 'laws.FnExactOpenDaysBetween': WHATEVER THE INPUT: true; the input reads as it did. -/
def fnExactOpenDaysBetweenSpec : ChangeSpec := { name := "fnExactOpenDaysBetween", fn := fun _ => fun
  | [d1, d2, d3] => { results := [.lit (.bool true)], args := [d1, d2, d3] }
  | _ => none }
def fnExactOpenDaysBetweenRow : OpenClaim := { program := "ytadipfpojlceeaa", sum := "15a86eb7204cde67cd8dec1bfb1adf8bc6f9c59de4b38b8385e77da44683fd0b", func := "loop.example/g03007/laws.FnExactOpenDaysBetween", spec := "fnExactOpenDaysBetween", apart := false }
def FnExactOpenDaysBetweenSaid : Prop := fnExactOpenDaysBetweenRow.holds Try.pinned (OpenSpec.ofChange fnExactOpenDaysBetweenSpec)

/-- ITS FALSE NEIGHBOUR: 'it returns false'. Refute it at one input. -/
def fnExactOpenDaysBetweenWrong : ChangeSpec := { name := "fnExactOpenDaysBetween", fn := fun _ => fun
  | [d1, d2, d3] => { results := [.lit (.bool false)], args := [d1, d2, d3] }
  | _ => none }
def FnExactOpenDaysBetweenWrongFalsely : Prop := fnExactOpenDaysBetweenRow.holds Try.pinned (OpenSpec.ofChange fnExactOpenDaysBetweenWrong)

/-- 'laws.FnExactKindOf': WHATEVER THE INPUT: true; the input reads as it did. -/
def fnExactKindOfSpec : ChangeSpec := { name := "fnExactKindOf", fn := fun _ => fun
  | [d] => { results := [.lit (.bool true)], args := [d] }
  | _ => none }
def fnExactKindOfRow : OpenClaim := { program := "ytadipfpojlceeaa", sum := "15a86eb7204cde67cd8dec1bfb1adf8bc6f9c59de4b38b8385e77da44683fd0b", func := "loop.example/g03007/laws.FnExactKindOf", spec := "fnExactKindOf", apart := false }
def FnExactKindOfSaid : Prop := fnExactKindOfRow.holds Try.pinned (OpenSpec.ofChange fnExactKindOfSpec)

/-- ITS FALSE NEIGHBOUR: 'it returns false'. Refute it at one input. -/
def fnExactKindOfWrong : ChangeSpec := { name := "fnExactKindOf", fn := fun _ => fun
  | [d] => { results := [.lit (.bool false)], args := [d] }
  | _ => none }
def FnExactKindOfWrongFalsely : Prop := fnExactKindOfRow.holds Try.pinned (OpenSpec.ofChange fnExactKindOfWrong)

/-- 'laws.FnExactAreTickets': WHATEVER THE INPUT: true; the input reads as it did. -/
def fnExactAreTicketsSpec : ChangeSpec := { name := "fnExactAreTickets", fn := fun _ => fun
  | [d] => { results := [.lit (.bool true)], args := [d] }
  | _ => none }
def fnExactAreTicketsRow : OpenClaim := { program := "ytadipfpojlceeaa", sum := "15a86eb7204cde67cd8dec1bfb1adf8bc6f9c59de4b38b8385e77da44683fd0b", func := "loop.example/g03007/laws.FnExactAreTickets", spec := "fnExactAreTickets", unfollowed := true, recurses := true, apart := false }
def FnExactAreTicketsSaid : Prop := fnExactAreTicketsRow.holds Try.pinned (OpenSpec.ofChange fnExactAreTicketsSpec)

/-- ITS FALSE NEIGHBOUR: 'it returns false'. Refute it at one input. -/
def fnExactAreTicketsWrong : ChangeSpec := { name := "fnExactAreTickets", fn := fun _ => fun
  | [d] => { results := [.lit (.bool false)], args := [d] }
  | _ => none }
def FnExactAreTicketsWrongFalsely : Prop := fnExactAreTicketsRow.holds Try.pinned (OpenSpec.ofChange fnExactAreTicketsWrong)

/-- 'laws.FnExactBeforeIn': WHATEVER THE INPUT: true; the input reads as it did. -/
def fnExactBeforeInSpec : ChangeSpec := { name := "fnExactBeforeIn", fn := fun _ => fun
  | [d1, d2] => { results := [.lit (.bool true)], args := [d1, d2] }
  | _ => none }
def fnExactBeforeInRow : OpenClaim := { program := "ytadipfpojlceeaa", sum := "15a86eb7204cde67cd8dec1bfb1adf8bc6f9c59de4b38b8385e77da44683fd0b", func := "loop.example/g03007/laws.FnExactBeforeIn", spec := "fnExactBeforeIn", unfollowed := true, recurses := true, apart := false }
def FnExactBeforeInSaid : Prop := fnExactBeforeInRow.holds Try.pinned (OpenSpec.ofChange fnExactBeforeInSpec)

/-- ITS FALSE NEIGHBOUR: 'it returns false'. Refute it at one input. -/
def fnExactBeforeInWrong : ChangeSpec := { name := "fnExactBeforeIn", fn := fun _ => fun
  | [d1, d2] => { results := [.lit (.bool false)], args := [d1, d2] }
  | _ => none }
def FnExactBeforeInWrongFalsely : Prop := fnExactBeforeInRow.holds Try.pinned (OpenSpec.ofChange fnExactBeforeInWrong)

/-- 'laws.FnExactAreEntries': WHATEVER THE INPUT: true; the input reads as it did. -/
def fnExactAreEntriesSpec : ChangeSpec := { name := "fnExactAreEntries", fn := fun _ => fun
  | [d] => { results := [.lit (.bool true)], args := [d] }
  | _ => none }
def fnExactAreEntriesRow : OpenClaim := { program := "ytadipfpojlceeaa", sum := "15a86eb7204cde67cd8dec1bfb1adf8bc6f9c59de4b38b8385e77da44683fd0b", func := "loop.example/g03007/laws.FnExactAreEntries", spec := "fnExactAreEntries", apart := false }
def FnExactAreEntriesSaid : Prop := fnExactAreEntriesRow.holds Try.pinned (OpenSpec.ofChange fnExactAreEntriesSpec)

/-- ITS FALSE NEIGHBOUR: 'it returns false'. Refute it at one input. -/
def fnExactAreEntriesWrong : ChangeSpec := { name := "fnExactAreEntries", fn := fun _ => fun
  | [d] => { results := [.lit (.bool false)], args := [d] }
  | _ => none }
def FnExactAreEntriesWrongFalsely : Prop := fnExactAreEntriesRow.holds Try.pinned (OpenSpec.ofChange fnExactAreEntriesWrong)

/-- 'laws.FnExactBalance': WHATEVER THE INPUT: true; the input reads as it did. -/
def fnExactBalanceSpec : ChangeSpec := { name := "fnExactBalance", fn := fun _ => fun
  | [d1, d2] => { results := [.lit (.bool true)], args := [d1, d2] }
  | _ => none }
def fnExactBalanceRow : OpenClaim := { program := "ytadipfpojlceeaa", sum := "15a86eb7204cde67cd8dec1bfb1adf8bc6f9c59de4b38b8385e77da44683fd0b", func := "loop.example/g03007/laws.FnExactBalance", spec := "fnExactBalance", unfollowed := true, recurses := true, apart := false }
def FnExactBalanceSaid : Prop := fnExactBalanceRow.holds Try.pinned (OpenSpec.ofChange fnExactBalanceSpec)

/-- ITS FALSE NEIGHBOUR: 'it returns false'. Refute it at one input. -/
def fnExactBalanceWrong : ChangeSpec := { name := "fnExactBalance", fn := fun _ => fun
  | [d1, d2] => { results := [.lit (.bool false)], args := [d1, d2] }
  | _ => none }
def FnExactBalanceWrongFalsely : Prop := fnExactBalanceRow.holds Try.pinned (OpenSpec.ofChange fnExactBalanceWrong)

/-- 'laws.FnExactTotalPaid': WHATEVER THE INPUT: true; the input reads as it did. -/
def fnExactTotalPaidSpec : ChangeSpec := { name := "fnExactTotalPaid", fn := fun _ => fun
  | [d1, d2] => { results := [.lit (.bool true)], args := [d1, d2] }
  | _ => none }
def fnExactTotalPaidRow : OpenClaim := { program := "ytadipfpojlceeaa", sum := "15a86eb7204cde67cd8dec1bfb1adf8bc6f9c59de4b38b8385e77da44683fd0b", func := "loop.example/g03007/laws.FnExactTotalPaid", spec := "fnExactTotalPaid", unfollowed := true, recurses := true, apart := false }
def FnExactTotalPaidSaid : Prop := fnExactTotalPaidRow.holds Try.pinned (OpenSpec.ofChange fnExactTotalPaidSpec)

/-- ITS FALSE NEIGHBOUR: 'it returns false'. Refute it at one input. -/
def fnExactTotalPaidWrong : ChangeSpec := { name := "fnExactTotalPaid", fn := fun _ => fun
  | [d1, d2] => { results := [.lit (.bool false)], args := [d1, d2] }
  | _ => none }
def FnExactTotalPaidWrongFalsely : Prop := fnExactTotalPaidRow.holds Try.pinned (OpenSpec.ofChange fnExactTotalPaidWrong)

/-- 'laws.FnExactQuiet': WHATEVER THE INPUT: true; the input reads as it did. -/
def fnExactQuietSpec : ChangeSpec := { name := "fnExactQuiet", fn := fun _ => fun
  | [d1, d2] => { results := [.lit (.bool true)], args := [d1, d2] }
  | _ => none }
def fnExactQuietRow : OpenClaim := { program := "ytadipfpojlceeaa", sum := "15a86eb7204cde67cd8dec1bfb1adf8bc6f9c59de4b38b8385e77da44683fd0b", func := "loop.example/g03007/laws.FnExactQuiet", spec := "fnExactQuiet", apart := false }
def FnExactQuietSaid : Prop := fnExactQuietRow.holds Try.pinned (OpenSpec.ofChange fnExactQuietSpec)

/-- ITS FALSE NEIGHBOUR: 'it returns false'. Refute it at one input. -/
def fnExactQuietWrong : ChangeSpec := { name := "fnExactQuiet", fn := fun _ => fun
  | [d1, d2] => { results := [.lit (.bool false)], args := [d1, d2] }
  | _ => none }
def FnExactQuietWrongFalsely : Prop := fnExactQuietRow.holds Try.pinned (OpenSpec.ofChange fnExactQuietWrong)

/-- 'laws.FnExactIsSecretOf': WHATEVER THE INPUT: true; the input reads as it did. -/
def fnExactIsSecretOfSpec : ChangeSpec := { name := "fnExactIsSecretOf", fn := fun _ => fun
  | [d1, d2] => { results := [.lit (.bool true)], args := [d1, d2] }
  | _ => none }
def fnExactIsSecretOfRow : OpenClaim := { program := "ytadipfpojlceeaa", sum := "15a86eb7204cde67cd8dec1bfb1adf8bc6f9c59de4b38b8385e77da44683fd0b", func := "loop.example/g03007/laws.FnExactIsSecretOf", spec := "fnExactIsSecretOf", unfollowed := true, recurses := true, apart := false }
def FnExactIsSecretOfSaid : Prop := fnExactIsSecretOfRow.holds Try.pinned (OpenSpec.ofChange fnExactIsSecretOfSpec)

/-- ITS FALSE NEIGHBOUR: 'it returns false'. Refute it at one input. -/
def fnExactIsSecretOfWrong : ChangeSpec := { name := "fnExactIsSecretOf", fn := fun _ => fun
  | [d1, d2] => { results := [.lit (.bool false)], args := [d1, d2] }
  | _ => none }
def FnExactIsSecretOfWrongFalsely : Prop := fnExactIsSecretOfRow.holds Try.pinned (OpenSpec.ofChange fnExactIsSecretOfWrong)

/-- 'laws.FnExactHolderText': WHATEVER THE INPUT: true; the input reads as it did. -/
def fnExactHolderTextSpec : ChangeSpec := { name := "fnExactHolderText", fn := fun _ => fun
  | [d] => { results := [.lit (.bool true)], args := [d] }
  | _ => none }
def fnExactHolderTextRow : OpenClaim := { program := "ytadipfpojlceeaa", sum := "15a86eb7204cde67cd8dec1bfb1adf8bc6f9c59de4b38b8385e77da44683fd0b", func := "loop.example/g03007/laws.FnExactHolderText", spec := "fnExactHolderText", apart := false }
def FnExactHolderTextSaid : Prop := fnExactHolderTextRow.holds Try.pinned (OpenSpec.ofChange fnExactHolderTextSpec)

/-- ITS FALSE NEIGHBOUR: 'it returns false'. Refute it at one input. -/
def fnExactHolderTextWrong : ChangeSpec := { name := "fnExactHolderText", fn := fun _ => fun
  | [d] => { results := [.lit (.bool false)], args := [d] }
  | _ => none }
def FnExactHolderTextWrongFalsely : Prop := fnExactHolderTextRow.holds Try.pinned (OpenSpec.ofChange fnExactHolderTextWrong)

/-- 'laws.FnExactEventName': WHATEVER THE INPUT: true; the input reads as it did. -/
def fnExactEventNameSpec : ChangeSpec := { name := "fnExactEventName", fn := fun _ => fun
  | [d] => { results := [.lit (.bool true)], args := [d] }
  | _ => none }
def fnExactEventNameRow : OpenClaim := { program := "ytadipfpojlceeaa", sum := "15a86eb7204cde67cd8dec1bfb1adf8bc6f9c59de4b38b8385e77da44683fd0b", func := "loop.example/g03007/laws.FnExactEventName", spec := "fnExactEventName", apart := false }
def FnExactEventNameSaid : Prop := fnExactEventNameRow.holds Try.pinned (OpenSpec.ofChange fnExactEventNameSpec)

/-- ITS FALSE NEIGHBOUR: 'it returns false'. Refute it at one input. -/
def fnExactEventNameWrong : ChangeSpec := { name := "fnExactEventName", fn := fun _ => fun
  | [d] => { results := [.lit (.bool false)], args := [d] }
  | _ => none }
def FnExactEventNameWrongFalsely : Prop := fnExactEventNameRow.holds Try.pinned (OpenSpec.ofChange fnExactEventNameWrong)

/-- 'laws.FnExactCountKind': WHATEVER THE INPUT: true; the input reads as it did. -/
def fnExactCountKindSpec : ChangeSpec := { name := "fnExactCountKind", fn := fun _ => fun
  | [d1, d2] => { results := [.lit (.bool true)], args := [d1, d2] }
  | _ => none }
def fnExactCountKindRow : OpenClaim := { program := "ytadipfpojlceeaa", sum := "15a86eb7204cde67cd8dec1bfb1adf8bc6f9c59de4b38b8385e77da44683fd0b", func := "loop.example/g03007/laws.FnExactCountKind", spec := "fnExactCountKind", unfollowed := true, recurses := true, apart := false }
def FnExactCountKindSaid : Prop := fnExactCountKindRow.holds Try.pinned (OpenSpec.ofChange fnExactCountKindSpec)

/-- ITS FALSE NEIGHBOUR: 'it returns false'. Refute it at one input. -/
def fnExactCountKindWrong : ChangeSpec := { name := "fnExactCountKind", fn := fun _ => fun
  | [d1, d2] => { results := [.lit (.bool false)], args := [d1, d2] }
  | _ => none }
def FnExactCountKindWrongFalsely : Prop := fnExactCountKindRow.holds Try.pinned (OpenSpec.ofChange fnExactCountKindWrong)

/-- 'laws.FnExactBusiestPlace': WHATEVER THE INPUT: true; the input reads as it did. -/
def fnExactBusiestPlaceSpec : ChangeSpec := { name := "fnExactBusiestPlace", fn := fun _ => fun
  | [d] => { results := [.lit (.bool true)], args := [d] }
  | _ => none }
def fnExactBusiestPlaceRow : OpenClaim := { program := "ytadipfpojlceeaa", sum := "15a86eb7204cde67cd8dec1bfb1adf8bc6f9c59de4b38b8385e77da44683fd0b", func := "loop.example/g03007/laws.FnExactBusiestPlace", spec := "fnExactBusiestPlace", unfollowed := true, recurses := true, apart := false }
def FnExactBusiestPlaceSaid : Prop := fnExactBusiestPlaceRow.holds Try.pinned (OpenSpec.ofChange fnExactBusiestPlaceSpec)

/-- ITS FALSE NEIGHBOUR: 'it returns false'. Refute it at one input. -/
def fnExactBusiestPlaceWrong : ChangeSpec := { name := "fnExactBusiestPlace", fn := fun _ => fun
  | [d] => { results := [.lit (.bool false)], args := [d] }
  | _ => none }
def FnExactBusiestPlaceWrongFalsely : Prop := fnExactBusiestPlaceRow.holds Try.pinned (OpenSpec.ofChange fnExactBusiestPlaceWrong)

/-- 'laws.FnExactWorthOf': WHATEVER THE INPUT: true; the input reads as it did. -/
def fnExactWorthOfSpec : ChangeSpec := { name := "fnExactWorthOf", fn := fun _ => fun
  | [d] => { results := [.lit (.bool true)], args := [d] }
  | _ => none }
def fnExactWorthOfRow : OpenClaim := { program := "ytadipfpojlceeaa", sum := "15a86eb7204cde67cd8dec1bfb1adf8bc6f9c59de4b38b8385e77da44683fd0b", func := "loop.example/g03007/laws.FnExactWorthOf", spec := "fnExactWorthOf", unfollowed := true, recurses := true, apart := false }
def FnExactWorthOfSaid : Prop := fnExactWorthOfRow.holds Try.pinned (OpenSpec.ofChange fnExactWorthOfSpec)

/-- ITS FALSE NEIGHBOUR: 'it returns false'. Refute it at one input. -/
def fnExactWorthOfWrong : ChangeSpec := { name := "fnExactWorthOf", fn := fun _ => fun
  | [d] => { results := [.lit (.bool false)], args := [d] }
  | _ => none }
def FnExactWorthOfWrongFalsely : Prop := fnExactWorthOfRow.holds Try.pinned (OpenSpec.ofChange fnExactWorthOfWrong)

/-- 'laws.FnExactOpenClaims': WHATEVER THE INPUT: true; the input reads as it did. -/
def fnExactOpenClaimsSpec : ChangeSpec := { name := "fnExactOpenClaims", fn := fun _ => fun
  | [d] => { results := [.lit (.bool true)], args := [d] }
  | _ => none }
def fnExactOpenClaimsRow : OpenClaim := { program := "ytadipfpojlceeaa", sum := "15a86eb7204cde67cd8dec1bfb1adf8bc6f9c59de4b38b8385e77da44683fd0b", func := "loop.example/g03007/laws.FnExactOpenClaims", spec := "fnExactOpenClaims", unfollowed := true, recurses := true, apart := false }
def FnExactOpenClaimsSaid : Prop := fnExactOpenClaimsRow.holds Try.pinned (OpenSpec.ofChange fnExactOpenClaimsSpec)

/-- ITS FALSE NEIGHBOUR: 'it returns false'. Refute it at one input. -/
def fnExactOpenClaimsWrong : ChangeSpec := { name := "fnExactOpenClaims", fn := fun _ => fun
  | [d] => { results := [.lit (.bool false)], args := [d] }
  | _ => none }
def FnExactOpenClaimsWrongFalsely : Prop := fnExactOpenClaimsRow.holds Try.pinned (OpenSpec.ofChange fnExactOpenClaimsWrong)

/-- 'laws.FnExactOldestFind': WHATEVER THE INPUT: true; the input reads as it did. -/
def fnExactOldestFindSpec : ChangeSpec := { name := "fnExactOldestFind", fn := fun _ => fun
  | [d] => { results := [.lit (.bool true)], args := [d] }
  | _ => none }
def fnExactOldestFindRow : OpenClaim := { program := "ytadipfpojlceeaa", sum := "15a86eb7204cde67cd8dec1bfb1adf8bc6f9c59de4b38b8385e77da44683fd0b", func := "loop.example/g03007/laws.FnExactOldestFind", spec := "fnExactOldestFind", unfollowed := true, recurses := true, apart := false }
def FnExactOldestFindSaid : Prop := fnExactOldestFindRow.holds Try.pinned (OpenSpec.ofChange fnExactOldestFindSpec)

/-- ITS FALSE NEIGHBOUR: 'it returns false'. Refute it at one input. -/
def fnExactOldestFindWrong : ChangeSpec := { name := "fnExactOldestFind", fn := fun _ => fun
  | [d] => { results := [.lit (.bool false)], args := [d] }
  | _ => none }
def FnExactOldestFindWrongFalsely : Prop := fnExactOldestFindRow.holds Try.pinned (OpenSpec.ofChange fnExactOldestFindWrong)

/-- 'laws.FnExactEqualHits': WHATEVER THE INPUT: true; the input reads as it did. -/
def fnExactEqualHitsSpec : ChangeSpec := { name := "fnExactEqualHits", fn := fun _ => fun
  | [d1, d2] => { results := [.lit (.bool true)], args := [d1, d2] }
  | _ => none }
def fnExactEqualHitsRow : OpenClaim := { program := "ytadipfpojlceeaa", sum := "15a86eb7204cde67cd8dec1bfb1adf8bc6f9c59de4b38b8385e77da44683fd0b", func := "loop.example/g03007/laws.FnExactEqualHits", spec := "fnExactEqualHits", apart := false }
def FnExactEqualHitsSaid : Prop := fnExactEqualHitsRow.holds Try.pinned (OpenSpec.ofChange fnExactEqualHitsSpec)

/-- ITS FALSE NEIGHBOUR: 'it returns false'. Refute it at one input. -/
def fnExactEqualHitsWrong : ChangeSpec := { name := "fnExactEqualHits", fn := fun _ => fun
  | [d1, d2] => { results := [.lit (.bool false)], args := [d1, d2] }
  | _ => none }
def FnExactEqualHitsWrongFalsely : Prop := fnExactEqualHitsRow.holds Try.pinned (OpenSpec.ofChange fnExactEqualHitsWrong)

/- THE SECOND FORM. 'bulk': how many values and letters a reading holds, each counted each time it is reached (what is shared counts as often as it is met; a slice's spare places count too). A statement '..UptoSaid' is the law's where the arguments, and the package variables that the reading takes, are together of bulk at most 1048576: NARROWER than '..Said'. Prove '..Said' where nothing that the law and all that it calls make is longer than what came in: it says more and counts as full. Else prove '..UptoSaid'. A law counts once. -/
mutual
def uptoBulk {H : Type} : DataW H → Nat
  | .lit (.string bytes) => bytes.length + 1
  | .lit _ => 1
  | .nil => 1
  | .ptr d => uptoBulk d + 1
  | .slice elems spare => uptoBulkAll elems + uptoBulkAll spare + 1
  | .agg parts => uptoBulkAll parts + 1
  | .iface _ d => uptoBulk d + 1
  | .map entries => uptoBulkEntries entries + 1
  | .held _ => 1
def uptoBulkAll {H : Type} : List (DataW H) → Nat
  | [] => 0
  | d :: r => uptoBulk d + uptoBulkAll r
def uptoBulkEntries {H : Type} : List (Lit × DataW H) → Nat
  | [] => 0
  | x :: r => uptoBulkEntry x + uptoBulkEntries r
def uptoBulkEntry {H : Type} : Lit × DataW H → Nat
  | (.string bytes, d) => bytes.length + uptoBulk d + 1
  | (_, d) => uptoBulk d + 1
 end
def uptoSmall : (H : Type) → List (DataW H) → Bool := fun _ ds => decide (uptoBulkAll ds ≤ 1048576)
def OpenSpec.upto (s : _root_.Go.ChangeSpec) : _root_.Go.OpenSpec := { _root_.Go.OpenSpec.ofChange s with cond := some uptoSmall }

/-- 'laws.FnExactHintOf', WHERE WHAT IT READS IS OF BULK AT MOST 1048576: true; the input reads as it did. -/
def fnExactHintOfUptoRow : OpenClaim := { program := "ytadipfpojlceeaa", sum := "15a86eb7204cde67cd8dec1bfb1adf8bc6f9c59de4b38b8385e77da44683fd0b", func := "loop.example/g03007/laws.FnExactHintOf", spec := "fnExactHintOf", unfollowed := true, recurses := true, apart := false, narrowed := true }
def FnExactHintOfUptoSaid : Prop := fnExactHintOfUptoRow.holds Try.pinned (OpenSpec.upto fnExactHintOfSpec)

/-- 'laws.FnExactSharedHints', WHERE WHAT IT READS IS OF BULK AT MOST 1048576: true; the input reads as it did. -/
def fnExactSharedHintsUptoRow : OpenClaim := { program := "ytadipfpojlceeaa", sum := "15a86eb7204cde67cd8dec1bfb1adf8bc6f9c59de4b38b8385e77da44683fd0b", func := "loop.example/g03007/laws.FnExactSharedHints", spec := "fnExactSharedHints", apart := false, narrowed := true }
def FnExactSharedHintsUptoSaid : Prop := fnExactSharedHintsUptoRow.holds Try.pinned (OpenSpec.upto fnExactSharedHintsSpec)

/-- 'laws.FnExactIsParcel', WHERE WHAT IT READS IS OF BULK AT MOST 1048576: true; the input reads as it did. -/
def fnExactIsParcelUptoRow : OpenClaim := { program := "ytadipfpojlceeaa", sum := "15a86eb7204cde67cd8dec1bfb1adf8bc6f9c59de4b38b8385e77da44683fd0b", func := "loop.example/g03007/laws.FnExactIsParcel", spec := "fnExactIsParcel", apart := false, narrowed := true }
def FnExactIsParcelUptoSaid : Prop := fnExactIsParcelUptoRow.holds Try.pinned (OpenSpec.upto fnExactIsParcelSpec)

/-- 'laws.FnExactAreTwins', WHERE WHAT IT READS IS OF BULK AT MOST 1048576: true; the input reads as it did. -/
def fnExactAreTwinsUptoRow : OpenClaim := { program := "ytadipfpojlceeaa", sum := "15a86eb7204cde67cd8dec1bfb1adf8bc6f9c59de4b38b8385e77da44683fd0b", func := "loop.example/g03007/laws.FnExactAreTwins", spec := "fnExactAreTwins", unfollowed := true, recurses := true, apart := false, narrowed := true }
def FnExactAreTwinsUptoSaid : Prop := fnExactAreTwinsUptoRow.holds Try.pinned (OpenSpec.upto fnExactAreTwinsSpec)

/-- 'laws.FnExactOuterOf', WHERE WHAT IT READS IS OF BULK AT MOST 1048576: true; the input reads as it did. -/
def fnExactOuterOfUptoRow : OpenClaim := { program := "ytadipfpojlceeaa", sum := "15a86eb7204cde67cd8dec1bfb1adf8bc6f9c59de4b38b8385e77da44683fd0b", func := "loop.example/g03007/laws.FnExactOuterOf", spec := "fnExactOuterOf", unfollowed := true, recurses := true, apart := false, narrowed := true }
def FnExactOuterOfUptoSaid : Prop := fnExactOuterOfUptoRow.holds Try.pinned (OpenSpec.upto fnExactOuterOfSpec)

/-- 'laws.FnExactIsCalendar', WHERE WHAT IT READS IS OF BULK AT MOST 1048576: true; the input reads as it did. -/
def fnExactIsCalendarUptoRow : OpenClaim := { program := "ytadipfpojlceeaa", sum := "15a86eb7204cde67cd8dec1bfb1adf8bc6f9c59de4b38b8385e77da44683fd0b", func := "loop.example/g03007/laws.FnExactIsCalendar", spec := "fnExactIsCalendar", apart := false, narrowed := true }
def FnExactIsCalendarUptoSaid : Prop := fnExactIsCalendarUptoRow.holds Try.pinned (OpenSpec.upto fnExactIsCalendarSpec)

/-- 'laws.FnExactIsOpen', WHERE WHAT IT READS IS OF BULK AT MOST 1048576: true; the input reads as it did. -/
def fnExactIsOpenUptoRow : OpenClaim := { program := "ytadipfpojlceeaa", sum := "15a86eb7204cde67cd8dec1bfb1adf8bc6f9c59de4b38b8385e77da44683fd0b", func := "loop.example/g03007/laws.FnExactIsOpen", spec := "fnExactIsOpen", apart := false, narrowed := true }
def FnExactIsOpenUptoSaid : Prop := fnExactIsOpenUptoRow.holds Try.pinned (OpenSpec.upto fnExactIsOpenSpec)

/-- 'laws.FnExactNextOpen', WHERE WHAT IT READS IS OF BULK AT MOST 1048576: true; the input reads as it did. -/
def fnExactNextOpenUptoRow : OpenClaim := { program := "ytadipfpojlceeaa", sum := "15a86eb7204cde67cd8dec1bfb1adf8bc6f9c59de4b38b8385e77da44683fd0b", func := "loop.example/g03007/laws.FnExactNextOpen", spec := "fnExactNextOpen", unfollowed := true, recurses := true, apart := false, narrowed := true }
def FnExactNextOpenUptoSaid : Prop := fnExactNextOpenUptoRow.holds Try.pinned (OpenSpec.upto fnExactNextOpenSpec)

/-- 'laws.FnExactAddOpenDays', WHERE WHAT IT READS IS OF BULK AT MOST 1048576: true; the input reads as it did. -/
def fnExactAddOpenDaysUptoRow : OpenClaim := { program := "ytadipfpojlceeaa", sum := "15a86eb7204cde67cd8dec1bfb1adf8bc6f9c59de4b38b8385e77da44683fd0b", func := "loop.example/g03007/laws.FnExactAddOpenDays", spec := "fnExactAddOpenDays", unfollowed := true, recurses := true, apart := false, narrowed := true }
def FnExactAddOpenDaysUptoSaid : Prop := fnExactAddOpenDaysUptoRow.holds Try.pinned (OpenSpec.upto fnExactAddOpenDaysSpec)

/-- 'laws.FnExactOpenDaysBetween', WHERE WHAT IT READS IS OF BULK AT MOST 1048576: true; the input reads as it did. -/
def fnExactOpenDaysBetweenUptoRow : OpenClaim := { program := "ytadipfpojlceeaa", sum := "15a86eb7204cde67cd8dec1bfb1adf8bc6f9c59de4b38b8385e77da44683fd0b", func := "loop.example/g03007/laws.FnExactOpenDaysBetween", spec := "fnExactOpenDaysBetween", apart := false, narrowed := true }
def FnExactOpenDaysBetweenUptoSaid : Prop := fnExactOpenDaysBetweenUptoRow.holds Try.pinned (OpenSpec.upto fnExactOpenDaysBetweenSpec)

/-- 'laws.FnExactKindOf', WHERE WHAT IT READS IS OF BULK AT MOST 1048576: true; the input reads as it did. -/
def fnExactKindOfUptoRow : OpenClaim := { program := "ytadipfpojlceeaa", sum := "15a86eb7204cde67cd8dec1bfb1adf8bc6f9c59de4b38b8385e77da44683fd0b", func := "loop.example/g03007/laws.FnExactKindOf", spec := "fnExactKindOf", apart := false, narrowed := true }
def FnExactKindOfUptoSaid : Prop := fnExactKindOfUptoRow.holds Try.pinned (OpenSpec.upto fnExactKindOfSpec)

/-- 'laws.FnExactAreTickets', WHERE WHAT IT READS IS OF BULK AT MOST 1048576: true; the input reads as it did. -/
def fnExactAreTicketsUptoRow : OpenClaim := { program := "ytadipfpojlceeaa", sum := "15a86eb7204cde67cd8dec1bfb1adf8bc6f9c59de4b38b8385e77da44683fd0b", func := "loop.example/g03007/laws.FnExactAreTickets", spec := "fnExactAreTickets", unfollowed := true, recurses := true, apart := false, narrowed := true }
def FnExactAreTicketsUptoSaid : Prop := fnExactAreTicketsUptoRow.holds Try.pinned (OpenSpec.upto fnExactAreTicketsSpec)

/-- 'laws.FnExactBeforeIn', WHERE WHAT IT READS IS OF BULK AT MOST 1048576: true; the input reads as it did. -/
def fnExactBeforeInUptoRow : OpenClaim := { program := "ytadipfpojlceeaa", sum := "15a86eb7204cde67cd8dec1bfb1adf8bc6f9c59de4b38b8385e77da44683fd0b", func := "loop.example/g03007/laws.FnExactBeforeIn", spec := "fnExactBeforeIn", unfollowed := true, recurses := true, apart := false, narrowed := true }
def FnExactBeforeInUptoSaid : Prop := fnExactBeforeInUptoRow.holds Try.pinned (OpenSpec.upto fnExactBeforeInSpec)

/-- 'laws.FnExactAreEntries', WHERE WHAT IT READS IS OF BULK AT MOST 1048576: true; the input reads as it did. -/
def fnExactAreEntriesUptoRow : OpenClaim := { program := "ytadipfpojlceeaa", sum := "15a86eb7204cde67cd8dec1bfb1adf8bc6f9c59de4b38b8385e77da44683fd0b", func := "loop.example/g03007/laws.FnExactAreEntries", spec := "fnExactAreEntries", apart := false, narrowed := true }
def FnExactAreEntriesUptoSaid : Prop := fnExactAreEntriesUptoRow.holds Try.pinned (OpenSpec.upto fnExactAreEntriesSpec)

/-- 'laws.FnExactBalance', WHERE WHAT IT READS IS OF BULK AT MOST 1048576: true; the input reads as it did. -/
def fnExactBalanceUptoRow : OpenClaim := { program := "ytadipfpojlceeaa", sum := "15a86eb7204cde67cd8dec1bfb1adf8bc6f9c59de4b38b8385e77da44683fd0b", func := "loop.example/g03007/laws.FnExactBalance", spec := "fnExactBalance", unfollowed := true, recurses := true, apart := false, narrowed := true }
def FnExactBalanceUptoSaid : Prop := fnExactBalanceUptoRow.holds Try.pinned (OpenSpec.upto fnExactBalanceSpec)

/-- 'laws.FnExactTotalPaid', WHERE WHAT IT READS IS OF BULK AT MOST 1048576: true; the input reads as it did. -/
def fnExactTotalPaidUptoRow : OpenClaim := { program := "ytadipfpojlceeaa", sum := "15a86eb7204cde67cd8dec1bfb1adf8bc6f9c59de4b38b8385e77da44683fd0b", func := "loop.example/g03007/laws.FnExactTotalPaid", spec := "fnExactTotalPaid", unfollowed := true, recurses := true, apart := false, narrowed := true }
def FnExactTotalPaidUptoSaid : Prop := fnExactTotalPaidUptoRow.holds Try.pinned (OpenSpec.upto fnExactTotalPaidSpec)

/-- 'laws.FnExactQuiet', WHERE WHAT IT READS IS OF BULK AT MOST 1048576: true; the input reads as it did. -/
def fnExactQuietUptoRow : OpenClaim := { program := "ytadipfpojlceeaa", sum := "15a86eb7204cde67cd8dec1bfb1adf8bc6f9c59de4b38b8385e77da44683fd0b", func := "loop.example/g03007/laws.FnExactQuiet", spec := "fnExactQuiet", apart := false, narrowed := true }
def FnExactQuietUptoSaid : Prop := fnExactQuietUptoRow.holds Try.pinned (OpenSpec.upto fnExactQuietSpec)

/-- 'laws.FnExactIsSecretOf', WHERE WHAT IT READS IS OF BULK AT MOST 1048576: true; the input reads as it did. -/
def fnExactIsSecretOfUptoRow : OpenClaim := { program := "ytadipfpojlceeaa", sum := "15a86eb7204cde67cd8dec1bfb1adf8bc6f9c59de4b38b8385e77da44683fd0b", func := "loop.example/g03007/laws.FnExactIsSecretOf", spec := "fnExactIsSecretOf", unfollowed := true, recurses := true, apart := false, narrowed := true }
def FnExactIsSecretOfUptoSaid : Prop := fnExactIsSecretOfUptoRow.holds Try.pinned (OpenSpec.upto fnExactIsSecretOfSpec)

/-- 'laws.FnExactHolderText', WHERE WHAT IT READS IS OF BULK AT MOST 1048576: true; the input reads as it did. -/
def fnExactHolderTextUptoRow : OpenClaim := { program := "ytadipfpojlceeaa", sum := "15a86eb7204cde67cd8dec1bfb1adf8bc6f9c59de4b38b8385e77da44683fd0b", func := "loop.example/g03007/laws.FnExactHolderText", spec := "fnExactHolderText", apart := false, narrowed := true }
def FnExactHolderTextUptoSaid : Prop := fnExactHolderTextUptoRow.holds Try.pinned (OpenSpec.upto fnExactHolderTextSpec)

/-- 'laws.FnExactEventName', WHERE WHAT IT READS IS OF BULK AT MOST 1048576: true; the input reads as it did. -/
def fnExactEventNameUptoRow : OpenClaim := { program := "ytadipfpojlceeaa", sum := "15a86eb7204cde67cd8dec1bfb1adf8bc6f9c59de4b38b8385e77da44683fd0b", func := "loop.example/g03007/laws.FnExactEventName", spec := "fnExactEventName", apart := false, narrowed := true }
def FnExactEventNameUptoSaid : Prop := fnExactEventNameUptoRow.holds Try.pinned (OpenSpec.upto fnExactEventNameSpec)

/-- 'laws.FnExactCountKind', WHERE WHAT IT READS IS OF BULK AT MOST 1048576: true; the input reads as it did. -/
def fnExactCountKindUptoRow : OpenClaim := { program := "ytadipfpojlceeaa", sum := "15a86eb7204cde67cd8dec1bfb1adf8bc6f9c59de4b38b8385e77da44683fd0b", func := "loop.example/g03007/laws.FnExactCountKind", spec := "fnExactCountKind", unfollowed := true, recurses := true, apart := false, narrowed := true }
def FnExactCountKindUptoSaid : Prop := fnExactCountKindUptoRow.holds Try.pinned (OpenSpec.upto fnExactCountKindSpec)

/-- 'laws.FnExactBusiestPlace', WHERE WHAT IT READS IS OF BULK AT MOST 1048576: true; the input reads as it did. -/
def fnExactBusiestPlaceUptoRow : OpenClaim := { program := "ytadipfpojlceeaa", sum := "15a86eb7204cde67cd8dec1bfb1adf8bc6f9c59de4b38b8385e77da44683fd0b", func := "loop.example/g03007/laws.FnExactBusiestPlace", spec := "fnExactBusiestPlace", unfollowed := true, recurses := true, apart := false, narrowed := true }
def FnExactBusiestPlaceUptoSaid : Prop := fnExactBusiestPlaceUptoRow.holds Try.pinned (OpenSpec.upto fnExactBusiestPlaceSpec)

/-- 'laws.FnExactWorthOf', WHERE WHAT IT READS IS OF BULK AT MOST 1048576: true; the input reads as it did. -/
def fnExactWorthOfUptoRow : OpenClaim := { program := "ytadipfpojlceeaa", sum := "15a86eb7204cde67cd8dec1bfb1adf8bc6f9c59de4b38b8385e77da44683fd0b", func := "loop.example/g03007/laws.FnExactWorthOf", spec := "fnExactWorthOf", unfollowed := true, recurses := true, apart := false, narrowed := true }
def FnExactWorthOfUptoSaid : Prop := fnExactWorthOfUptoRow.holds Try.pinned (OpenSpec.upto fnExactWorthOfSpec)

/-- 'laws.FnExactOpenClaims', WHERE WHAT IT READS IS OF BULK AT MOST 1048576: true; the input reads as it did. -/
def fnExactOpenClaimsUptoRow : OpenClaim := { program := "ytadipfpojlceeaa", sum := "15a86eb7204cde67cd8dec1bfb1adf8bc6f9c59de4b38b8385e77da44683fd0b", func := "loop.example/g03007/laws.FnExactOpenClaims", spec := "fnExactOpenClaims", unfollowed := true, recurses := true, apart := false, narrowed := true }
def FnExactOpenClaimsUptoSaid : Prop := fnExactOpenClaimsUptoRow.holds Try.pinned (OpenSpec.upto fnExactOpenClaimsSpec)

/-- 'laws.FnExactOldestFind', WHERE WHAT IT READS IS OF BULK AT MOST 1048576: true; the input reads as it did. -/
def fnExactOldestFindUptoRow : OpenClaim := { program := "ytadipfpojlceeaa", sum := "15a86eb7204cde67cd8dec1bfb1adf8bc6f9c59de4b38b8385e77da44683fd0b", func := "loop.example/g03007/laws.FnExactOldestFind", spec := "fnExactOldestFind", unfollowed := true, recurses := true, apart := false, narrowed := true }
def FnExactOldestFindUptoSaid : Prop := fnExactOldestFindUptoRow.holds Try.pinned (OpenSpec.upto fnExactOldestFindSpec)

/-- 'laws.FnExactEqualHits', WHERE WHAT IT READS IS OF BULK AT MOST 1048576: true; the input reads as it did. -/
def fnExactEqualHitsUptoRow : OpenClaim := { program := "ytadipfpojlceeaa", sum := "15a86eb7204cde67cd8dec1bfb1adf8bc6f9c59de4b38b8385e77da44683fd0b", func := "loop.example/g03007/laws.FnExactEqualHits", spec := "fnExactEqualHits", apart := false, narrowed := true }
def FnExactEqualHitsUptoSaid : Prop := fnExactEqualHitsUptoRow.holds Try.pinned (OpenSpec.upto fnExactEqualHitsSpec)

end Rows
end Go.Proofs.Ytadipfpojlceeaa
