/-
  No cell of these rows narrows 'for every input' (looked for: loops, veiled, ifaces, maps, wideKeys, modest, calm, conditions, laid).
  DERIVED. THE GIVEN ROWS OF THIS SEAT. 21 by the template 'for every input the law returns true; each argument reads behind the call as it read before'; 0 by the template 'total and deterministic' (their statements: YtnkggfhgmdbfpaaTotals.lean).
  GIVEN WITH THE SEED: the statements are not yours to turn. If you find one false, say at which input.
  Laid BY PROGRAM, IN A SANDBOX (cutbox-rows.mjs): the forced cells as the released guide's own fill.sh prints them over the translation 9bf349816afef96e… (all of the seat's roots in one cut). By AI agents, Wed Nov 11 2026. No macro, syntax, notation, axiom, sorry.
-/
import Derived.Test.YtnkggfhgmdbfpaaChecked
import GoSem.Claim
import GoSem.ClaimJoined
import GoSem.ClaimMapViews
import Derived.JoinedTies
import Derived.KernelRfl
namespace Go.Proofs.Ytnkggfhgmdbfpaa
/- THE CELL 'sum', in the pinned program and in every row, IS THE sha256 OF THE DUMP (.gsa) THAT YtnkggfhgmdbfpaaProg.lean LOADS. Nothing in Lean hashes anything: it is a label: what it is worth is what the hold of that sum in a sandbox is worth. -/
noncomputable def Try.pinned : Pinned := { name := "ytnkggfhgmdbfpaa", sum := "9bf349816afef96ebc1339afd8549dc186dc63d8e4cc8d271940b547c85c34b3", checked := Try.checked }
namespace Rows
def none {H : Type} : Left H := { results := [], args := [] }

/-- 'laws.FnExactAppendUvarint': WHATEVER THE INPUT: true; the input reads as it did. -/
def fnExactAppendUvarintSpec : ChangeSpec := { name := "fnExactAppendUvarint", fn := fun _ => fun
  | [d1, d2] => { results := [.lit (.bool true)], args := [d1, d2] }
  | _ => none }
def fnExactAppendUvarintRow : OpenClaim := { program := "ytnkggfhgmdbfpaa", sum := "9bf349816afef96ebc1339afd8549dc186dc63d8e4cc8d271940b547c85c34b3", func := "loop.example/g03007/laws.FnExactAppendUvarint", spec := "fnExactAppendUvarint", apart := false }
def FnExactAppendUvarintSaid : Prop := fnExactAppendUvarintRow.holds Try.pinned (OpenSpec.ofChange fnExactAppendUvarintSpec)

/-- ITS FALSE NEIGHBOUR: 'it returns false'. Refute it at one input. -/
def fnExactAppendUvarintWrong : ChangeSpec := { name := "fnExactAppendUvarint", fn := fun _ => fun
  | [d1, d2] => { results := [.lit (.bool false)], args := [d1, d2] }
  | _ => none }
def FnExactAppendUvarintWrongFalsely : Prop := fnExactAppendUvarintRow.holds Try.pinned (OpenSpec.ofChange fnExactAppendUvarintWrong)

/-- 'laws.FnExactReadUvarint': WHATEVER THE INPUT: true; the input reads as it did. -/
def fnExactReadUvarintSpec : ChangeSpec := { name := "fnExactReadUvarint", fn := fun _ => fun
  | [d1, d2] => { results := [.lit (.bool true)], args := [d1, d2] }
  | _ => none }
def fnExactReadUvarintRow : OpenClaim := { program := "ytnkggfhgmdbfpaa", sum := "9bf349816afef96ebc1339afd8549dc186dc63d8e4cc8d271940b547c85c34b3", func := "loop.example/g03007/laws.FnExactReadUvarint", spec := "fnExactReadUvarint", unfollowed := true, recurses := true, apart := false }
def FnExactReadUvarintSaid : Prop := fnExactReadUvarintRow.holds Try.pinned (OpenSpec.ofChange fnExactReadUvarintSpec)

/-- ITS FALSE NEIGHBOUR: 'it returns false'. Refute it at one input. -/
def fnExactReadUvarintWrong : ChangeSpec := { name := "fnExactReadUvarint", fn := fun _ => fun
  | [d1, d2] => { results := [.lit (.bool false)], args := [d1, d2] }
  | _ => none }
def FnExactReadUvarintWrongFalsely : Prop := fnExactReadUvarintRow.holds Try.pinned (OpenSpec.ofChange fnExactReadUvarintWrong)

/-- 'laws.FnExactAppendBytes': WHATEVER THE INPUT: true; the input reads as it did. -/
def fnExactAppendBytesSpec : ChangeSpec := { name := "fnExactAppendBytes", fn := fun _ => fun
  | [d1, d2] => { results := [.lit (.bool true)], args := [d1, d2] }
  | _ => none }
def fnExactAppendBytesRow : OpenClaim := { program := "ytnkggfhgmdbfpaa", sum := "9bf349816afef96ebc1339afd8549dc186dc63d8e4cc8d271940b547c85c34b3", func := "loop.example/g03007/laws.FnExactAppendBytes", spec := "fnExactAppendBytes", apart := false }
def FnExactAppendBytesSaid : Prop := fnExactAppendBytesRow.holds Try.pinned (OpenSpec.ofChange fnExactAppendBytesSpec)

/-- ITS FALSE NEIGHBOUR: 'it returns false'. Refute it at one input. -/
def fnExactAppendBytesWrong : ChangeSpec := { name := "fnExactAppendBytes", fn := fun _ => fun
  | [d1, d2] => { results := [.lit (.bool false)], args := [d1, d2] }
  | _ => none }
def FnExactAppendBytesWrongFalsely : Prop := fnExactAppendBytesRow.holds Try.pinned (OpenSpec.ofChange fnExactAppendBytesWrong)

/-- 'laws.FnExactReadBytes': WHATEVER THE INPUT: true; the input reads as it did. -/
def fnExactReadBytesSpec : ChangeSpec := { name := "fnExactReadBytes", fn := fun _ => fun
  | [d1, d2, d3] => { results := [.lit (.bool true)], args := [d1, d2, d3] }
  | _ => none }
def fnExactReadBytesRow : OpenClaim := { program := "ytnkggfhgmdbfpaa", sum := "9bf349816afef96ebc1339afd8549dc186dc63d8e4cc8d271940b547c85c34b3", func := "loop.example/g03007/laws.FnExactReadBytes", spec := "fnExactReadBytes", unfollowed := true, recurses := true, apart := false }
def FnExactReadBytesSaid : Prop := fnExactReadBytesRow.holds Try.pinned (OpenSpec.ofChange fnExactReadBytesSpec)

/-- ITS FALSE NEIGHBOUR: 'it returns false'. Refute it at one input. -/
def fnExactReadBytesWrong : ChangeSpec := { name := "fnExactReadBytes", fn := fun _ => fun
  | [d1, d2, d3] => { results := [.lit (.bool false)], args := [d1, d2, d3] }
  | _ => none }
def FnExactReadBytesWrongFalsely : Prop := fnExactReadBytesRow.holds Try.pinned (OpenSpec.ofChange fnExactReadBytesWrong)

/-- 'laws.FnExactEncodeInts': WHATEVER THE INPUT: true; the input reads as it did. -/
def fnExactEncodeIntsSpec : ChangeSpec := { name := "fnExactEncodeInts", fn := fun _ => fun
  | [d] => { results := [.lit (.bool true)], args := [d] }
  | _ => none }
def fnExactEncodeIntsRow : OpenClaim := { program := "ytnkggfhgmdbfpaa", sum := "9bf349816afef96ebc1339afd8549dc186dc63d8e4cc8d271940b547c85c34b3", func := "loop.example/g03007/laws.FnExactEncodeInts", spec := "fnExactEncodeInts", apart := false }
def FnExactEncodeIntsSaid : Prop := fnExactEncodeIntsRow.holds Try.pinned (OpenSpec.ofChange fnExactEncodeIntsSpec)

/-- ITS FALSE NEIGHBOUR: 'it returns false'. Refute it at one input. -/
def fnExactEncodeIntsWrong : ChangeSpec := { name := "fnExactEncodeInts", fn := fun _ => fun
  | [d] => { results := [.lit (.bool false)], args := [d] }
  | _ => none }
def FnExactEncodeIntsWrongFalsely : Prop := fnExactEncodeIntsRow.holds Try.pinned (OpenSpec.ofChange fnExactEncodeIntsWrong)

/-- 'laws.FnExactDecodeInts': WHATEVER THE INPUT: true; the input reads as it did. -/
def fnExactDecodeIntsSpec : ChangeSpec := { name := "fnExactDecodeInts", fn := fun _ => fun
  | [d1, d2, d3] => { results := [.lit (.bool true)], args := [d1, d2, d3] }
  | _ => none }
def fnExactDecodeIntsRow : OpenClaim := { program := "ytnkggfhgmdbfpaa", sum := "9bf349816afef96ebc1339afd8549dc186dc63d8e4cc8d271940b547c85c34b3", func := "loop.example/g03007/laws.FnExactDecodeInts", spec := "fnExactDecodeInts", unfollowed := true, recurses := true, apart := false }
def FnExactDecodeIntsSaid : Prop := fnExactDecodeIntsRow.holds Try.pinned (OpenSpec.ofChange fnExactDecodeIntsSpec)

/-- ITS FALSE NEIGHBOUR: 'it returns false'. Refute it at one input. -/
def fnExactDecodeIntsWrong : ChangeSpec := { name := "fnExactDecodeInts", fn := fun _ => fun
  | [d1, d2, d3] => { results := [.lit (.bool false)], args := [d1, d2, d3] }
  | _ => none }
def FnExactDecodeIntsWrongFalsely : Prop := fnExactDecodeIntsRow.holds Try.pinned (OpenSpec.ofChange fnExactDecodeIntsWrong)

/-- 'laws.FnExactBestOf': WHATEVER THE INPUT: true; the input reads as it did. -/
def fnExactBestOfSpec : ChangeSpec := { name := "fnExactBestOf", fn := fun _ => fun
  | [d1, d2] => { results := [.lit (.bool true)], args := [d1, d2] }
  | _ => none }
def fnExactBestOfRow : OpenClaim := { program := "ytnkggfhgmdbfpaa", sum := "9bf349816afef96ebc1339afd8549dc186dc63d8e4cc8d271940b547c85c34b3", func := "loop.example/g03007/laws.FnExactBestOf", spec := "fnExactBestOf", unfollowed := true, recurses := true, apart := false }
def FnExactBestOfSaid : Prop := fnExactBestOfRow.holds Try.pinned (OpenSpec.ofChange fnExactBestOfSpec)

/-- ITS FALSE NEIGHBOUR: 'it returns false'. Refute it at one input. -/
def fnExactBestOfWrong : ChangeSpec := { name := "fnExactBestOf", fn := fun _ => fun
  | [d1, d2] => { results := [.lit (.bool false)], args := [d1, d2] }
  | _ => none }
def FnExactBestOfWrongFalsely : Prop := fnExactBestOfRow.holds Try.pinned (OpenSpec.ofChange fnExactBestOfWrong)

/-- 'laws.FnExactRemember': WHATEVER THE INPUT: true; the input reads as it did. -/
def fnExactRememberSpec : ChangeSpec := { name := "fnExactRemember", fn := fun _ => fun
  | [d1, d2, d3] => { results := [.lit (.bool true)], args := [d1, d2, d3] }
  | _ => none }
def fnExactRememberRow : OpenClaim := { program := "ytnkggfhgmdbfpaa", sum := "9bf349816afef96ebc1339afd8549dc186dc63d8e4cc8d271940b547c85c34b3", func := "loop.example/g03007/laws.FnExactRemember", spec := "fnExactRemember", unfollowed := true, recurses := true, apart := false }
def FnExactRememberSaid : Prop := fnExactRememberRow.holds Try.pinned (OpenSpec.ofChange fnExactRememberSpec)

/-- ITS FALSE NEIGHBOUR: 'it returns false'. Refute it at one input. -/
def fnExactRememberWrong : ChangeSpec := { name := "fnExactRemember", fn := fun _ => fun
  | [d1, d2, d3] => { results := [.lit (.bool false)], args := [d1, d2, d3] }
  | _ => none }
def FnExactRememberWrongFalsely : Prop := fnExactRememberRow.holds Try.pinned (OpenSpec.ofChange fnExactRememberWrong)

/-- 'laws.FnExactJoinDoubts': WHATEVER THE INPUT: true; the input reads as it did. -/
def fnExactJoinDoubtsSpec : ChangeSpec := { name := "fnExactJoinDoubts", fn := fun _ => fun
  | [d1, d2] => { results := [.lit (.bool true)], args := [d1, d2] }
  | _ => none }
def fnExactJoinDoubtsRow : OpenClaim := { program := "ytnkggfhgmdbfpaa", sum := "9bf349816afef96ebc1339afd8549dc186dc63d8e4cc8d271940b547c85c34b3", func := "loop.example/g03007/laws.FnExactJoinDoubts", spec := "fnExactJoinDoubts", unfollowed := true, recurses := true, apart := false }
def FnExactJoinDoubtsSaid : Prop := fnExactJoinDoubtsRow.holds Try.pinned (OpenSpec.ofChange fnExactJoinDoubtsSpec)

/-- ITS FALSE NEIGHBOUR: 'it returns false'. Refute it at one input. -/
def fnExactJoinDoubtsWrong : ChangeSpec := { name := "fnExactJoinDoubts", fn := fun _ => fun
  | [d1, d2] => { results := [.lit (.bool false)], args := [d1, d2] }
  | _ => none }
def FnExactJoinDoubtsWrongFalsely : Prop := fnExactJoinDoubtsRow.holds Try.pinned (OpenSpec.ofChange fnExactJoinDoubtsWrong)

/-- 'laws.FnExactWasted': WHATEVER THE INPUT: true; the input reads as it did. -/
def fnExactWastedSpec : ChangeSpec := { name := "fnExactWasted", fn := fun _ => fun
  | [d1, d2] => { results := [.lit (.bool true)], args := [d1, d2] }
  | _ => none }
def fnExactWastedRow : OpenClaim := { program := "ytnkggfhgmdbfpaa", sum := "9bf349816afef96ebc1339afd8549dc186dc63d8e4cc8d271940b547c85c34b3", func := "loop.example/g03007/laws.FnExactWasted", spec := "fnExactWasted", unfollowed := true, recurses := true, apart := false }
def FnExactWastedSaid : Prop := fnExactWastedRow.holds Try.pinned (OpenSpec.ofChange fnExactWastedSpec)

/-- ITS FALSE NEIGHBOUR: 'it returns false'. Refute it at one input. -/
def fnExactWastedWrong : ChangeSpec := { name := "fnExactWasted", fn := fun _ => fun
  | [d1, d2] => { results := [.lit (.bool false)], args := [d1, d2] }
  | _ => none }
def FnExactWastedWrongFalsely : Prop := fnExactWastedRow.holds Try.pinned (OpenSpec.ofChange fnExactWastedWrong)

/-- 'laws.FnExactWinner': WHATEVER THE INPUT: true; the input reads as it did. -/
def fnExactWinnerSpec : ChangeSpec := { name := "fnExactWinner", fn := fun _ => fun
  | [d] => { results := [.lit (.bool true)], args := [d] }
  | _ => none }
def fnExactWinnerRow : OpenClaim := { program := "ytnkggfhgmdbfpaa", sum := "9bf349816afef96ebc1339afd8549dc186dc63d8e4cc8d271940b547c85c34b3", func := "loop.example/g03007/laws.FnExactWinner", spec := "fnExactWinner", unfollowed := true, recurses := true, apart := false }
def FnExactWinnerSaid : Prop := fnExactWinnerRow.holds Try.pinned (OpenSpec.ofChange fnExactWinnerSpec)

/-- ITS FALSE NEIGHBOUR: 'it returns false'. Refute it at one input. -/
def fnExactWinnerWrong : ChangeSpec := { name := "fnExactWinner", fn := fun _ => fun
  | [d] => { results := [.lit (.bool false)], args := [d] }
  | _ => none }
def FnExactWinnerWrongFalsely : Prop := fnExactWinnerRow.holds Try.pinned (OpenSpec.ofChange fnExactWinnerWrong)

/-- 'laws.FnExactHighestBids': WHATEVER THE INPUT: true; the input reads as it did. -/
def fnExactHighestBidsSpec : ChangeSpec := { name := "fnExactHighestBids", fn := fun _ => fun
  | [d1, d2] => { results := [.lit (.bool true)], args := [d1, d2] }
  | _ => none }
def fnExactHighestBidsRow : OpenClaim := { program := "ytnkggfhgmdbfpaa", sum := "9bf349816afef96ebc1339afd8549dc186dc63d8e4cc8d271940b547c85c34b3", func := "loop.example/g03007/laws.FnExactHighestBids", spec := "fnExactHighestBids", unfollowed := true, recurses := true, apart := false }
def FnExactHighestBidsSaid : Prop := fnExactHighestBidsRow.holds Try.pinned (OpenSpec.ofChange fnExactHighestBidsSpec)

/-- ITS FALSE NEIGHBOUR: 'it returns false'. Refute it at one input. -/
def fnExactHighestBidsWrong : ChangeSpec := { name := "fnExactHighestBids", fn := fun _ => fun
  | [d1, d2] => { results := [.lit (.bool false)], args := [d1, d2] }
  | _ => none }
def FnExactHighestBidsWrongFalsely : Prop := fnExactHighestBidsRow.holds Try.pinned (OpenSpec.ofChange fnExactHighestBidsWrong)

/-- 'laws.FnExactIsCalendar': WHATEVER THE INPUT: true; the input reads as it did. -/
def fnExactIsCalendarSpec : ChangeSpec := { name := "fnExactIsCalendar", fn := fun _ => fun
  | [d] => { results := [.lit (.bool true)], args := [d] }
  | _ => none }
def fnExactIsCalendarRow : OpenClaim := { program := "ytnkggfhgmdbfpaa", sum := "9bf349816afef96ebc1339afd8549dc186dc63d8e4cc8d271940b547c85c34b3", func := "loop.example/g03007/laws.FnExactIsCalendar", spec := "fnExactIsCalendar", apart := false }
def FnExactIsCalendarSaid : Prop := fnExactIsCalendarRow.holds Try.pinned (OpenSpec.ofChange fnExactIsCalendarSpec)

/-- ITS FALSE NEIGHBOUR: 'it returns false'. Refute it at one input. -/
def fnExactIsCalendarWrong : ChangeSpec := { name := "fnExactIsCalendar", fn := fun _ => fun
  | [d] => { results := [.lit (.bool false)], args := [d] }
  | _ => none }
def FnExactIsCalendarWrongFalsely : Prop := fnExactIsCalendarRow.holds Try.pinned (OpenSpec.ofChange fnExactIsCalendarWrong)

/-- 'laws.FnExactIsOpen': WHATEVER THE INPUT: true; the input reads as it did. -/
def fnExactIsOpenSpec : ChangeSpec := { name := "fnExactIsOpen", fn := fun _ => fun
  | [d1, d2] => { results := [.lit (.bool true)], args := [d1, d2] }
  | _ => none }
def fnExactIsOpenRow : OpenClaim := { program := "ytnkggfhgmdbfpaa", sum := "9bf349816afef96ebc1339afd8549dc186dc63d8e4cc8d271940b547c85c34b3", func := "loop.example/g03007/laws.FnExactIsOpen", spec := "fnExactIsOpen", apart := false }
def FnExactIsOpenSaid : Prop := fnExactIsOpenRow.holds Try.pinned (OpenSpec.ofChange fnExactIsOpenSpec)

/-- ITS FALSE NEIGHBOUR: 'it returns false'. Refute it at one input. -/
def fnExactIsOpenWrong : ChangeSpec := { name := "fnExactIsOpen", fn := fun _ => fun
  | [d1, d2] => { results := [.lit (.bool false)], args := [d1, d2] }
  | _ => none }
def FnExactIsOpenWrongFalsely : Prop := fnExactIsOpenRow.holds Try.pinned (OpenSpec.ofChange fnExactIsOpenWrong)

/-- 'laws.FnExactNextOpen': WHATEVER THE INPUT: true; the input reads as it did. -/
def fnExactNextOpenSpec : ChangeSpec := { name := "fnExactNextOpen", fn := fun _ => fun
  | [d1, d2] => { results := [.lit (.bool true)], args := [d1, d2] }
  | _ => none }
def fnExactNextOpenRow : OpenClaim := { program := "ytnkggfhgmdbfpaa", sum := "9bf349816afef96ebc1339afd8549dc186dc63d8e4cc8d271940b547c85c34b3", func := "loop.example/g03007/laws.FnExactNextOpen", spec := "fnExactNextOpen", unfollowed := true, recurses := true, apart := false }
def FnExactNextOpenSaid : Prop := fnExactNextOpenRow.holds Try.pinned (OpenSpec.ofChange fnExactNextOpenSpec)

/-- ITS FALSE NEIGHBOUR: 'it returns false'. Refute it at one input. -/
def fnExactNextOpenWrong : ChangeSpec := { name := "fnExactNextOpen", fn := fun _ => fun
  | [d1, d2] => { results := [.lit (.bool false)], args := [d1, d2] }
  | _ => none }
def FnExactNextOpenWrongFalsely : Prop := fnExactNextOpenRow.holds Try.pinned (OpenSpec.ofChange fnExactNextOpenWrong)

/-- 'laws.FnExactAddOpenDays': WHATEVER THE INPUT: true; the input reads as it did. -/
def fnExactAddOpenDaysSpec : ChangeSpec := { name := "fnExactAddOpenDays", fn := fun _ => fun
  | [d1, d2, d3] => { results := [.lit (.bool true)], args := [d1, d2, d3] }
  | _ => none }
def fnExactAddOpenDaysRow : OpenClaim := { program := "ytnkggfhgmdbfpaa", sum := "9bf349816afef96ebc1339afd8549dc186dc63d8e4cc8d271940b547c85c34b3", func := "loop.example/g03007/laws.FnExactAddOpenDays", spec := "fnExactAddOpenDays", unfollowed := true, recurses := true, apart := false }
def FnExactAddOpenDaysSaid : Prop := fnExactAddOpenDaysRow.holds Try.pinned (OpenSpec.ofChange fnExactAddOpenDaysSpec)

/-- ITS FALSE NEIGHBOUR: 'it returns false'. Refute it at one input. -/
def fnExactAddOpenDaysWrong : ChangeSpec := { name := "fnExactAddOpenDays", fn := fun _ => fun
  | [d1, d2, d3] => { results := [.lit (.bool false)], args := [d1, d2, d3] }
  | _ => none }
def FnExactAddOpenDaysWrongFalsely : Prop := fnExactAddOpenDaysRow.holds Try.pinned (OpenSpec.ofChange fnExactAddOpenDaysWrong)

/-- 'laws.FnExactOpenDaysBetween': WHATEVER THE INPUT: true; the input reads as it did. -/
def fnExactOpenDaysBetweenSpec : ChangeSpec := { name := "fnExactOpenDaysBetween", fn := fun _ => fun
  | [d1, d2, d3] => { results := [.lit (.bool true)], args := [d1, d2, d3] }
  | _ => none }
def fnExactOpenDaysBetweenRow : OpenClaim := { program := "ytnkggfhgmdbfpaa", sum := "9bf349816afef96ebc1339afd8549dc186dc63d8e4cc8d271940b547c85c34b3", func := "loop.example/g03007/laws.FnExactOpenDaysBetween", spec := "fnExactOpenDaysBetween", apart := false }
def FnExactOpenDaysBetweenSaid : Prop := fnExactOpenDaysBetweenRow.holds Try.pinned (OpenSpec.ofChange fnExactOpenDaysBetweenSpec)

/-- ITS FALSE NEIGHBOUR: 'it returns false'. Refute it at one input. -/
def fnExactOpenDaysBetweenWrong : ChangeSpec := { name := "fnExactOpenDaysBetween", fn := fun _ => fun
  | [d1, d2, d3] => { results := [.lit (.bool false)], args := [d1, d2, d3] }
  | _ => none }
def FnExactOpenDaysBetweenWrongFalsely : Prop := fnExactOpenDaysBetweenRow.holds Try.pinned (OpenSpec.ofChange fnExactOpenDaysBetweenWrong)

/-- 'laws.FnExactEqualHouses': WHATEVER THE INPUT: true; the input reads as it did. -/
def fnExactEqualHousesSpec : ChangeSpec := { name := "fnExactEqualHouses", fn := fun _ => fun
  | [d1, d2] => { results := [.lit (.bool true)], args := [d1, d2] }
  | _ => none }
def fnExactEqualHousesRow : OpenClaim := { program := "ytnkggfhgmdbfpaa", sum := "9bf349816afef96ebc1339afd8549dc186dc63d8e4cc8d271940b547c85c34b3", func := "loop.example/g03007/laws.FnExactEqualHouses", spec := "fnExactEqualHouses", unfollowed := true, recurses := true, apart := false }
def FnExactEqualHousesSaid : Prop := fnExactEqualHousesRow.holds Try.pinned (OpenSpec.ofChange fnExactEqualHousesSpec)

/-- ITS FALSE NEIGHBOUR: 'it returns false'. Refute it at one input. -/
def fnExactEqualHousesWrong : ChangeSpec := { name := "fnExactEqualHouses", fn := fun _ => fun
  | [d1, d2] => { results := [.lit (.bool false)], args := [d1, d2] }
  | _ => none }
def FnExactEqualHousesWrongFalsely : Prop := fnExactEqualHousesRow.holds Try.pinned (OpenSpec.ofChange fnExactEqualHousesWrong)

/-- 'laws.FnExactAreOwners': WHATEVER THE INPUT: true; the input reads as it did. -/
def fnExactAreOwnersSpec : ChangeSpec := { name := "fnExactAreOwners", fn := fun _ => fun
  | [d] => { results := [.lit (.bool true)], args := [d] }
  | _ => none }
def fnExactAreOwnersRow : OpenClaim := { program := "ytnkggfhgmdbfpaa", sum := "9bf349816afef96ebc1339afd8549dc186dc63d8e4cc8d271940b547c85c34b3", func := "loop.example/g03007/laws.FnExactAreOwners", spec := "fnExactAreOwners", unfollowed := true, recurses := true, apart := false }
def FnExactAreOwnersSaid : Prop := fnExactAreOwnersRow.holds Try.pinned (OpenSpec.ofChange fnExactAreOwnersSpec)

/-- ITS FALSE NEIGHBOUR: 'it returns false'. Refute it at one input. -/
def fnExactAreOwnersWrong : ChangeSpec := { name := "fnExactAreOwners", fn := fun _ => fun
  | [d] => { results := [.lit (.bool false)], args := [d] }
  | _ => none }
def FnExactAreOwnersWrongFalsely : Prop := fnExactAreOwnersRow.holds Try.pinned (OpenSpec.ofChange fnExactAreOwnersWrong)

/-- 'laws.FnExactOldestFind': WHATEVER THE INPUT: true; the input reads as it did. -/
def fnExactOldestFindSpec : ChangeSpec := { name := "fnExactOldestFind", fn := fun _ => fun
  | [d] => { results := [.lit (.bool true)], args := [d] }
  | _ => none }
def fnExactOldestFindRow : OpenClaim := { program := "ytnkggfhgmdbfpaa", sum := "9bf349816afef96ebc1339afd8549dc186dc63d8e4cc8d271940b547c85c34b3", func := "loop.example/g03007/laws.FnExactOldestFind", spec := "fnExactOldestFind", unfollowed := true, recurses := true, apart := false }
def FnExactOldestFindSaid : Prop := fnExactOldestFindRow.holds Try.pinned (OpenSpec.ofChange fnExactOldestFindSpec)

/-- ITS FALSE NEIGHBOUR: 'it returns false'. Refute it at one input. -/
def fnExactOldestFindWrong : ChangeSpec := { name := "fnExactOldestFind", fn := fun _ => fun
  | [d] => { results := [.lit (.bool false)], args := [d] }
  | _ => none }
def FnExactOldestFindWrongFalsely : Prop := fnExactOldestFindRow.holds Try.pinned (OpenSpec.ofChange fnExactOldestFindWrong)

/-- 'laws.FnExactExampleSlots': WHATEVER THE INPUT: true; the input reads as it did. -/
def fnExactExampleSlotsSpec : ChangeSpec := { name := "fnExactExampleSlots", fn := fun _ => fun
  | [] => { results := [.lit (.bool true)], args := [] }
  | _ => none }
def fnExactExampleSlotsRow : OpenClaim := { program := "ytnkggfhgmdbfpaa", sum := "9bf349816afef96ebc1339afd8549dc186dc63d8e4cc8d271940b547c85c34b3", func := "loop.example/g03007/laws.FnExactExampleSlots", spec := "fnExactExampleSlots", apart := false }
def FnExactExampleSlotsSaid : Prop := fnExactExampleSlotsRow.holds Try.pinned (OpenSpec.ofChange fnExactExampleSlotsSpec)

/-- ITS FALSE NEIGHBOUR: 'it returns false'. Refute it at one input. -/
def fnExactExampleSlotsWrong : ChangeSpec := { name := "fnExactExampleSlots", fn := fun _ => fun
  | [] => { results := [.lit (.bool false)], args := [] }
  | _ => none }
def FnExactExampleSlotsWrongFalsely : Prop := fnExactExampleSlotsRow.holds Try.pinned (OpenSpec.ofChange fnExactExampleSlotsWrong)

/- THE SECOND FORM. 'bulk': how many values and letters a reading holds, each counted each time it is reached (what is shared counts as often as it is met; a slice's spare places count too). A statement '..UptoSaid' is the law's where the arguments, and the package variables that the reading takes, are together of bulk at most 1048576: NARROWER than '..Said'. Prove '..Said' where nothing that the law and all that it calls make is longer than what came in: it says more and counts as full. Else prove '..UptoSaid'. A law counts once. -/
mutual
def uptoBulk {H : Type} : DataW H → Nat
  | .lit (.string bytes) => bytes.length + 1
  | .lit _ => 1
  | .nil => 1
  | .ptr d => uptoBulk d + 1
  | .slice elems spare => uptoBulkAll elems + uptoBulkAll spare + 1
  | .agg parts => uptoBulkAll parts + 1
  | .iface _ d => uptoBulk d + 1
  | .map entries => uptoBulkEntries entries + 1
  | .held _ => 1
def uptoBulkAll {H : Type} : List (DataW H) → Nat
  | [] => 0
  | d :: r => uptoBulk d + uptoBulkAll r
def uptoBulkEntries {H : Type} : List (Lit × DataW H) → Nat
  | [] => 0
  | x :: r => uptoBulkEntry x + uptoBulkEntries r
def uptoBulkEntry {H : Type} : Lit × DataW H → Nat
  | (.string bytes, d) => bytes.length + uptoBulk d + 1
  | (_, d) => uptoBulk d + 1
 end
def uptoSmall : (H : Type) → List (DataW H) → Bool := fun _ ds => decide (uptoBulkAll ds ≤ 1048576)
def OpenSpec.upto (s : _root_.Go.ChangeSpec) : _root_.Go.OpenSpec := { _root_.Go.OpenSpec.ofChange s with cond := some uptoSmall }

/-- 'laws.FnExactAppendUvarint', WHERE WHAT IT READS IS OF BULK AT MOST 1048576: true; the input reads as it did. -/
def fnExactAppendUvarintUptoRow : OpenClaim := { program := "ytnkggfhgmdbfpaa", sum := "9bf349816afef96ebc1339afd8549dc186dc63d8e4cc8d271940b547c85c34b3", func := "loop.example/g03007/laws.FnExactAppendUvarint", spec := "fnExactAppendUvarint", apart := false, narrowed := true }
def FnExactAppendUvarintUptoSaid : Prop := fnExactAppendUvarintUptoRow.holds Try.pinned (OpenSpec.upto fnExactAppendUvarintSpec)

/-- 'laws.FnExactReadUvarint', WHERE WHAT IT READS IS OF BULK AT MOST 1048576: true; the input reads as it did. -/
def fnExactReadUvarintUptoRow : OpenClaim := { program := "ytnkggfhgmdbfpaa", sum := "9bf349816afef96ebc1339afd8549dc186dc63d8e4cc8d271940b547c85c34b3", func := "loop.example/g03007/laws.FnExactReadUvarint", spec := "fnExactReadUvarint", unfollowed := true, recurses := true, apart := false, narrowed := true }
def FnExactReadUvarintUptoSaid : Prop := fnExactReadUvarintUptoRow.holds Try.pinned (OpenSpec.upto fnExactReadUvarintSpec)

/-- 'laws.FnExactAppendBytes', WHERE WHAT IT READS IS OF BULK AT MOST 1048576: true; the input reads as it did. -/
def fnExactAppendBytesUptoRow : OpenClaim := { program := "ytnkggfhgmdbfpaa", sum := "9bf349816afef96ebc1339afd8549dc186dc63d8e4cc8d271940b547c85c34b3", func := "loop.example/g03007/laws.FnExactAppendBytes", spec := "fnExactAppendBytes", apart := false, narrowed := true }
def FnExactAppendBytesUptoSaid : Prop := fnExactAppendBytesUptoRow.holds Try.pinned (OpenSpec.upto fnExactAppendBytesSpec)

/-- 'laws.FnExactReadBytes', WHERE WHAT IT READS IS OF BULK AT MOST 1048576: true; the input reads as it did. -/
def fnExactReadBytesUptoRow : OpenClaim := { program := "ytnkggfhgmdbfpaa", sum := "9bf349816afef96ebc1339afd8549dc186dc63d8e4cc8d271940b547c85c34b3", func := "loop.example/g03007/laws.FnExactReadBytes", spec := "fnExactReadBytes", unfollowed := true, recurses := true, apart := false, narrowed := true }
def FnExactReadBytesUptoSaid : Prop := fnExactReadBytesUptoRow.holds Try.pinned (OpenSpec.upto fnExactReadBytesSpec)

/-- 'laws.FnExactEncodeInts', WHERE WHAT IT READS IS OF BULK AT MOST 1048576: true; the input reads as it did. -/
def fnExactEncodeIntsUptoRow : OpenClaim := { program := "ytnkggfhgmdbfpaa", sum := "9bf349816afef96ebc1339afd8549dc186dc63d8e4cc8d271940b547c85c34b3", func := "loop.example/g03007/laws.FnExactEncodeInts", spec := "fnExactEncodeInts", apart := false, narrowed := true }
def FnExactEncodeIntsUptoSaid : Prop := fnExactEncodeIntsUptoRow.holds Try.pinned (OpenSpec.upto fnExactEncodeIntsSpec)

/-- 'laws.FnExactDecodeInts', WHERE WHAT IT READS IS OF BULK AT MOST 1048576: true; the input reads as it did. -/
def fnExactDecodeIntsUptoRow : OpenClaim := { program := "ytnkggfhgmdbfpaa", sum := "9bf349816afef96ebc1339afd8549dc186dc63d8e4cc8d271940b547c85c34b3", func := "loop.example/g03007/laws.FnExactDecodeInts", spec := "fnExactDecodeInts", unfollowed := true, recurses := true, apart := false, narrowed := true }
def FnExactDecodeIntsUptoSaid : Prop := fnExactDecodeIntsUptoRow.holds Try.pinned (OpenSpec.upto fnExactDecodeIntsSpec)

/-- 'laws.FnExactBestOf', WHERE WHAT IT READS IS OF BULK AT MOST 1048576: true; the input reads as it did. -/
def fnExactBestOfUptoRow : OpenClaim := { program := "ytnkggfhgmdbfpaa", sum := "9bf349816afef96ebc1339afd8549dc186dc63d8e4cc8d271940b547c85c34b3", func := "loop.example/g03007/laws.FnExactBestOf", spec := "fnExactBestOf", unfollowed := true, recurses := true, apart := false, narrowed := true }
def FnExactBestOfUptoSaid : Prop := fnExactBestOfUptoRow.holds Try.pinned (OpenSpec.upto fnExactBestOfSpec)

/-- 'laws.FnExactRemember', WHERE WHAT IT READS IS OF BULK AT MOST 1048576: true; the input reads as it did. -/
def fnExactRememberUptoRow : OpenClaim := { program := "ytnkggfhgmdbfpaa", sum := "9bf349816afef96ebc1339afd8549dc186dc63d8e4cc8d271940b547c85c34b3", func := "loop.example/g03007/laws.FnExactRemember", spec := "fnExactRemember", unfollowed := true, recurses := true, apart := false, narrowed := true }
def FnExactRememberUptoSaid : Prop := fnExactRememberUptoRow.holds Try.pinned (OpenSpec.upto fnExactRememberSpec)

/-- 'laws.FnExactJoinDoubts', WHERE WHAT IT READS IS OF BULK AT MOST 1048576: true; the input reads as it did. -/
def fnExactJoinDoubtsUptoRow : OpenClaim := { program := "ytnkggfhgmdbfpaa", sum := "9bf349816afef96ebc1339afd8549dc186dc63d8e4cc8d271940b547c85c34b3", func := "loop.example/g03007/laws.FnExactJoinDoubts", spec := "fnExactJoinDoubts", unfollowed := true, recurses := true, apart := false, narrowed := true }
def FnExactJoinDoubtsUptoSaid : Prop := fnExactJoinDoubtsUptoRow.holds Try.pinned (OpenSpec.upto fnExactJoinDoubtsSpec)

/-- 'laws.FnExactWasted', WHERE WHAT IT READS IS OF BULK AT MOST 1048576: true; the input reads as it did. -/
def fnExactWastedUptoRow : OpenClaim := { program := "ytnkggfhgmdbfpaa", sum := "9bf349816afef96ebc1339afd8549dc186dc63d8e4cc8d271940b547c85c34b3", func := "loop.example/g03007/laws.FnExactWasted", spec := "fnExactWasted", unfollowed := true, recurses := true, apart := false, narrowed := true }
def FnExactWastedUptoSaid : Prop := fnExactWastedUptoRow.holds Try.pinned (OpenSpec.upto fnExactWastedSpec)

/-- 'laws.FnExactWinner', WHERE WHAT IT READS IS OF BULK AT MOST 1048576: true; the input reads as it did. -/
def fnExactWinnerUptoRow : OpenClaim := { program := "ytnkggfhgmdbfpaa", sum := "9bf349816afef96ebc1339afd8549dc186dc63d8e4cc8d271940b547c85c34b3", func := "loop.example/g03007/laws.FnExactWinner", spec := "fnExactWinner", unfollowed := true, recurses := true, apart := false, narrowed := true }
def FnExactWinnerUptoSaid : Prop := fnExactWinnerUptoRow.holds Try.pinned (OpenSpec.upto fnExactWinnerSpec)

/-- 'laws.FnExactHighestBids', WHERE WHAT IT READS IS OF BULK AT MOST 1048576: true; the input reads as it did. -/
def fnExactHighestBidsUptoRow : OpenClaim := { program := "ytnkggfhgmdbfpaa", sum := "9bf349816afef96ebc1339afd8549dc186dc63d8e4cc8d271940b547c85c34b3", func := "loop.example/g03007/laws.FnExactHighestBids", spec := "fnExactHighestBids", unfollowed := true, recurses := true, apart := false, narrowed := true }
def FnExactHighestBidsUptoSaid : Prop := fnExactHighestBidsUptoRow.holds Try.pinned (OpenSpec.upto fnExactHighestBidsSpec)

/-- 'laws.FnExactIsCalendar', WHERE WHAT IT READS IS OF BULK AT MOST 1048576: true; the input reads as it did. -/
def fnExactIsCalendarUptoRow : OpenClaim := { program := "ytnkggfhgmdbfpaa", sum := "9bf349816afef96ebc1339afd8549dc186dc63d8e4cc8d271940b547c85c34b3", func := "loop.example/g03007/laws.FnExactIsCalendar", spec := "fnExactIsCalendar", apart := false, narrowed := true }
def FnExactIsCalendarUptoSaid : Prop := fnExactIsCalendarUptoRow.holds Try.pinned (OpenSpec.upto fnExactIsCalendarSpec)

/-- 'laws.FnExactIsOpen', WHERE WHAT IT READS IS OF BULK AT MOST 1048576: true; the input reads as it did. -/
def fnExactIsOpenUptoRow : OpenClaim := { program := "ytnkggfhgmdbfpaa", sum := "9bf349816afef96ebc1339afd8549dc186dc63d8e4cc8d271940b547c85c34b3", func := "loop.example/g03007/laws.FnExactIsOpen", spec := "fnExactIsOpen", apart := false, narrowed := true }
def FnExactIsOpenUptoSaid : Prop := fnExactIsOpenUptoRow.holds Try.pinned (OpenSpec.upto fnExactIsOpenSpec)

/-- 'laws.FnExactNextOpen', WHERE WHAT IT READS IS OF BULK AT MOST 1048576: true; the input reads as it did. -/
def fnExactNextOpenUptoRow : OpenClaim := { program := "ytnkggfhgmdbfpaa", sum := "9bf349816afef96ebc1339afd8549dc186dc63d8e4cc8d271940b547c85c34b3", func := "loop.example/g03007/laws.FnExactNextOpen", spec := "fnExactNextOpen", unfollowed := true, recurses := true, apart := false, narrowed := true }
def FnExactNextOpenUptoSaid : Prop := fnExactNextOpenUptoRow.holds Try.pinned (OpenSpec.upto fnExactNextOpenSpec)

/-- 'laws.FnExactAddOpenDays', WHERE WHAT IT READS IS OF BULK AT MOST 1048576: true; the input reads as it did. -/
def fnExactAddOpenDaysUptoRow : OpenClaim := { program := "ytnkggfhgmdbfpaa", sum := "9bf349816afef96ebc1339afd8549dc186dc63d8e4cc8d271940b547c85c34b3", func := "loop.example/g03007/laws.FnExactAddOpenDays", spec := "fnExactAddOpenDays", unfollowed := true, recurses := true, apart := false, narrowed := true }
def FnExactAddOpenDaysUptoSaid : Prop := fnExactAddOpenDaysUptoRow.holds Try.pinned (OpenSpec.upto fnExactAddOpenDaysSpec)

/-- 'laws.FnExactOpenDaysBetween', WHERE WHAT IT READS IS OF BULK AT MOST 1048576: true; the input reads as it did. -/
def fnExactOpenDaysBetweenUptoRow : OpenClaim := { program := "ytnkggfhgmdbfpaa", sum := "9bf349816afef96ebc1339afd8549dc186dc63d8e4cc8d271940b547c85c34b3", func := "loop.example/g03007/laws.FnExactOpenDaysBetween", spec := "fnExactOpenDaysBetween", apart := false, narrowed := true }
def FnExactOpenDaysBetweenUptoSaid : Prop := fnExactOpenDaysBetweenUptoRow.holds Try.pinned (OpenSpec.upto fnExactOpenDaysBetweenSpec)

/-- 'laws.FnExactEqualHouses', WHERE WHAT IT READS IS OF BULK AT MOST 1048576: true; the input reads as it did. -/
def fnExactEqualHousesUptoRow : OpenClaim := { program := "ytnkggfhgmdbfpaa", sum := "9bf349816afef96ebc1339afd8549dc186dc63d8e4cc8d271940b547c85c34b3", func := "loop.example/g03007/laws.FnExactEqualHouses", spec := "fnExactEqualHouses", unfollowed := true, recurses := true, apart := false, narrowed := true }
def FnExactEqualHousesUptoSaid : Prop := fnExactEqualHousesUptoRow.holds Try.pinned (OpenSpec.upto fnExactEqualHousesSpec)

/-- 'laws.FnExactAreOwners', WHERE WHAT IT READS IS OF BULK AT MOST 1048576: true; the input reads as it did. -/
def fnExactAreOwnersUptoRow : OpenClaim := { program := "ytnkggfhgmdbfpaa", sum := "9bf349816afef96ebc1339afd8549dc186dc63d8e4cc8d271940b547c85c34b3", func := "loop.example/g03007/laws.FnExactAreOwners", spec := "fnExactAreOwners", unfollowed := true, recurses := true, apart := false, narrowed := true }
def FnExactAreOwnersUptoSaid : Prop := fnExactAreOwnersUptoRow.holds Try.pinned (OpenSpec.upto fnExactAreOwnersSpec)

/-- 'laws.FnExactOldestFind', WHERE WHAT IT READS IS OF BULK AT MOST 1048576: true; the input reads as it did. -/
def fnExactOldestFindUptoRow : OpenClaim := { program := "ytnkggfhgmdbfpaa", sum := "9bf349816afef96ebc1339afd8549dc186dc63d8e4cc8d271940b547c85c34b3", func := "loop.example/g03007/laws.FnExactOldestFind", spec := "fnExactOldestFind", unfollowed := true, recurses := true, apart := false, narrowed := true }
def FnExactOldestFindUptoSaid : Prop := fnExactOldestFindUptoRow.holds Try.pinned (OpenSpec.upto fnExactOldestFindSpec)

/-- 'laws.FnExactExampleSlots', WHERE WHAT IT READS IS OF BULK AT MOST 1048576: true; the input reads as it did. -/
def fnExactExampleSlotsUptoRow : OpenClaim := { program := "ytnkggfhgmdbfpaa", sum := "9bf349816afef96ebc1339afd8549dc186dc63d8e4cc8d271940b547c85c34b3", func := "loop.example/g03007/laws.FnExactExampleSlots", spec := "fnExactExampleSlots", apart := false, narrowed := true }
def FnExactExampleSlotsUptoSaid : Prop := fnExactExampleSlotsUptoRow.holds Try.pinned (OpenSpec.upto fnExactExampleSlotsSpec)

end Rows
end Go.Proofs.Ytnkggfhgmdbfpaa
