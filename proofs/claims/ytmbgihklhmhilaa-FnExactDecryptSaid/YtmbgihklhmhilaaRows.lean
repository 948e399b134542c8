/-
  No cell of these rows narrows 'for every input' (looked for: loops, veiled, ifaces, maps, wideKeys, modest, calm, conditions, laid).
  DERIVED. THE GIVEN ROWS OF THIS SEAT. 21 by the template 'for every input the law returns true; each argument reads behind the call as it read before'; 0 by the template 'total and deterministic' (their statements: YtmbgihklhmhilaaTotals.lean).
  GIVEN WITH THE SEED: the statements are not yours to turn. If you find one false, say at which input.
  Laid BY PROGRAM, IN A SANDBOX (cutbox-rows.mjs): the forced cells as the released guide's own fill.sh prints them over the translation d1df2d76c632fc2b… (all of the seat's roots in one cut). By AI agents, Wed Nov 11 2026. No macro, syntax, notation, axiom, sorry.
-/
import Derived.Test.YtmbgihklhmhilaaChecked
import GoSem.Claim
import GoSem.ClaimJoined
import GoSem.ClaimMapViews
import Derived.JoinedTies
import Derived.KernelRfl
namespace Go.Proofs.Ytmbgihklhmhilaa
/- THE CELL 'sum', in the pinned program and in every row, IS THE sha256 OF THE DUMP (.gsa) THAT YtmbgihklhmhilaaProg.lean LOADS. Nothing in Lean hashes anything: it is a label: what it is worth is what the hold of that sum in a sandbox is worth. -/
noncomputable def Try.pinned : Pinned := { name := "ytmbgihklhmhilaa", sum := "d1df2d76c632fc2bb669accdd78e40b573b4447bc753c8046abcedf3ae8ea261", checked := Try.checked }
namespace Rows
def none {H : Type} : Left H := { results := [], args := [] }

/-- 'laws.FnExactEncrypt': WHATEVER THE INPUT: true; the input reads as it did. -/
def fnExactEncryptSpec : ChangeSpec := { name := "fnExactEncrypt", fn := fun _ => fun
  | [d1, d2] => { results := [.lit (.bool true)], args := [d1, d2] }
  | _ => none }
def fnExactEncryptRow : OpenClaim := { program := "ytmbgihklhmhilaa", sum := "d1df2d76c632fc2bb669accdd78e40b573b4447bc753c8046abcedf3ae8ea261", func := "loop.example/g03007/laws.FnExactEncrypt", spec := "fnExactEncrypt", unfollowed := true, recurses := true, apart := false }
def FnExactEncryptSaid : Prop := fnExactEncryptRow.holds Try.pinned (OpenSpec.ofChange fnExactEncryptSpec)

/-- ITS FALSE NEIGHBOUR: 'it returns false'. Refute it at one input. -/
def fnExactEncryptWrong : ChangeSpec := { name := "fnExactEncrypt", fn := fun _ => fun
  | [d1, d2] => { results := [.lit (.bool false)], args := [d1, d2] }
  | _ => none }
def FnExactEncryptWrongFalsely : Prop := fnExactEncryptRow.holds Try.pinned (OpenSpec.ofChange fnExactEncryptWrong)

/-- 'laws.FnExactDecrypt': WHATEVER THE INPUT: true; the input reads as it did. -/
def fnExactDecryptSpec : ChangeSpec := { name := "fnExactDecrypt", fn := fun _ => fun
  | [d1, d2] => { results := [.lit (.bool true)], args := [d1, d2] }
  | _ => none }
def fnExactDecryptRow : OpenClaim := { program := "ytmbgihklhmhilaa", sum := "d1df2d76c632fc2bb669accdd78e40b573b4447bc753c8046abcedf3ae8ea261", func := "loop.example/g03007/laws.FnExactDecrypt", spec := "fnExactDecrypt", unfollowed := true, recurses := true, apart := false }
def FnExactDecryptSaid : Prop := fnExactDecryptRow.holds Try.pinned (OpenSpec.ofChange fnExactDecryptSpec)

/-- ITS FALSE NEIGHBOUR: 'it returns false'. Refute it at one input. -/
def fnExactDecryptWrong : ChangeSpec := { name := "fnExactDecrypt", fn := fun _ => fun
  | [d1, d2] => { results := [.lit (.bool false)], args := [d1, d2] }
  | _ => none }
def FnExactDecryptWrongFalsely : Prop := fnExactDecryptRow.holds Try.pinned (OpenSpec.ofChange fnExactDecryptWrong)

/-- 'laws.FnExactRemember': WHATEVER THE INPUT: true; the input reads as it did. -/
def fnExactRememberSpec : ChangeSpec := { name := "fnExactRemember", fn := fun _ => fun
  | [d1, d2, d3] => { results := [.lit (.bool true)], args := [d1, d2, d3] }
  | _ => none }
def fnExactRememberRow : OpenClaim := { program := "ytmbgihklhmhilaa", sum := "d1df2d76c632fc2bb669accdd78e40b573b4447bc753c8046abcedf3ae8ea261", func := "loop.example/g03007/laws.FnExactRemember", spec := "fnExactRemember", unfollowed := true, recurses := true, apart := false }
def FnExactRememberSaid : Prop := fnExactRememberRow.holds Try.pinned (OpenSpec.ofChange fnExactRememberSpec)

/-- ITS FALSE NEIGHBOUR: 'it returns false'. Refute it at one input. -/
def fnExactRememberWrong : ChangeSpec := { name := "fnExactRemember", fn := fun _ => fun
  | [d1, d2, d3] => { results := [.lit (.bool false)], args := [d1, d2, d3] }
  | _ => none }
def FnExactRememberWrongFalsely : Prop := fnExactRememberRow.holds Try.pinned (OpenSpec.ofChange fnExactRememberWrong)

/-- 'laws.FnExactJoinDoubts': WHATEVER THE INPUT: true; the input reads as it did. -/
def fnExactJoinDoubtsSpec : ChangeSpec := { name := "fnExactJoinDoubts", fn := fun _ => fun
  | [d1, d2] => { results := [.lit (.bool true)], args := [d1, d2] }
  | _ => none }
def fnExactJoinDoubtsRow : OpenClaim := { program := "ytmbgihklhmhilaa", sum := "d1df2d76c632fc2bb669accdd78e40b573b4447bc753c8046abcedf3ae8ea261", func := "loop.example/g03007/laws.FnExactJoinDoubts", spec := "fnExactJoinDoubts", unfollowed := true, recurses := true, apart := false }
def FnExactJoinDoubtsSaid : Prop := fnExactJoinDoubtsRow.holds Try.pinned (OpenSpec.ofChange fnExactJoinDoubtsSpec)

/-- ITS FALSE NEIGHBOUR: 'it returns false'. Refute it at one input. -/
def fnExactJoinDoubtsWrong : ChangeSpec := { name := "fnExactJoinDoubts", fn := fun _ => fun
  | [d1, d2] => { results := [.lit (.bool false)], args := [d1, d2] }
  | _ => none }
def FnExactJoinDoubtsWrongFalsely : Prop := fnExactJoinDoubtsRow.holds Try.pinned (OpenSpec.ofChange fnExactJoinDoubtsWrong)

/-- 'laws.FnExactPutAll': WHATEVER THE INPUT: true; the input reads as it did. -/
def fnExactPutAllSpec : ChangeSpec := { name := "fnExactPutAll", fn := fun _ => fun
  | [d1, d2] => { results := [.lit (.bool true)], args := [d1, d2] }
  | _ => none }
def fnExactPutAllRow : OpenClaim := { program := "ytmbgihklhmhilaa", sum := "d1df2d76c632fc2bb669accdd78e40b573b4447bc753c8046abcedf3ae8ea261", func := "loop.example/g03007/laws.FnExactPutAll", spec := "fnExactPutAll", unfollowed := true, recurses := true, apart := false }
def FnExactPutAllSaid : Prop := fnExactPutAllRow.holds Try.pinned (OpenSpec.ofChange fnExactPutAllSpec)

/-- ITS FALSE NEIGHBOUR: 'it returns false'. Refute it at one input. -/
def fnExactPutAllWrong : ChangeSpec := { name := "fnExactPutAll", fn := fun _ => fun
  | [d1, d2] => { results := [.lit (.bool false)], args := [d1, d2] }
  | _ => none }
def FnExactPutAllWrongFalsely : Prop := fnExactPutAllRow.holds Try.pinned (OpenSpec.ofChange fnExactPutAllWrong)

/-- 'laws.FnExactCanHold': WHATEVER THE INPUT: true; the input reads as it did. -/
def fnExactCanHoldSpec : ChangeSpec := { name := "fnExactCanHold", fn := fun _ => fun
  | [d1, d2] => { results := [.lit (.bool true)], args := [d1, d2] }
  | _ => none }
def fnExactCanHoldRow : OpenClaim := { program := "ytmbgihklhmhilaa", sum := "d1df2d76c632fc2bb669accdd78e40b573b4447bc753c8046abcedf3ae8ea261", func := "loop.example/g03007/laws.FnExactCanHold", spec := "fnExactCanHold", unfollowed := true, recurses := true, apart := false }
def FnExactCanHoldSaid : Prop := fnExactCanHoldRow.holds Try.pinned (OpenSpec.ofChange fnExactCanHoldSpec)

/-- ITS FALSE NEIGHBOUR: 'it returns false'. Refute it at one input. -/
def fnExactCanHoldWrong : ChangeSpec := { name := "fnExactCanHold", fn := fun _ => fun
  | [d1, d2] => { results := [.lit (.bool false)], args := [d1, d2] }
  | _ => none }
def FnExactCanHoldWrongFalsely : Prop := fnExactCanHoldRow.holds Try.pinned (OpenSpec.ofChange fnExactCanHoldWrong)

/-- 'laws.FnExactTighten': WHATEVER THE INPUT: true; the input reads as it did. -/
def fnExactTightenSpec : ChangeSpec := { name := "fnExactTighten", fn := fun _ => fun
  | [d1, d2] => { results := [.lit (.bool true)], args := [d1, d2] }
  | _ => none }
def fnExactTightenRow : OpenClaim := { program := "ytmbgihklhmhilaa", sum := "d1df2d76c632fc2bb669accdd78e40b573b4447bc753c8046abcedf3ae8ea261", func := "loop.example/g03007/laws.FnExactTighten", spec := "fnExactTighten", unfollowed := true, recurses := true, apart := false }
def FnExactTightenSaid : Prop := fnExactTightenRow.holds Try.pinned (OpenSpec.ofChange fnExactTightenSpec)

/-- ITS FALSE NEIGHBOUR: 'it returns false'. Refute it at one input. -/
def fnExactTightenWrong : ChangeSpec := { name := "fnExactTighten", fn := fun _ => fun
  | [d1, d2] => { results := [.lit (.bool false)], args := [d1, d2] }
  | _ => none }
def FnExactTightenWrongFalsely : Prop := fnExactTightenRow.holds Try.pinned (OpenSpec.ofChange fnExactTightenWrong)

/-- 'laws.FnExactInHouse': WHATEVER THE INPUT: true; the input reads as it did. -/
def fnExactInHouseSpec : ChangeSpec := { name := "fnExactInHouse", fn := fun _ => fun
  | [d1, d2] => { results := [.lit (.bool true)], args := [d1, d2] }
  | _ => none }
def fnExactInHouseRow : OpenClaim := { program := "ytmbgihklhmhilaa", sum := "d1df2d76c632fc2bb669accdd78e40b573b4447bc753c8046abcedf3ae8ea261", func := "loop.example/g03007/laws.FnExactInHouse", spec := "fnExactInHouse", unfollowed := true, recurses := true, apart := false }
def FnExactInHouseSaid : Prop := fnExactInHouseRow.holds Try.pinned (OpenSpec.ofChange fnExactInHouseSpec)

/-- ITS FALSE NEIGHBOUR: 'it returns false'. Refute it at one input. -/
def fnExactInHouseWrong : ChangeSpec := { name := "fnExactInHouse", fn := fun _ => fun
  | [d1, d2] => { results := [.lit (.bool false)], args := [d1, d2] }
  | _ => none }
def FnExactInHouseWrongFalsely : Prop := fnExactInHouseRow.holds Try.pinned (OpenSpec.ofChange fnExactInHouseWrong)

/-- 'laws.FnExactHintsOf': WHATEVER THE INPUT: true; the input reads as it did. -/
def fnExactHintsOfSpec : ChangeSpec := { name := "fnExactHintsOf", fn := fun _ => fun
  | [d1, d2] => { results := [.lit (.bool true)], args := [d1, d2] }
  | _ => none }
def fnExactHintsOfRow : OpenClaim := { program := "ytmbgihklhmhilaa", sum := "d1df2d76c632fc2bb669accdd78e40b573b4447bc753c8046abcedf3ae8ea261", func := "loop.example/g03007/laws.FnExactHintsOf", spec := "fnExactHintsOf", unfollowed := true, recurses := true, apart := false }
def FnExactHintsOfSaid : Prop := fnExactHintsOfRow.holds Try.pinned (OpenSpec.ofChange fnExactHintsOfSpec)

/-- ITS FALSE NEIGHBOUR: 'it returns false'. Refute it at one input. -/
def fnExactHintsOfWrong : ChangeSpec := { name := "fnExactHintsOf", fn := fun _ => fun
  | [d1, d2] => { results := [.lit (.bool false)], args := [d1, d2] }
  | _ => none }
def FnExactHintsOfWrongFalsely : Prop := fnExactHintsOfRow.holds Try.pinned (OpenSpec.ofChange fnExactHintsOfWrong)

/-- 'laws.FnExactHintsFor': WHATEVER THE INPUT: true; the input reads as it did. -/
def fnExactHintsForSpec : ChangeSpec := { name := "fnExactHintsFor", fn := fun _ => fun
  | [d1, d2] => { results := [.lit (.bool true)], args := [d1, d2] }
  | _ => none }
def fnExactHintsForRow : OpenClaim := { program := "ytmbgihklhmhilaa", sum := "d1df2d76c632fc2bb669accdd78e40b573b4447bc753c8046abcedf3ae8ea261", func := "loop.example/g03007/laws.FnExactHintsFor", spec := "fnExactHintsFor", unfollowed := true, recurses := true, apart := false }
def FnExactHintsForSaid : Prop := fnExactHintsForRow.holds Try.pinned (OpenSpec.ofChange fnExactHintsForSpec)

/-- ITS FALSE NEIGHBOUR: 'it returns false'. Refute it at one input. -/
def fnExactHintsForWrong : ChangeSpec := { name := "fnExactHintsFor", fn := fun _ => fun
  | [d1, d2] => { results := [.lit (.bool false)], args := [d1, d2] }
  | _ => none }
def FnExactHintsForWrongFalsely : Prop := fnExactHintsForRow.holds Try.pinned (OpenSpec.ofChange fnExactHintsForWrong)

/-- 'laws.FnExactMayHave': WHATEVER THE INPUT: true; the input reads as it did. -/
def fnExactMayHaveSpec : ChangeSpec := { name := "fnExactMayHave", fn := fun _ => fun
  | [d1, d2, d3] => { results := [.lit (.bool true)], args := [d1, d2, d3] }
  | _ => none }
def fnExactMayHaveRow : OpenClaim := { program := "ytmbgihklhmhilaa", sum := "d1df2d76c632fc2bb669accdd78e40b573b4447bc753c8046abcedf3ae8ea261", func := "loop.example/g03007/laws.FnExactMayHave", spec := "fnExactMayHave", unfollowed := true, recurses := true, apart := false }
def FnExactMayHaveSaid : Prop := fnExactMayHaveRow.holds Try.pinned (OpenSpec.ofChange fnExactMayHaveSpec)

/-- ITS FALSE NEIGHBOUR: 'it returns false'. Refute it at one input. -/
def fnExactMayHaveWrong : ChangeSpec := { name := "fnExactMayHave", fn := fun _ => fun
  | [d1, d2, d3] => { results := [.lit (.bool false)], args := [d1, d2, d3] }
  | _ => none }
def FnExactMayHaveWrongFalsely : Prop := fnExactMayHaveRow.holds Try.pinned (OpenSpec.ofChange fnExactMayHaveWrong)

/-- 'laws.FnExactAskHouses': WHATEVER THE INPUT: true; the input reads as it did. -/
def fnExactAskHousesSpec : ChangeSpec := { name := "fnExactAskHouses", fn := fun _ => fun
  | [d1, d2, d3] => { results := [.lit (.bool true)], args := [d1, d2, d3] }
  | _ => none }
def fnExactAskHousesRow : OpenClaim := { program := "ytmbgihklhmhilaa", sum := "d1df2d76c632fc2bb669accdd78e40b573b4447bc753c8046abcedf3ae8ea261", func := "loop.example/g03007/laws.FnExactAskHouses", spec := "fnExactAskHouses", unfollowed := true, recurses := true, apart := false }
def FnExactAskHousesSaid : Prop := fnExactAskHousesRow.holds Try.pinned (OpenSpec.ofChange fnExactAskHousesSpec)

/-- ITS FALSE NEIGHBOUR: 'it returns false'. Refute it at one input. -/
def fnExactAskHousesWrong : ChangeSpec := { name := "fnExactAskHouses", fn := fun _ => fun
  | [d1, d2, d3] => { results := [.lit (.bool false)], args := [d1, d2, d3] }
  | _ => none }
def FnExactAskHousesWrongFalsely : Prop := fnExactAskHousesRow.holds Try.pinned (OpenSpec.ofChange fnExactAskHousesWrong)

/-- 'laws.FnExactAreInners': WHATEVER THE INPUT: true; the input reads as it did. -/
def fnExactAreInnersSpec : ChangeSpec := { name := "fnExactAreInners", fn := fun _ => fun
  | [d] => { results := [.lit (.bool true)], args := [d] }
  | _ => none }
def fnExactAreInnersRow : OpenClaim := { program := "ytmbgihklhmhilaa", sum := "d1df2d76c632fc2bb669accdd78e40b573b4447bc753c8046abcedf3ae8ea261", func := "loop.example/g03007/laws.FnExactAreInners", spec := "fnExactAreInners", unfollowed := true, recurses := true, apart := false }
def FnExactAreInnersSaid : Prop := fnExactAreInnersRow.holds Try.pinned (OpenSpec.ofChange fnExactAreInnersSpec)

/-- ITS FALSE NEIGHBOUR: 'it returns false'. Refute it at one input. -/
def fnExactAreInnersWrong : ChangeSpec := { name := "fnExactAreInners", fn := fun _ => fun
  | [d] => { results := [.lit (.bool false)], args := [d] }
  | _ => none }
def FnExactAreInnersWrongFalsely : Prop := fnExactAreInnersRow.holds Try.pinned (OpenSpec.ofChange fnExactAreInnersWrong)

/-- 'laws.FnExactAllIn': WHATEVER THE INPUT: true; the input reads as it did. -/
def fnExactAllInSpec : ChangeSpec := { name := "fnExactAllIn", fn := fun _ => fun
  | [d1, d2] => { results := [.lit (.bool true)], args := [d1, d2] }
  | _ => none }
def fnExactAllInRow : OpenClaim := { program := "ytmbgihklhmhilaa", sum := "d1df2d76c632fc2bb669accdd78e40b573b4447bc753c8046abcedf3ae8ea261", func := "loop.example/g03007/laws.FnExactAllIn", spec := "fnExactAllIn", unfollowed := true, recurses := true, apart := false }
def FnExactAllInSaid : Prop := fnExactAllInRow.holds Try.pinned (OpenSpec.ofChange fnExactAllInSpec)

/-- ITS FALSE NEIGHBOUR: 'it returns false'. Refute it at one input. -/
def fnExactAllInWrong : ChangeSpec := { name := "fnExactAllIn", fn := fun _ => fun
  | [d1, d2] => { results := [.lit (.bool false)], args := [d1, d2] }
  | _ => none }
def FnExactAllInWrongFalsely : Prop := fnExactAllInRow.holds Try.pinned (OpenSpec.ofChange fnExactAllInWrong)

/-- 'laws.FnExactPutIn': WHATEVER THE INPUT: true; the input reads as it did. -/
def fnExactPutInSpec : ChangeSpec := { name := "fnExactPutIn", fn := fun _ => fun
  | [d1, d2, d3] => { results := [.lit (.bool true)], args := [d1, d2, d3] }
  | _ => none }
def fnExactPutInRow : OpenClaim := { program := "ytmbgihklhmhilaa", sum := "d1df2d76c632fc2bb669accdd78e40b573b4447bc753c8046abcedf3ae8ea261", func := "loop.example/g03007/laws.FnExactPutIn", spec := "fnExactPutIn", unfollowed := true, recurses := true, apart := false }
def FnExactPutInSaid : Prop := fnExactPutInRow.holds Try.pinned (OpenSpec.ofChange fnExactPutInSpec)

/-- ITS FALSE NEIGHBOUR: 'it returns false'. Refute it at one input. -/
def fnExactPutInWrong : ChangeSpec := { name := "fnExactPutIn", fn := fun _ => fun
  | [d1, d2, d3] => { results := [.lit (.bool false)], args := [d1, d2, d3] }
  | _ => none }
def FnExactPutInWrongFalsely : Prop := fnExactPutInRow.holds Try.pinned (OpenSpec.ofChange fnExactPutInWrong)

/-- 'laws.FnExactTakeFrom': WHATEVER THE INPUT: true; the input reads as it did. -/
def fnExactTakeFromSpec : ChangeSpec := { name := "fnExactTakeFrom", fn := fun _ => fun
  | [d1, d2] => { results := [.lit (.bool true)], args := [d1, d2] }
  | _ => none }
def fnExactTakeFromRow : OpenClaim := { program := "ytmbgihklhmhilaa", sum := "d1df2d76c632fc2bb669accdd78e40b573b4447bc753c8046abcedf3ae8ea261", func := "loop.example/g03007/laws.FnExactTakeFrom", spec := "fnExactTakeFrom", unfollowed := true, recurses := true, apart := false }
def FnExactTakeFromSaid : Prop := fnExactTakeFromRow.holds Try.pinned (OpenSpec.ofChange fnExactTakeFromSpec)

/-- ITS FALSE NEIGHBOUR: 'it returns false'. Refute it at one input. -/
def fnExactTakeFromWrong : ChangeSpec := { name := "fnExactTakeFrom", fn := fun _ => fun
  | [d1, d2] => { results := [.lit (.bool false)], args := [d1, d2] }
  | _ => none }
def FnExactTakeFromWrongFalsely : Prop := fnExactTakeFromRow.holds Try.pinned (OpenSpec.ofChange fnExactTakeFromWrong)

/-- 'laws.FnExactNextTicket': WHATEVER THE INPUT: true; the input reads as it did. -/
def fnExactNextTicketSpec : ChangeSpec := { name := "fnExactNextTicket", fn := fun _ => fun
  | [d1, d2] => { results := [.lit (.bool true)], args := [d1, d2] }
  | _ => none }
def fnExactNextTicketRow : OpenClaim := { program := "ytmbgihklhmhilaa", sum := "d1df2d76c632fc2bb669accdd78e40b573b4447bc753c8046abcedf3ae8ea261", func := "loop.example/g03007/laws.FnExactNextTicket", spec := "fnExactNextTicket", unfollowed := true, recurses := true, apart := false }
def FnExactNextTicketSaid : Prop := fnExactNextTicketRow.holds Try.pinned (OpenSpec.ofChange fnExactNextTicketSpec)

/-- ITS FALSE NEIGHBOUR: 'it returns false'. Refute it at one input. -/
def fnExactNextTicketWrong : ChangeSpec := { name := "fnExactNextTicket", fn := fun _ => fun
  | [d1, d2] => { results := [.lit (.bool false)], args := [d1, d2] }
  | _ => none }
def FnExactNextTicketWrongFalsely : Prop := fnExactNextTicketRow.holds Try.pinned (OpenSpec.ofChange fnExactNextTicketWrong)

/-- 'laws.FnExactCallTicket': WHATEVER THE INPUT: true; the input reads as it did. -/
def fnExactCallTicketSpec : ChangeSpec := { name := "fnExactCallTicket", fn := fun _ => fun
  | [d1, d2] => { results := [.lit (.bool true)], args := [d1, d2] }
  | _ => none }
def fnExactCallTicketRow : OpenClaim := { program := "ytmbgihklhmhilaa", sum := "d1df2d76c632fc2bb669accdd78e40b573b4447bc753c8046abcedf3ae8ea261", func := "loop.example/g03007/laws.FnExactCallTicket", spec := "fnExactCallTicket", unfollowed := true, recurses := true, apart := false }
def FnExactCallTicketSaid : Prop := fnExactCallTicketRow.holds Try.pinned (OpenSpec.ofChange fnExactCallTicketSpec)

/-- ITS FALSE NEIGHBOUR: 'it returns false'. Refute it at one input. -/
def fnExactCallTicketWrong : ChangeSpec := { name := "fnExactCallTicket", fn := fun _ => fun
  | [d1, d2] => { results := [.lit (.bool false)], args := [d1, d2] }
  | _ => none }
def FnExactCallTicketWrongFalsely : Prop := fnExactCallTicketRow.holds Try.pinned (OpenSpec.ofChange fnExactCallTicketWrong)

/-- 'laws.FnExactCallAll': WHATEVER THE INPUT: true; the input reads as it did. -/
def fnExactCallAllSpec : ChangeSpec := { name := "fnExactCallAll", fn := fun _ => fun
  | [d1, d2, d3] => { results := [.lit (.bool true)], args := [d1, d2, d3] }
  | _ => none }
def fnExactCallAllRow : OpenClaim := { program := "ytmbgihklhmhilaa", sum := "d1df2d76c632fc2bb669accdd78e40b573b4447bc753c8046abcedf3ae8ea261", func := "loop.example/g03007/laws.FnExactCallAll", spec := "fnExactCallAll", unfollowed := true, recurses := true, apart := false }
def FnExactCallAllSaid : Prop := fnExactCallAllRow.holds Try.pinned (OpenSpec.ofChange fnExactCallAllSpec)

/-- ITS FALSE NEIGHBOUR: 'it returns false'. Refute it at one input. -/
def fnExactCallAllWrong : ChangeSpec := { name := "fnExactCallAll", fn := fun _ => fun
  | [d1, d2, d3] => { results := [.lit (.bool false)], args := [d1, d2, d3] }
  | _ => none }
def FnExactCallAllWrongFalsely : Prop := fnExactCallAllRow.holds Try.pinned (OpenSpec.ofChange fnExactCallAllWrong)

/-- 'laws.FnExactAccountsOf': WHATEVER THE INPUT: true; the input reads as it did. -/
def fnExactAccountsOfSpec : ChangeSpec := { name := "fnExactAccountsOf", fn := fun _ => fun
  | [d] => { results := [.lit (.bool true)], args := [d] }
  | _ => none }
def fnExactAccountsOfRow : OpenClaim := { program := "ytmbgihklhmhilaa", sum := "d1df2d76c632fc2bb669accdd78e40b573b4447bc753c8046abcedf3ae8ea261", func := "loop.example/g03007/laws.FnExactAccountsOf", spec := "fnExactAccountsOf", recurses := true, apart := false }
def FnExactAccountsOfSaid : Prop := fnExactAccountsOfRow.holds Try.pinned (OpenSpec.ofChange fnExactAccountsOfSpec)

/-- ITS FALSE NEIGHBOUR: 'it returns false'. Refute it at one input. -/
def fnExactAccountsOfWrong : ChangeSpec := { name := "fnExactAccountsOf", fn := fun _ => fun
  | [d] => { results := [.lit (.bool false)], args := [d] }
  | _ => none }
def FnExactAccountsOfWrongFalsely : Prop := fnExactAccountsOfRow.holds Try.pinned (OpenSpec.ofChange fnExactAccountsOfWrong)

/-- 'laws.FnExactBusiestPlace': WHATEVER THE INPUT: true; the input reads as it did. -/
def fnExactBusiestPlaceSpec : ChangeSpec := { name := "fnExactBusiestPlace", fn := fun _ => fun
  | [d] => { results := [.lit (.bool true)], args := [d] }
  | _ => none }
def fnExactBusiestPlaceRow : OpenClaim := { program := "ytmbgihklhmhilaa", sum := "d1df2d76c632fc2bb669accdd78e40b573b4447bc753c8046abcedf3ae8ea261", func := "loop.example/g03007/laws.FnExactBusiestPlace", spec := "fnExactBusiestPlace", unfollowed := true, recurses := true, apart := false }
def FnExactBusiestPlaceSaid : Prop := fnExactBusiestPlaceRow.holds Try.pinned (OpenSpec.ofChange fnExactBusiestPlaceSpec)

/-- ITS FALSE NEIGHBOUR: 'it returns false'. Refute it at one input. -/
def fnExactBusiestPlaceWrong : ChangeSpec := { name := "fnExactBusiestPlace", fn := fun _ => fun
  | [d] => { results := [.lit (.bool false)], args := [d] }
  | _ => none }
def FnExactBusiestPlaceWrongFalsely : Prop := fnExactBusiestPlaceRow.holds Try.pinned (OpenSpec.ofChange fnExactBusiestPlaceWrong)

/- THE SECOND FORM. 'bulk': how many values and letters a reading holds, each counted each time it is reached (what is shared counts as often as it is met; a slice's spare places count too). A statement '..UptoSaid' is the law's where the arguments, and the package variables that the reading takes, are together of bulk at most 1048576: NARROWER than '..Said'. Prove '..Said' where nothing that the law and all that it calls make is longer than what came in: it says more and counts as full. Else prove '..UptoSaid'. A law counts once. -/
mutual
def uptoBulk {H : Type} : DataW H → Nat
  | .lit (.string bytes) => bytes.length + 1
  | .lit _ => 1
  | .nil => 1
  | .ptr d => uptoBulk d + 1
  | .slice elems spare => uptoBulkAll elems + uptoBulkAll spare + 1
  | .agg parts => uptoBulkAll parts + 1
  | .iface _ d => uptoBulk d + 1
  | .map entries => uptoBulkEntries entries + 1
  | .held _ => 1
def uptoBulkAll {H : Type} : List (DataW H) → Nat
  | [] => 0
  | d :: r => uptoBulk d + uptoBulkAll r
def uptoBulkEntries {H : Type} : List (Lit × DataW H) → Nat
  | [] => 0
  | x :: r => uptoBulkEntry x + uptoBulkEntries r
def uptoBulkEntry {H : Type} : Lit × DataW H → Nat
  | (.string bytes, d) => bytes.length + uptoBulk d + 1
  | (_, d) => uptoBulk d + 1
 end
def uptoSmall : (H : Type) → List (DataW H) → Bool := fun _ ds => decide (uptoBulkAll ds ≤ 1048576)
def OpenSpec.upto (s : _root_.Go.ChangeSpec) : _root_.Go.OpenSpec := { _root_.Go.OpenSpec.ofChange s with cond := some uptoSmall }

/-- 'laws.FnExactEncrypt', WHERE WHAT IT READS IS OF BULK AT MOST 1048576: true; the input reads as it did. -/
def fnExactEncryptUptoRow : OpenClaim := { program := "ytmbgihklhmhilaa", sum := "d1df2d76c632fc2bb669accdd78e40b573b4447bc753c8046abcedf3ae8ea261", func := "loop.example/g03007/laws.FnExactEncrypt", spec := "fnExactEncrypt", unfollowed := true, recurses := true, apart := false, narrowed := true }
def FnExactEncryptUptoSaid : Prop := fnExactEncryptUptoRow.holds Try.pinned (OpenSpec.upto fnExactEncryptSpec)

/-- 'laws.FnExactDecrypt', WHERE WHAT IT READS IS OF BULK AT MOST 1048576: true; the input reads as it did. -/
def fnExactDecryptUptoRow : OpenClaim := { program := "ytmbgihklhmhilaa", sum := "d1df2d76c632fc2bb669accdd78e40b573b4447bc753c8046abcedf3ae8ea261", func := "loop.example/g03007/laws.FnExactDecrypt", spec := "fnExactDecrypt", unfollowed := true, recurses := true, apart := false, narrowed := true }
def FnExactDecryptUptoSaid : Prop := fnExactDecryptUptoRow.holds Try.pinned (OpenSpec.upto fnExactDecryptSpec)

/-- 'laws.FnExactRemember', WHERE WHAT IT READS IS OF BULK AT MOST 1048576: true; the input reads as it did. -/
def fnExactRememberUptoRow : OpenClaim := { program := "ytmbgihklhmhilaa", sum := "d1df2d76c632fc2bb669accdd78e40b573b4447bc753c8046abcedf3ae8ea261", func := "loop.example/g03007/laws.FnExactRemember", spec := "fnExactRemember", unfollowed := true, recurses := true, apart := false, narrowed := true }
def FnExactRememberUptoSaid : Prop := fnExactRememberUptoRow.holds Try.pinned (OpenSpec.upto fnExactRememberSpec)

/-- 'laws.FnExactJoinDoubts', WHERE WHAT IT READS IS OF BULK AT MOST 1048576: true; the input reads as it did. -/
def fnExactJoinDoubtsUptoRow : OpenClaim := { program := "ytmbgihklhmhilaa", sum := "d1df2d76c632fc2bb669accdd78e40b573b4447bc753c8046abcedf3ae8ea261", func := "loop.example/g03007/laws.FnExactJoinDoubts", spec := "fnExactJoinDoubts", unfollowed := true, recurses := true, apart := false, narrowed := true }
def FnExactJoinDoubtsUptoSaid : Prop := fnExactJoinDoubtsUptoRow.holds Try.pinned (OpenSpec.upto fnExactJoinDoubtsSpec)

/-- 'laws.FnExactPutAll', WHERE WHAT IT READS IS OF BULK AT MOST 1048576: true; the input reads as it did. -/
def fnExactPutAllUptoRow : OpenClaim := { program := "ytmbgihklhmhilaa", sum := "d1df2d76c632fc2bb669accdd78e40b573b4447bc753c8046abcedf3ae8ea261", func := "loop.example/g03007/laws.FnExactPutAll", spec := "fnExactPutAll", unfollowed := true, recurses := true, apart := false, narrowed := true }
def FnExactPutAllUptoSaid : Prop := fnExactPutAllUptoRow.holds Try.pinned (OpenSpec.upto fnExactPutAllSpec)

/-- 'laws.FnExactCanHold', WHERE WHAT IT READS IS OF BULK AT MOST 1048576: true; the input reads as it did. -/
def fnExactCanHoldUptoRow : OpenClaim := { program := "ytmbgihklhmhilaa", sum := "d1df2d76c632fc2bb669accdd78e40b573b4447bc753c8046abcedf3ae8ea261", func := "loop.example/g03007/laws.FnExactCanHold", spec := "fnExactCanHold", unfollowed := true, recurses := true, apart := false, narrowed := true }
def FnExactCanHoldUptoSaid : Prop := fnExactCanHoldUptoRow.holds Try.pinned (OpenSpec.upto fnExactCanHoldSpec)

/-- 'laws.FnExactTighten', WHERE WHAT IT READS IS OF BULK AT MOST 1048576: true; the input reads as it did. -/
def fnExactTightenUptoRow : OpenClaim := { program := "ytmbgihklhmhilaa", sum := "d1df2d76c632fc2bb669accdd78e40b573b4447bc753c8046abcedf3ae8ea261", func := "loop.example/g03007/laws.FnExactTighten", spec := "fnExactTighten", unfollowed := true, recurses := true, apart := false, narrowed := true }
def FnExactTightenUptoSaid : Prop := fnExactTightenUptoRow.holds Try.pinned (OpenSpec.upto fnExactTightenSpec)

/-- 'laws.FnExactInHouse', WHERE WHAT IT READS IS OF BULK AT MOST 1048576: true; the input reads as it did. -/
def fnExactInHouseUptoRow : OpenClaim := { program := "ytmbgihklhmhilaa", sum := "d1df2d76c632fc2bb669accdd78e40b573b4447bc753c8046abcedf3ae8ea261", func := "loop.example/g03007/laws.FnExactInHouse", spec := "fnExactInHouse", unfollowed := true, recurses := true, apart := false, narrowed := true }
def FnExactInHouseUptoSaid : Prop := fnExactInHouseUptoRow.holds Try.pinned (OpenSpec.upto fnExactInHouseSpec)

/-- 'laws.FnExactHintsOf', WHERE WHAT IT READS IS OF BULK AT MOST 1048576: true; the input reads as it did. -/
def fnExactHintsOfUptoRow : OpenClaim := { program := "ytmbgihklhmhilaa", sum := "d1df2d76c632fc2bb669accdd78e40b573b4447bc753c8046abcedf3ae8ea261", func := "loop.example/g03007/laws.FnExactHintsOf", spec := "fnExactHintsOf", unfollowed := true, recurses := true, apart := false, narrowed := true }
def FnExactHintsOfUptoSaid : Prop := fnExactHintsOfUptoRow.holds Try.pinned (OpenSpec.upto fnExactHintsOfSpec)

/-- 'laws.FnExactHintsFor', WHERE WHAT IT READS IS OF BULK AT MOST 1048576: true; the input reads as it did. -/
def fnExactHintsForUptoRow : OpenClaim := { program := "ytmbgihklhmhilaa", sum := "d1df2d76c632fc2bb669accdd78e40b573b4447bc753c8046abcedf3ae8ea261", func := "loop.example/g03007/laws.FnExactHintsFor", spec := "fnExactHintsFor", unfollowed := true, recurses := true, apart := false, narrowed := true }
def FnExactHintsForUptoSaid : Prop := fnExactHintsForUptoRow.holds Try.pinned (OpenSpec.upto fnExactHintsForSpec)

/-- 'laws.FnExactMayHave', WHERE WHAT IT READS IS OF BULK AT MOST 1048576: true; the input reads as it did. -/
def fnExactMayHaveUptoRow : OpenClaim := { program := "ytmbgihklhmhilaa", sum := "d1df2d76c632fc2bb669accdd78e40b573b4447bc753c8046abcedf3ae8ea261", func := "loop.example/g03007/laws.FnExactMayHave", spec := "fnExactMayHave", unfollowed := true, recurses := true, apart := false, narrowed := true }
def FnExactMayHaveUptoSaid : Prop := fnExactMayHaveUptoRow.holds Try.pinned (OpenSpec.upto fnExactMayHaveSpec)

/-- 'laws.FnExactAskHouses', WHERE WHAT IT READS IS OF BULK AT MOST 1048576: true; the input reads as it did. -/
def fnExactAskHousesUptoRow : OpenClaim := { program := "ytmbgihklhmhilaa", sum := "d1df2d76c632fc2bb669accdd78e40b573b4447bc753c8046abcedf3ae8ea261", func := "loop.example/g03007/laws.FnExactAskHouses", spec := "fnExactAskHouses", unfollowed := true, recurses := true, apart := false, narrowed := true }
def FnExactAskHousesUptoSaid : Prop := fnExactAskHousesUptoRow.holds Try.pinned (OpenSpec.upto fnExactAskHousesSpec)

/-- 'laws.FnExactAreInners', WHERE WHAT IT READS IS OF BULK AT MOST 1048576: true; the input reads as it did. -/
def fnExactAreInnersUptoRow : OpenClaim := { program := "ytmbgihklhmhilaa", sum := "d1df2d76c632fc2bb669accdd78e40b573b4447bc753c8046abcedf3ae8ea261", func := "loop.example/g03007/laws.FnExactAreInners", spec := "fnExactAreInners", unfollowed := true, recurses := true, apart := false, narrowed := true }
def FnExactAreInnersUptoSaid : Prop := fnExactAreInnersUptoRow.holds Try.pinned (OpenSpec.upto fnExactAreInnersSpec)

/-- 'laws.FnExactAllIn', WHERE WHAT IT READS IS OF BULK AT MOST 1048576: true; the input reads as it did. -/
def fnExactAllInUptoRow : OpenClaim := { program := "ytmbgihklhmhilaa", sum := "d1df2d76c632fc2bb669accdd78e40b573b4447bc753c8046abcedf3ae8ea261", func := "loop.example/g03007/laws.FnExactAllIn", spec := "fnExactAllIn", unfollowed := true, recurses := true, apart := false, narrowed := true }
def FnExactAllInUptoSaid : Prop := fnExactAllInUptoRow.holds Try.pinned (OpenSpec.upto fnExactAllInSpec)

/-- 'laws.FnExactPutIn', WHERE WHAT IT READS IS OF BULK AT MOST 1048576: true; the input reads as it did. -/
def fnExactPutInUptoRow : OpenClaim := { program := "ytmbgihklhmhilaa", sum := "d1df2d76c632fc2bb669accdd78e40b573b4447bc753c8046abcedf3ae8ea261", func := "loop.example/g03007/laws.FnExactPutIn", spec := "fnExactPutIn", unfollowed := true, recurses := true, apart := false, narrowed := true }
def FnExactPutInUptoSaid : Prop := fnExactPutInUptoRow.holds Try.pinned (OpenSpec.upto fnExactPutInSpec)

/-- 'laws.FnExactTakeFrom', WHERE WHAT IT READS IS OF BULK AT MOST 1048576: true; the input reads as it did. -/
def fnExactTakeFromUptoRow : OpenClaim := { program := "ytmbgihklhmhilaa", sum := "d1df2d76c632fc2bb669accdd78e40b573b4447bc753c8046abcedf3ae8ea261", func := "loop.example/g03007/laws.FnExactTakeFrom", spec := "fnExactTakeFrom", unfollowed := true, recurses := true, apart := false, narrowed := true }
def FnExactTakeFromUptoSaid : Prop := fnExactTakeFromUptoRow.holds Try.pinned (OpenSpec.upto fnExactTakeFromSpec)

/-- 'laws.FnExactNextTicket', WHERE WHAT IT READS IS OF BULK AT MOST 1048576: true; the input reads as it did. -/
def fnExactNextTicketUptoRow : OpenClaim := { program := "ytmbgihklhmhilaa", sum := "d1df2d76c632fc2bb669accdd78e40b573b4447bc753c8046abcedf3ae8ea261", func := "loop.example/g03007/laws.FnExactNextTicket", spec := "fnExactNextTicket", unfollowed := true, recurses := true, apart := false, narrowed := true }
def FnExactNextTicketUptoSaid : Prop := fnExactNextTicketUptoRow.holds Try.pinned (OpenSpec.upto fnExactNextTicketSpec)

/-- 'laws.FnExactCallTicket', WHERE WHAT IT READS IS OF BULK AT MOST 1048576: true; the input reads as it did. -/
def fnExactCallTicketUptoRow : OpenClaim := { program := "ytmbgihklhmhilaa", sum := "d1df2d76c632fc2bb669accdd78e40b573b4447bc753c8046abcedf3ae8ea261", func := "loop.example/g03007/laws.FnExactCallTicket", spec := "fnExactCallTicket", unfollowed := true, recurses := true, apart := false, narrowed := true }
def FnExactCallTicketUptoSaid : Prop := fnExactCallTicketUptoRow.holds Try.pinned (OpenSpec.upto fnExactCallTicketSpec)

/-- 'laws.FnExactCallAll', WHERE WHAT IT READS IS OF BULK AT MOST 1048576: true; the input reads as it did. -/
def fnExactCallAllUptoRow : OpenClaim := { program := "ytmbgihklhmhilaa", sum := "d1df2d76c632fc2bb669accdd78e40b573b4447bc753c8046abcedf3ae8ea261", func := "loop.example/g03007/laws.FnExactCallAll", spec := "fnExactCallAll", unfollowed := true, recurses := true, apart := false, narrowed := true }
def FnExactCallAllUptoSaid : Prop := fnExactCallAllUptoRow.holds Try.pinned (OpenSpec.upto fnExactCallAllSpec)

/-- 'laws.FnExactAccountsOf', WHERE WHAT IT READS IS OF BULK AT MOST 1048576: true; the input reads as it did. -/
def fnExactAccountsOfUptoRow : OpenClaim := { program := "ytmbgihklhmhilaa", sum := "d1df2d76c632fc2bb669accdd78e40b573b4447bc753c8046abcedf3ae8ea261", func := "loop.example/g03007/laws.FnExactAccountsOf", spec := "fnExactAccountsOf", recurses := true, apart := false, narrowed := true }
def FnExactAccountsOfUptoSaid : Prop := fnExactAccountsOfUptoRow.holds Try.pinned (OpenSpec.upto fnExactAccountsOfSpec)

/-- 'laws.FnExactBusiestPlace', WHERE WHAT IT READS IS OF BULK AT MOST 1048576: true; the input reads as it did. -/
def fnExactBusiestPlaceUptoRow : OpenClaim := { program := "ytmbgihklhmhilaa", sum := "d1df2d76c632fc2bb669accdd78e40b573b4447bc753c8046abcedf3ae8ea261", func := "loop.example/g03007/laws.FnExactBusiestPlace", spec := "fnExactBusiestPlace", unfollowed := true, recurses := true, apart := false, narrowed := true }
def FnExactBusiestPlaceUptoSaid : Prop := fnExactBusiestPlaceUptoRow.holds Try.pinned (OpenSpec.upto fnExactBusiestPlaceSpec)

end Rows
end Go.Proofs.Ytmbgihklhmhilaa
