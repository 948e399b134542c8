/-
  NARROWER THAN 'FOR EVERY INPUT', by the rows' own cells (each row's printed sentence says how): FnExactKeepDays: laid · FnExactDueHour: laid · FnExactIsDue: laid · FnExactDueThings: laid · FnExactNextDue: laid · FnExactDaysLeft: laid · FnExactFateOf: laid · FnExactMustKeep: laid · FnExactFatesOf: laid · FnExactLastDay: laid · FnExactTaskOf: laid · FnExactMarksOf: ifaces, laid · FnExactSealOf: ifaces, laid.
  DERIVED. THE GIVEN ROWS OF THIS SEAT. 13 by the template 'for every input the law returns true; each argument reads behind the call as it read before'; 0 by the template 'total and deterministic' (their statements: YtobofamoagbacaaDoorTotals.lean).
  GIVEN WITH THE SEED: the statements are not yours to turn. If you find one false, say at which input.
  Laid BY PROGRAM, IN A SANDBOX (cutbox-rows.mjs): the forced cells as the released guide's own fill.sh prints them over the translation d2d9ea4945454fbf… (all of the seat's roots in one cut). By AI agents, Wed Nov 11 2026. No macro, syntax, notation, axiom, sorry.
-/
import Derived.Test.YtobofamoagbacaaDoorChecked
import GoSem.Claim
import GoSem.ClaimJoined
import GoSem.ClaimMapViews
import Derived.JoinedTies
import Derived.KernelRfl
namespace Go.Proofs.YtobofamoagbacaaDoor
/- THE CELL 'sum', in the pinned program and in every row, IS THE sha256 OF THE DUMP (.gsa) THAT YtobofamoagbacaaDoorProg.lean LOADS. Nothing in Lean hashes anything: it is a label: what it is worth is what the hold of that sum in a sandbox is worth. -/
noncomputable def Tryd.pinned : Pinned := { name := "ytobofamoagbacaadoor", sum := "d2d9ea4945454fbfc8dd3c96ca7554f0dd26fe6899ffcd060f09ab7432e493c8", checked := Tryd.checked }
namespace Rows
def none {H : Type} : Left H := { results := [], args := [] }

/- WHAT THE LISTED PACKAGE-LEVEL VARIABLES READ AS WHEN THE CALL BEGINS. Each datum BY PROGRAM (the guide's laid-datum.mjs) off the statement by which the dump's own 'gosem.cut.vars' lays the variable. In a bare row this is a premise. The card (YtobofamoagbacaaDoorCards.lean) ties it to the program's text. -/
def laid_loop_example_g03007_impl_keepDays {H : Type} : DataW H := .agg [.lit (.int .i64 0), .lit (.int .i64 90), .lit (.int .i64 90), .lit (.int .i64 90), .lit (.int .i64 180), .lit (.int .i64 180), .lit (.int .i64 90), .lit (.int .i64 1), .lit (.int .i64 90)]
def laid_loop_example_g03007_impl_errNoSecret {H : Type} : DataW H := .iface "*errors.errorString" (.ptr (.agg [.lit (.string [116, 104, 101, 114, 101, 32, 105, 115, 32, 110, 111, 32, 115, 101, 99, 114, 101, 116, 32, 111, 102, 32, 116, 104, 105, 115, 32, 116, 104, 105, 110, 103])]))

/-- 'laws.FnExactKeepDays': WHATEVER THE INPUT: true; the input reads as it did. -/
def fnExactKeepDaysSpec : ChangeSpec := { name := "fnExactKeepDays", vars := ["loop.example/g03007/impl.keepDays"], fn := fun _ => fun
  | [d, g1] => { results := [.lit (.bool true)], args := [d], vars := [g1] }
  | _ => none }
def fnExactKeepDaysRow : OpenClaim := { program := "ytobofamoagbacaadoor", sum := "d2d9ea4945454fbfc8dd3c96ca7554f0dd26fe6899ffcd060f09ab7432e493c8", func := "loop.example/g03007/laws.FnExactKeepDays", spec := "fnExactKeepDays", named := ["loop.example/g03007/impl.keepDays"], apart := false, laid := [("loop.example/g03007/impl.keepDays", laid_loop_example_g03007_impl_keepDays)] }
def FnExactKeepDaysSaid : Prop := fnExactKeepDaysRow.holds Tryd.pinned (OpenSpec.ofChange fnExactKeepDaysSpec)

/-- ITS FALSE NEIGHBOUR: 'it returns false'. Refute it at one input. -/
def fnExactKeepDaysWrong : ChangeSpec := { name := "fnExactKeepDays", vars := ["loop.example/g03007/impl.keepDays"], fn := fun _ => fun
  | [d, g1] => { results := [.lit (.bool false)], args := [d], vars := [g1] }
  | _ => none }
def FnExactKeepDaysWrongFalsely : Prop := fnExactKeepDaysRow.holds Tryd.pinned (OpenSpec.ofChange fnExactKeepDaysWrong)

/-- 'laws.FnExactDueHour': WHATEVER THE INPUT: true; the input reads as it did. -/
def fnExactDueHourSpec : ChangeSpec := { name := "fnExactDueHour", vars := ["loop.example/g03007/impl.keepDays"], fn := fun _ => fun
  | [d, g1] => { results := [.lit (.bool true)], args := [d], vars := [g1] }
  | _ => none }
def fnExactDueHourRow : OpenClaim := { program := "ytobofamoagbacaadoor", sum := "d2d9ea4945454fbfc8dd3c96ca7554f0dd26fe6899ffcd060f09ab7432e493c8", func := "loop.example/g03007/laws.FnExactDueHour", spec := "fnExactDueHour", unfollowed := true, recurses := true, named := ["loop.example/g03007/impl.keepDays"], apart := false, laid := [("loop.example/g03007/impl.keepDays", laid_loop_example_g03007_impl_keepDays)] }
def FnExactDueHourSaid : Prop := fnExactDueHourRow.holds Tryd.pinned (OpenSpec.ofChange fnExactDueHourSpec)

/-- ITS FALSE NEIGHBOUR: 'it returns false'. Refute it at one input. -/
def fnExactDueHourWrong : ChangeSpec := { name := "fnExactDueHour", vars := ["loop.example/g03007/impl.keepDays"], fn := fun _ => fun
  | [d, g1] => { results := [.lit (.bool false)], args := [d], vars := [g1] }
  | _ => none }
def FnExactDueHourWrongFalsely : Prop := fnExactDueHourRow.holds Tryd.pinned (OpenSpec.ofChange fnExactDueHourWrong)

/-- 'laws.FnExactIsDue': WHATEVER THE INPUT: true; the input reads as it did. -/
def fnExactIsDueSpec : ChangeSpec := { name := "fnExactIsDue", vars := ["loop.example/g03007/impl.keepDays"], fn := fun _ => fun
  | [d1, d2, g1] => { results := [.lit (.bool true)], args := [d1, d2], vars := [g1] }
  | _ => none }
def fnExactIsDueRow : OpenClaim := { program := "ytobofamoagbacaadoor", sum := "d2d9ea4945454fbfc8dd3c96ca7554f0dd26fe6899ffcd060f09ab7432e493c8", func := "loop.example/g03007/laws.FnExactIsDue", spec := "fnExactIsDue", unfollowed := true, recurses := true, named := ["loop.example/g03007/impl.keepDays"], apart := false, laid := [("loop.example/g03007/impl.keepDays", laid_loop_example_g03007_impl_keepDays)] }
def FnExactIsDueSaid : Prop := fnExactIsDueRow.holds Tryd.pinned (OpenSpec.ofChange fnExactIsDueSpec)

/-- ITS FALSE NEIGHBOUR: 'it returns false'. Refute it at one input. -/
def fnExactIsDueWrong : ChangeSpec := { name := "fnExactIsDue", vars := ["loop.example/g03007/impl.keepDays"], fn := fun _ => fun
  | [d1, d2, g1] => { results := [.lit (.bool false)], args := [d1, d2], vars := [g1] }
  | _ => none }
def FnExactIsDueWrongFalsely : Prop := fnExactIsDueRow.holds Tryd.pinned (OpenSpec.ofChange fnExactIsDueWrong)

/-- 'laws.FnExactDueThings': WHATEVER THE INPUT: true; the input reads as it did. -/
def fnExactDueThingsSpec : ChangeSpec := { name := "fnExactDueThings", vars := ["loop.example/g03007/impl.keepDays"], fn := fun _ => fun
  | [d1, d2, g1] => { results := [.lit (.bool true)], args := [d1, d2], vars := [g1] }
  | _ => none }
def fnExactDueThingsRow : OpenClaim := { program := "ytobofamoagbacaadoor", sum := "d2d9ea4945454fbfc8dd3c96ca7554f0dd26fe6899ffcd060f09ab7432e493c8", func := "loop.example/g03007/laws.FnExactDueThings", spec := "fnExactDueThings", unfollowed := true, recurses := true, named := ["loop.example/g03007/impl.keepDays"], apart := false, laid := [("loop.example/g03007/impl.keepDays", laid_loop_example_g03007_impl_keepDays)] }
def FnExactDueThingsSaid : Prop := fnExactDueThingsRow.holds Tryd.pinned (OpenSpec.ofChange fnExactDueThingsSpec)

/-- ITS FALSE NEIGHBOUR: 'it returns false'. Refute it at one input. -/
def fnExactDueThingsWrong : ChangeSpec := { name := "fnExactDueThings", vars := ["loop.example/g03007/impl.keepDays"], fn := fun _ => fun
  | [d1, d2, g1] => { results := [.lit (.bool false)], args := [d1, d2], vars := [g1] }
  | _ => none }
def FnExactDueThingsWrongFalsely : Prop := fnExactDueThingsRow.holds Tryd.pinned (OpenSpec.ofChange fnExactDueThingsWrong)

/-- 'laws.FnExactNextDue': WHATEVER THE INPUT: true; the input reads as it did. -/
def fnExactNextDueSpec : ChangeSpec := { name := "fnExactNextDue", vars := ["loop.example/g03007/impl.keepDays"], fn := fun _ => fun
  | [d1, d2, g1] => { results := [.lit (.bool true)], args := [d1, d2], vars := [g1] }
  | _ => none }
def fnExactNextDueRow : OpenClaim := { program := "ytobofamoagbacaadoor", sum := "d2d9ea4945454fbfc8dd3c96ca7554f0dd26fe6899ffcd060f09ab7432e493c8", func := "loop.example/g03007/laws.FnExactNextDue", spec := "fnExactNextDue", unfollowed := true, recurses := true, named := ["loop.example/g03007/impl.keepDays"], apart := false, laid := [("loop.example/g03007/impl.keepDays", laid_loop_example_g03007_impl_keepDays)] }
def FnExactNextDueSaid : Prop := fnExactNextDueRow.holds Tryd.pinned (OpenSpec.ofChange fnExactNextDueSpec)

/-- ITS FALSE NEIGHBOUR: 'it returns false'. Refute it at one input. -/
def fnExactNextDueWrong : ChangeSpec := { name := "fnExactNextDue", vars := ["loop.example/g03007/impl.keepDays"], fn := fun _ => fun
  | [d1, d2, g1] => { results := [.lit (.bool false)], args := [d1, d2], vars := [g1] }
  | _ => none }
def FnExactNextDueWrongFalsely : Prop := fnExactNextDueRow.holds Tryd.pinned (OpenSpec.ofChange fnExactNextDueWrong)

/-- 'laws.FnExactDaysLeft': WHATEVER THE INPUT: true; the input reads as it did. -/
def fnExactDaysLeftSpec : ChangeSpec := { name := "fnExactDaysLeft", vars := ["loop.example/g03007/impl.keepDays"], fn := fun _ => fun
  | [d1, d2, g1] => { results := [.lit (.bool true)], args := [d1, d2], vars := [g1] }
  | _ => none }
def fnExactDaysLeftRow : OpenClaim := { program := "ytobofamoagbacaadoor", sum := "d2d9ea4945454fbfc8dd3c96ca7554f0dd26fe6899ffcd060f09ab7432e493c8", func := "loop.example/g03007/laws.FnExactDaysLeft", spec := "fnExactDaysLeft", unfollowed := true, recurses := true, named := ["loop.example/g03007/impl.keepDays"], apart := false, laid := [("loop.example/g03007/impl.keepDays", laid_loop_example_g03007_impl_keepDays)] }
def FnExactDaysLeftSaid : Prop := fnExactDaysLeftRow.holds Tryd.pinned (OpenSpec.ofChange fnExactDaysLeftSpec)

/-- ITS FALSE NEIGHBOUR: 'it returns false'. Refute it at one input. -/
def fnExactDaysLeftWrong : ChangeSpec := { name := "fnExactDaysLeft", vars := ["loop.example/g03007/impl.keepDays"], fn := fun _ => fun
  | [d1, d2, g1] => { results := [.lit (.bool false)], args := [d1, d2], vars := [g1] }
  | _ => none }
def FnExactDaysLeftWrongFalsely : Prop := fnExactDaysLeftRow.holds Tryd.pinned (OpenSpec.ofChange fnExactDaysLeftWrong)

/-- 'laws.FnExactFateOf': WHATEVER THE INPUT: true; the input reads as it did. -/
def fnExactFateOfSpec : ChangeSpec := { name := "fnExactFateOf", vars := ["loop.example/g03007/impl.keepDays"], fn := fun _ => fun
  | [d1, d2, d3, g1] => { results := [.lit (.bool true)], args := [d1, d2, d3], vars := [g1] }
  | _ => none }
def fnExactFateOfRow : OpenClaim := { program := "ytobofamoagbacaadoor", sum := "d2d9ea4945454fbfc8dd3c96ca7554f0dd26fe6899ffcd060f09ab7432e493c8", func := "loop.example/g03007/laws.FnExactFateOf", spec := "fnExactFateOf", unfollowed := true, recurses := true, named := ["loop.example/g03007/impl.keepDays"], apart := false, laid := [("loop.example/g03007/impl.keepDays", laid_loop_example_g03007_impl_keepDays)] }
def FnExactFateOfSaid : Prop := fnExactFateOfRow.holds Tryd.pinned (OpenSpec.ofChange fnExactFateOfSpec)

/-- ITS FALSE NEIGHBOUR: 'it returns false'. Refute it at one input. -/
def fnExactFateOfWrong : ChangeSpec := { name := "fnExactFateOf", vars := ["loop.example/g03007/impl.keepDays"], fn := fun _ => fun
  | [d1, d2, d3, g1] => { results := [.lit (.bool false)], args := [d1, d2, d3], vars := [g1] }
  | _ => none }
def FnExactFateOfWrongFalsely : Prop := fnExactFateOfRow.holds Tryd.pinned (OpenSpec.ofChange fnExactFateOfWrong)

/-- 'laws.FnExactMustKeep': WHATEVER THE INPUT: true; the input reads as it did. -/
def fnExactMustKeepSpec : ChangeSpec := { name := "fnExactMustKeep", vars := ["loop.example/g03007/impl.keepDays"], fn := fun _ => fun
  | [d1, d2, d3, g1] => { results := [.lit (.bool true)], args := [d1, d2, d3], vars := [g1] }
  | _ => none }
def fnExactMustKeepRow : OpenClaim := { program := "ytobofamoagbacaadoor", sum := "d2d9ea4945454fbfc8dd3c96ca7554f0dd26fe6899ffcd060f09ab7432e493c8", func := "loop.example/g03007/laws.FnExactMustKeep", spec := "fnExactMustKeep", unfollowed := true, recurses := true, named := ["loop.example/g03007/impl.keepDays"], apart := false, laid := [("loop.example/g03007/impl.keepDays", laid_loop_example_g03007_impl_keepDays)] }
def FnExactMustKeepSaid : Prop := fnExactMustKeepRow.holds Tryd.pinned (OpenSpec.ofChange fnExactMustKeepSpec)

/-- ITS FALSE NEIGHBOUR: 'it returns false'. Refute it at one input. -/
def fnExactMustKeepWrong : ChangeSpec := { name := "fnExactMustKeep", vars := ["loop.example/g03007/impl.keepDays"], fn := fun _ => fun
  | [d1, d2, d3, g1] => { results := [.lit (.bool false)], args := [d1, d2, d3], vars := [g1] }
  | _ => none }
def FnExactMustKeepWrongFalsely : Prop := fnExactMustKeepRow.holds Tryd.pinned (OpenSpec.ofChange fnExactMustKeepWrong)

/-- 'laws.FnExactFatesOf': WHATEVER THE INPUT: true; the input reads as it did. -/
def fnExactFatesOfSpec : ChangeSpec := { name := "fnExactFatesOf", vars := ["loop.example/g03007/impl.keepDays"], fn := fun _ => fun
  | [d1, d2, d3, g1] => { results := [.lit (.bool true)], args := [d1, d2, d3], vars := [g1] }
  | _ => none }
def fnExactFatesOfRow : OpenClaim := { program := "ytobofamoagbacaadoor", sum := "d2d9ea4945454fbfc8dd3c96ca7554f0dd26fe6899ffcd060f09ab7432e493c8", func := "loop.example/g03007/laws.FnExactFatesOf", spec := "fnExactFatesOf", unfollowed := true, recurses := true, named := ["loop.example/g03007/impl.keepDays"], apart := false, laid := [("loop.example/g03007/impl.keepDays", laid_loop_example_g03007_impl_keepDays)] }
def FnExactFatesOfSaid : Prop := fnExactFatesOfRow.holds Tryd.pinned (OpenSpec.ofChange fnExactFatesOfSpec)

/-- ITS FALSE NEIGHBOUR: 'it returns false'. Refute it at one input. -/
def fnExactFatesOfWrong : ChangeSpec := { name := "fnExactFatesOf", vars := ["loop.example/g03007/impl.keepDays"], fn := fun _ => fun
  | [d1, d2, d3, g1] => { results := [.lit (.bool false)], args := [d1, d2, d3], vars := [g1] }
  | _ => none }
def FnExactFatesOfWrongFalsely : Prop := fnExactFatesOfRow.holds Tryd.pinned (OpenSpec.ofChange fnExactFatesOfWrong)

/-- 'laws.FnExactLastDay': WHATEVER THE INPUT: true; the input reads as it did. -/
def fnExactLastDaySpec : ChangeSpec := { name := "fnExactLastDay", vars := ["loop.example/g03007/impl.keepDays"], fn := fun _ => fun
  | [d1, d2, g1] => { results := [.lit (.bool true)], args := [d1, d2], vars := [g1] }
  | _ => none }
def fnExactLastDayRow : OpenClaim := { program := "ytobofamoagbacaadoor", sum := "d2d9ea4945454fbfc8dd3c96ca7554f0dd26fe6899ffcd060f09ab7432e493c8", func := "loop.example/g03007/laws.FnExactLastDay", spec := "fnExactLastDay", unfollowed := true, recurses := true, named := ["loop.example/g03007/impl.keepDays"], apart := false, laid := [("loop.example/g03007/impl.keepDays", laid_loop_example_g03007_impl_keepDays)] }
def FnExactLastDaySaid : Prop := fnExactLastDayRow.holds Tryd.pinned (OpenSpec.ofChange fnExactLastDaySpec)

/-- ITS FALSE NEIGHBOUR: 'it returns false'. Refute it at one input. -/
def fnExactLastDayWrong : ChangeSpec := { name := "fnExactLastDay", vars := ["loop.example/g03007/impl.keepDays"], fn := fun _ => fun
  | [d1, d2, g1] => { results := [.lit (.bool false)], args := [d1, d2], vars := [g1] }
  | _ => none }
def FnExactLastDayWrongFalsely : Prop := fnExactLastDayRow.holds Tryd.pinned (OpenSpec.ofChange fnExactLastDayWrong)

/-- 'laws.FnExactTaskOf': WHATEVER THE INPUT: true; the input reads as it did. -/
def fnExactTaskOfSpec : ChangeSpec := { name := "fnExactTaskOf", vars := ["loop.example/g03007/impl.keepDays"], fn := fun _ => fun
  | [d1, d2, d3, d4, g1] => { results := [.lit (.bool true)], args := [d1, d2, d3, d4], vars := [g1] }
  | _ => none }
def fnExactTaskOfRow : OpenClaim := { program := "ytobofamoagbacaadoor", sum := "d2d9ea4945454fbfc8dd3c96ca7554f0dd26fe6899ffcd060f09ab7432e493c8", func := "loop.example/g03007/laws.FnExactTaskOf", spec := "fnExactTaskOf", unfollowed := true, recurses := true, named := ["loop.example/g03007/impl.keepDays"], apart := false, laid := [("loop.example/g03007/impl.keepDays", laid_loop_example_g03007_impl_keepDays)] }
def FnExactTaskOfSaid : Prop := fnExactTaskOfRow.holds Tryd.pinned (OpenSpec.ofChange fnExactTaskOfSpec)

/-- ITS FALSE NEIGHBOUR: 'it returns false'. Refute it at one input. -/
def fnExactTaskOfWrong : ChangeSpec := { name := "fnExactTaskOf", vars := ["loop.example/g03007/impl.keepDays"], fn := fun _ => fun
  | [d1, d2, d3, d4, g1] => { results := [.lit (.bool false)], args := [d1, d2, d3, d4], vars := [g1] }
  | _ => none }
def FnExactTaskOfWrongFalsely : Prop := fnExactTaskOfRow.holds Tryd.pinned (OpenSpec.ofChange fnExactTaskOfWrong)

/-- 'laws.FnExactMarksOf': WHATEVER THE INPUT: true; the input reads as it did. -/
def fnExactMarksOfSpec : ChangeSpec := { name := "fnExactMarksOf", vars := ["loop.example/g03007/impl.errNoSecret"], fn := fun _ => fun
  | [d1, d2, g1] => { results := [.lit (.bool true)], args := [d1, d2], vars := [g1] }
  | _ => none }
def fnExactMarksOfRow : OpenClaim := { program := "ytobofamoagbacaadoor", sum := "d2d9ea4945454fbfc8dd3c96ca7554f0dd26fe6899ffcd060f09ab7432e493c8", func := "loop.example/g03007/laws.FnExactMarksOf", spec := "fnExactMarksOf", inPlace := ["internal/reflectlite.TypeOf"], unfollowed := true, recurses := true, named := ["loop.example/g03007/impl.errNoSecret"], ifaces := true, apart := false, laid := [("loop.example/g03007/impl.errNoSecret", laid_loop_example_g03007_impl_errNoSecret)] }
def FnExactMarksOfSaid : Prop := fnExactMarksOfRow.holds Tryd.pinned (OpenSpec.ofChange fnExactMarksOfSpec)

/-- ITS FALSE NEIGHBOUR: 'it returns false'. Refute it at one input. -/
def fnExactMarksOfWrong : ChangeSpec := { name := "fnExactMarksOf", vars := ["loop.example/g03007/impl.errNoSecret"], fn := fun _ => fun
  | [d1, d2, g1] => { results := [.lit (.bool false)], args := [d1, d2], vars := [g1] }
  | _ => none }
def FnExactMarksOfWrongFalsely : Prop := fnExactMarksOfRow.holds Tryd.pinned (OpenSpec.ofChange fnExactMarksOfWrong)

/-- 'laws.FnExactSealOf': WHATEVER THE INPUT: true; the input reads as it did. -/
def fnExactSealOfSpec : ChangeSpec := { name := "fnExactSealOf", vars := ["loop.example/g03007/impl.errNoSecret"], fn := fun _ => fun
  | [d1, d2, g1] => { results := [.lit (.bool true)], args := [d1, d2], vars := [g1] }
  | _ => none }
def fnExactSealOfRow : OpenClaim := { program := "ytobofamoagbacaadoor", sum := "d2d9ea4945454fbfc8dd3c96ca7554f0dd26fe6899ffcd060f09ab7432e493c8", func := "loop.example/g03007/laws.FnExactSealOf", spec := "fnExactSealOf", inPlace := ["internal/reflectlite.TypeOf"], unfollowed := true, recurses := true, named := ["loop.example/g03007/impl.errNoSecret"], ifaces := true, apart := false, laid := [("loop.example/g03007/impl.errNoSecret", laid_loop_example_g03007_impl_errNoSecret)] }
def FnExactSealOfSaid : Prop := fnExactSealOfRow.holds Tryd.pinned (OpenSpec.ofChange fnExactSealOfSpec)

/-- ITS FALSE NEIGHBOUR: 'it returns false'. Refute it at one input. -/
def fnExactSealOfWrong : ChangeSpec := { name := "fnExactSealOf", vars := ["loop.example/g03007/impl.errNoSecret"], fn := fun _ => fun
  | [d1, d2, g1] => { results := [.lit (.bool false)], args := [d1, d2], vars := [g1] }
  | _ => none }
def FnExactSealOfWrongFalsely : Prop := fnExactSealOfRow.holds Tryd.pinned (OpenSpec.ofChange fnExactSealOfWrong)

/- THE SECOND FORM. 'bulk': how many values and letters a reading holds, each counted each time it is reached (what is shared counts as often as it is met; a slice's spare places count too). A statement '..UptoSaid' is the law's where the arguments, and the package variables that the reading takes, are together of bulk at most 1048576: NARROWER than '..Said'. Prove '..Said' where nothing that the law and all that it calls make is longer than what came in: it says more and counts as full. Else prove '..UptoSaid'. A law counts once. -/
mutual
def uptoBulk {H : Type} : DataW H → Nat
  | .lit (.string bytes) => bytes.length + 1
  | .lit _ => 1
  | .nil => 1
  | .ptr d => uptoBulk d + 1
  | .slice elems spare => uptoBulkAll elems + uptoBulkAll spare + 1
  | .agg parts => uptoBulkAll parts + 1
  | .iface _ d => uptoBulk d + 1
  | .map entries => uptoBulkEntries entries + 1
  | .held _ => 1
def uptoBulkAll {H : Type} : List (DataW H) → Nat
  | [] => 0
  | d :: r => uptoBulk d + uptoBulkAll r
def uptoBulkEntries {H : Type} : List (Lit × DataW H) → Nat
  | [] => 0
  | x :: r => uptoBulkEntry x + uptoBulkEntries r
def uptoBulkEntry {H : Type} : Lit × DataW H → Nat
  | (.string bytes, d) => bytes.length + uptoBulk d + 1
  | (_, d) => uptoBulk d + 1
 end
def uptoSmall : (H : Type) → List (DataW H) → Bool := fun _ ds => decide (uptoBulkAll ds ≤ 1048576)
def OpenSpec.upto (s : _root_.Go.ChangeSpec) : _root_.Go.OpenSpec := { _root_.Go.OpenSpec.ofChange s with cond := some uptoSmall }

/-- 'laws.FnExactKeepDays', WHERE WHAT IT READS IS OF BULK AT MOST 1048576: true; the input reads as it did. -/
def fnExactKeepDaysUptoRow : OpenClaim := { program := "ytobofamoagbacaadoor", sum := "d2d9ea4945454fbfc8dd3c96ca7554f0dd26fe6899ffcd060f09ab7432e493c8", func := "loop.example/g03007/laws.FnExactKeepDays", spec := "fnExactKeepDays", named := ["loop.example/g03007/impl.keepDays"], apart := false, laid := [("loop.example/g03007/impl.keepDays", laid_loop_example_g03007_impl_keepDays)], narrowed := true }
def FnExactKeepDaysUptoSaid : Prop := fnExactKeepDaysUptoRow.holds Tryd.pinned (OpenSpec.upto fnExactKeepDaysSpec)

/-- 'laws.FnExactDueHour', WHERE WHAT IT READS IS OF BULK AT MOST 1048576: true; the input reads as it did. -/
def fnExactDueHourUptoRow : OpenClaim := { program := "ytobofamoagbacaadoor", sum := "d2d9ea4945454fbfc8dd3c96ca7554f0dd26fe6899ffcd060f09ab7432e493c8", func := "loop.example/g03007/laws.FnExactDueHour", spec := "fnExactDueHour", unfollowed := true, recurses := true, named := ["loop.example/g03007/impl.keepDays"], apart := false, laid := [("loop.example/g03007/impl.keepDays", laid_loop_example_g03007_impl_keepDays)], narrowed := true }
def FnExactDueHourUptoSaid : Prop := fnExactDueHourUptoRow.holds Tryd.pinned (OpenSpec.upto fnExactDueHourSpec)

/-- 'laws.FnExactIsDue', WHERE WHAT IT READS IS OF BULK AT MOST 1048576: true; the input reads as it did. -/
def fnExactIsDueUptoRow : OpenClaim := { program := "ytobofamoagbacaadoor", sum := "d2d9ea4945454fbfc8dd3c96ca7554f0dd26fe6899ffcd060f09ab7432e493c8", func := "loop.example/g03007/laws.FnExactIsDue", spec := "fnExactIsDue", unfollowed := true, recurses := true, named := ["loop.example/g03007/impl.keepDays"], apart := false, laid := [("loop.example/g03007/impl.keepDays", laid_loop_example_g03007_impl_keepDays)], narrowed := true }
def FnExactIsDueUptoSaid : Prop := fnExactIsDueUptoRow.holds Tryd.pinned (OpenSpec.upto fnExactIsDueSpec)

/-- 'laws.FnExactDueThings', WHERE WHAT IT READS IS OF BULK AT MOST 1048576: true; the input reads as it did. -/
def fnExactDueThingsUptoRow : OpenClaim := { program := "ytobofamoagbacaadoor", sum := "d2d9ea4945454fbfc8dd3c96ca7554f0dd26fe6899ffcd060f09ab7432e493c8", func := "loop.example/g03007/laws.FnExactDueThings", spec := "fnExactDueThings", unfollowed := true, recurses := true, named := ["loop.example/g03007/impl.keepDays"], apart := false, laid := [("loop.example/g03007/impl.keepDays", laid_loop_example_g03007_impl_keepDays)], narrowed := true }
def FnExactDueThingsUptoSaid : Prop := fnExactDueThingsUptoRow.holds Tryd.pinned (OpenSpec.upto fnExactDueThingsSpec)

/-- 'laws.FnExactNextDue', WHERE WHAT IT READS IS OF BULK AT MOST 1048576: true; the input reads as it did. -/
def fnExactNextDueUptoRow : OpenClaim := { program := "ytobofamoagbacaadoor", sum := "d2d9ea4945454fbfc8dd3c96ca7554f0dd26fe6899ffcd060f09ab7432e493c8", func := "loop.example/g03007/laws.FnExactNextDue", spec := "fnExactNextDue", unfollowed := true, recurses := true, named := ["loop.example/g03007/impl.keepDays"], apart := false, laid := [("loop.example/g03007/impl.keepDays", laid_loop_example_g03007_impl_keepDays)], narrowed := true }
def FnExactNextDueUptoSaid : Prop := fnExactNextDueUptoRow.holds Tryd.pinned (OpenSpec.upto fnExactNextDueSpec)

/-- 'laws.FnExactDaysLeft', WHERE WHAT IT READS IS OF BULK AT MOST 1048576: true; the input reads as it did. -/
def fnExactDaysLeftUptoRow : OpenClaim := { program := "ytobofamoagbacaadoor", sum := "d2d9ea4945454fbfc8dd3c96ca7554f0dd26fe6899ffcd060f09ab7432e493c8", func := "loop.example/g03007/laws.FnExactDaysLeft", spec := "fnExactDaysLeft", unfollowed := true, recurses := true, named := ["loop.example/g03007/impl.keepDays"], apart := false, laid := [("loop.example/g03007/impl.keepDays", laid_loop_example_g03007_impl_keepDays)], narrowed := true }
def FnExactDaysLeftUptoSaid : Prop := fnExactDaysLeftUptoRow.holds Tryd.pinned (OpenSpec.upto fnExactDaysLeftSpec)

/-- 'laws.FnExactFateOf', WHERE WHAT IT READS IS OF BULK AT MOST 1048576: true; the input reads as it did. -/
def fnExactFateOfUptoRow : OpenClaim := { program := "ytobofamoagbacaadoor", sum := "d2d9ea4945454fbfc8dd3c96ca7554f0dd26fe6899ffcd060f09ab7432e493c8", func := "loop.example/g03007/laws.FnExactFateOf", spec := "fnExactFateOf", unfollowed := true, recurses := true, named := ["loop.example/g03007/impl.keepDays"], apart := false, laid := [("loop.example/g03007/impl.keepDays", laid_loop_example_g03007_impl_keepDays)], narrowed := true }
def FnExactFateOfUptoSaid : Prop := fnExactFateOfUptoRow.holds Tryd.pinned (OpenSpec.upto fnExactFateOfSpec)

/-- 'laws.FnExactMustKeep', WHERE WHAT IT READS IS OF BULK AT MOST 1048576: true; the input reads as it did. -/
def fnExactMustKeepUptoRow : OpenClaim := { program := "ytobofamoagbacaadoor", sum := "d2d9ea4945454fbfc8dd3c96ca7554f0dd26fe6899ffcd060f09ab7432e493c8", func := "loop.example/g03007/laws.FnExactMustKeep", spec := "fnExactMustKeep", unfollowed := true, recurses := true, named := ["loop.example/g03007/impl.keepDays"], apart := false, laid := [("loop.example/g03007/impl.keepDays", laid_loop_example_g03007_impl_keepDays)], narrowed := true }
def FnExactMustKeepUptoSaid : Prop := fnExactMustKeepUptoRow.holds Tryd.pinned (OpenSpec.upto fnExactMustKeepSpec)

/-- 'laws.FnExactFatesOf', WHERE WHAT IT READS IS OF BULK AT MOST 1048576: true; the input reads as it did. -/
def fnExactFatesOfUptoRow : OpenClaim := { program := "ytobofamoagbacaadoor", sum := "d2d9ea4945454fbfc8dd3c96ca7554f0dd26fe6899ffcd060f09ab7432e493c8", func := "loop.example/g03007/laws.FnExactFatesOf", spec := "fnExactFatesOf", unfollowed := true, recurses := true, named := ["loop.example/g03007/impl.keepDays"], apart := false, laid := [("loop.example/g03007/impl.keepDays", laid_loop_example_g03007_impl_keepDays)], narrowed := true }
def FnExactFatesOfUptoSaid : Prop := fnExactFatesOfUptoRow.holds Tryd.pinned (OpenSpec.upto fnExactFatesOfSpec)

/-- 'laws.FnExactLastDay', WHERE WHAT IT READS IS OF BULK AT MOST 1048576: true; the input reads as it did. -/
def fnExactLastDayUptoRow : OpenClaim := { program := "ytobofamoagbacaadoor", sum := "d2d9ea4945454fbfc8dd3c96ca7554f0dd26fe6899ffcd060f09ab7432e493c8", func := "loop.example/g03007/laws.FnExactLastDay", spec := "fnExactLastDay", unfollowed := true, recurses := true, named := ["loop.example/g03007/impl.keepDays"], apart := false, laid := [("loop.example/g03007/impl.keepDays", laid_loop_example_g03007_impl_keepDays)], narrowed := true }
def FnExactLastDayUptoSaid : Prop := fnExactLastDayUptoRow.holds Tryd.pinned (OpenSpec.upto fnExactLastDaySpec)

/-- 'laws.FnExactTaskOf', WHERE WHAT IT READS IS OF BULK AT MOST 1048576: true; the input reads as it did. -/
def fnExactTaskOfUptoRow : OpenClaim := { program := "ytobofamoagbacaadoor", sum := "d2d9ea4945454fbfc8dd3c96ca7554f0dd26fe6899ffcd060f09ab7432e493c8", func := "loop.example/g03007/laws.FnExactTaskOf", spec := "fnExactTaskOf", unfollowed := true, recurses := true, named := ["loop.example/g03007/impl.keepDays"], apart := false, laid := [("loop.example/g03007/impl.keepDays", laid_loop_example_g03007_impl_keepDays)], narrowed := true }
def FnExactTaskOfUptoSaid : Prop := fnExactTaskOfUptoRow.holds Tryd.pinned (OpenSpec.upto fnExactTaskOfSpec)

/-- 'laws.FnExactMarksOf', WHERE WHAT IT READS IS OF BULK AT MOST 1048576: true; the input reads as it did. -/
def fnExactMarksOfUptoRow : OpenClaim := { program := "ytobofamoagbacaadoor", sum := "d2d9ea4945454fbfc8dd3c96ca7554f0dd26fe6899ffcd060f09ab7432e493c8", func := "loop.example/g03007/laws.FnExactMarksOf", spec := "fnExactMarksOf", inPlace := ["internal/reflectlite.TypeOf"], unfollowed := true, recurses := true, named := ["loop.example/g03007/impl.errNoSecret"], ifaces := true, apart := false, laid := [("loop.example/g03007/impl.errNoSecret", laid_loop_example_g03007_impl_errNoSecret)], narrowed := true }
def FnExactMarksOfUptoSaid : Prop := fnExactMarksOfUptoRow.holds Tryd.pinned (OpenSpec.upto fnExactMarksOfSpec)

/-- 'laws.FnExactSealOf', WHERE WHAT IT READS IS OF BULK AT MOST 1048576: true; the input reads as it did. -/
def fnExactSealOfUptoRow : OpenClaim := { program := "ytobofamoagbacaadoor", sum := "d2d9ea4945454fbfc8dd3c96ca7554f0dd26fe6899ffcd060f09ab7432e493c8", func := "loop.example/g03007/laws.FnExactSealOf", spec := "fnExactSealOf", inPlace := ["internal/reflectlite.TypeOf"], unfollowed := true, recurses := true, named := ["loop.example/g03007/impl.errNoSecret"], ifaces := true, apart := false, laid := [("loop.example/g03007/impl.errNoSecret", laid_loop_example_g03007_impl_errNoSecret)], narrowed := true }
def FnExactSealOfUptoSaid : Prop := fnExactSealOfUptoRow.holds Tryd.pinned (OpenSpec.upto fnExactSealOfSpec)

end Rows
end Go.Proofs.YtobofamoagbacaaDoor
