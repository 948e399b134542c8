/- What the header of this program says: a program that was cut out, with no leave taken. No condition. -/
import Derived.Test.YthckkminlonbeaaDoorProg
import Derived.Test.YthckkminlonbeaaDoorEngB
import Derived.KernelRfl
namespace Go.Proofs.YthckkminlonbeaaDoor
open Go Go.Eng
def hdA : List Nat := [104, 97, 114, 110, 101, 115, 115]
def hdS : List Nat := [52, 51, 99, 99, 97, 100, 48, 48, 49, 101, 97, 50, 56, 52, 97, 49, 97, 55, 54, 100, 102, 56, 56, 53, 56, 54, 98, 50, 54, 49, 100, 57, 99, 98, 53, 48, 55, 52, 52, 100, 98, 102, 49, 54, 101, 101, 53, 48, 53, 50, 50, 99, 49, 98, 101, 102, 48, 56, 52, 52, 55, 57, 53, 100]
def hdR : List Nat := [97, 116, 32, 108, 111, 111, 112, 46, 101, 120, 97, 109, 112, 108, 101, 47, 103, 48, 51, 48, 48, 55, 47, 108, 97, 119, 115, 46, 70, 110, 69, 120, 97, 99, 116, 70, 111, 114, 109, 97, 116, 72, 111, 117, 115, 101]
def hdL : List Nat := hdA ++ 32 :: (hdS ++ 32 :: (99 :: 117 :: 116 :: 32 :: hdR))
theorem hd_text : Tryd.prog.initOrder = String.ofList (hdL.map Char.ofNat) := by kernel_rfl
theorem hd_list : Tryd.prog.initOrder.toList = hdL.map Char.ofNat := by rw [hd_text]; exact String.toList_ofList
theorem hd_cut : behindMainWord (wordsSigns Tryd.prog.initOrder.toList) = "cut".toList :: wordsSigns (hdR.map Char.ofNat) := head_cut hdA hdS hdR hd_list rfl (by kernel_rfl) (by kernel_rfl) (by kernel_rfl)
theorem hd_enter : Tryd.prog.mayEnter = true := mayEnter_cut hd_cut (by kernel_rfl) (by kernel_rfl) (by kernel_rfl)
theorem hd_lifts : Tryd.prog.liftsFinal = false := liftsFinal_cut hd_cut
theorem hd_make : Tryd.prog.make = some .cut := make_cut hd_cut
end Go.Proofs.YthckkminlonbeaaDoor
