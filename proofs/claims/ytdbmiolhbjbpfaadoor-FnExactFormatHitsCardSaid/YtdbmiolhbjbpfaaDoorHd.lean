/- What the header of this program says: a program that was cut out, with no leave taken. No condition. -/
import Derived.Test.YtdbmiolhbjbpfaaDoorProg
import Derived.Test.YtdbmiolhbjbpfaaDoorEngB
import Derived.KernelRfl
namespace Go.Proofs.YtdbmiolhbjbpfaaDoor
open Go Go.Eng
def hdA : List Nat := [104, 97, 114, 110, 101, 115, 115]
def hdS : List Nat := [101, 57, 49, 99, 101, 99, 49, 54, 101, 98, 55, 52, 50, 101, 53, 102, 102, 54, 53, 51, 98, 101, 51, 48, 52, 52, 54, 101, 102, 100, 50, 48, 102, 48, 55, 48, 55, 98, 57, 97, 52, 56, 48, 57, 49, 100, 50, 53, 50, 99, 101, 99, 49, 49, 101, 98, 54, 50, 52, 97, 55, 51, 55, 53]
def hdR : List Nat := [97, 116, 32, 108, 111, 111, 112, 46, 101, 120, 97, 109, 112, 108, 101, 47, 103, 48, 51, 48, 48, 55, 47, 108, 97, 119, 115, 46, 70, 110, 69, 120, 97, 99, 116, 70, 111, 114, 109, 97, 116, 78, 117, 109, 98, 101, 114, 115, 32, 108, 111, 111, 112, 46, 101, 120, 97, 109, 112, 108, 101, 47, 103, 48, 51, 48, 48, 55, 47, 108, 97, 119, 115, 46, 70, 110, 69, 120, 97, 99, 116, 70, 111, 114, 109, 97, 116, 83, 108, 111, 116, 115, 32, 108, 111, 111, 112, 46, 101, 120, 97, 109, 112, 108, 101, 47, 103, 48, 51, 48, 48, 55, 47, 108, 97, 119, 115, 46, 70, 110, 69, 120, 97, 99, 116, 70, 111, 114, 109, 97, 116, 67, 108, 97, 105, 109, 115, 32, 108, 111, 111, 112, 46, 101, 120, 97, 109, 112, 108, 101, 47, 103, 48, 51, 48, 48, 55, 47, 108, 97, 119, 115, 46, 70, 110, 69, 120, 97, 99, 116, 70, 111, 114, 109, 97, 116, 72, 105, 116, 115]
def hdL : List Nat := hdA ++ 32 :: (hdS ++ 32 :: (99 :: 117 :: 116 :: 32 :: hdR))
theorem hd_text : Tryd.prog.initOrder = String.ofList (hdL.map Char.ofNat) := by kernel_rfl
theorem hd_list : Tryd.prog.initOrder.toList = hdL.map Char.ofNat := by rw [hd_text]; exact String.toList_ofList
theorem hd_cut : behindMainWord (wordsSigns Tryd.prog.initOrder.toList) = "cut".toList :: wordsSigns (hdR.map Char.ofNat) := head_cut hdA hdS hdR hd_list rfl (by kernel_rfl) (by kernel_rfl) (by kernel_rfl)
theorem hd_enter : Tryd.prog.mayEnter = true := mayEnter_cut hd_cut (by kernel_rfl) (by kernel_rfl) (by kernel_rfl)
theorem hd_lifts : Tryd.prog.liftsFinal = false := liftsFinal_cut hd_cut
theorem hd_make : Tryd.prog.make = some .cut := make_cut hd_cut
end Go.Proofs.YtdbmiolhbjbpfaaDoor
