/- What the header of this program says: a program that was cut out, with no leave taken. No condition. -/
import Derived.Test.YtfmbfemojnohcaaDoorProg
import Derived.Test.YtfmbfemojnohcaaDoorEngB
import Derived.KernelRfl
namespace Go.Proofs.YtfmbfemojnohcaaDoor
open Go Go.Eng
def hdA : List Nat := [104, 97, 114, 110, 101, 115, 115]
def hdS : List Nat := [50, 56, 56, 98, 101, 102, 50, 48, 52, 99, 55, 57, 98, 98, 57, 51, 52, 57, 101, 99, 52, 55, 97, 102, 100, 56, 52, 53, 50, 52, 97, 97, 57, 54, 57, 54, 52, 99, 102, 55, 53, 102, 48, 54, 49, 55, 51, 101, 101, 97, 48, 56, 57, 55, 102, 52, 53, 102, 57, 55, 55, 49, 55, 57]
def hdR : List Nat := [97, 116, 32, 108, 111, 111, 112, 46, 101, 120, 97, 109, 112, 108, 101, 47, 103, 48, 51, 48, 48, 55, 47, 108, 97, 119, 115, 46, 70, 110, 69, 120, 97, 99, 116, 73, 115, 78, 101, 118, 101, 114, 69, 97, 114, 108, 121]
def hdL : List Nat := hdA ++ 32 :: (hdS ++ 32 :: (99 :: 117 :: 116 :: 32 :: hdR))
theorem hd_text : Tryd.prog.initOrder = String.ofList (hdL.map Char.ofNat) := by kernel_rfl
theorem hd_list : Tryd.prog.initOrder.toList = hdL.map Char.ofNat := by rw [hd_text]; exact String.toList_ofList
theorem hd_cut : behindMainWord (wordsSigns Tryd.prog.initOrder.toList) = "cut".toList :: wordsSigns (hdR.map Char.ofNat) := head_cut hdA hdS hdR hd_list rfl (by kernel_rfl) (by kernel_rfl) (by kernel_rfl)
theorem hd_enter : Tryd.prog.mayEnter = true := mayEnter_cut hd_cut (by kernel_rfl) (by kernel_rfl) (by kernel_rfl)
theorem hd_lifts : Tryd.prog.liftsFinal = false := liftsFinal_cut hd_cut
theorem hd_make : Tryd.prog.make = some .cut := make_cut hd_cut
end Go.Proofs.YtfmbfemojnohcaaDoor
