/- What the header of this program says: a program that was cut out, with no leave taken. No condition. -/
import Derived.Test.YtgpobkdgfmehnaaDoorProg
import Derived.Test.YtgpobkdgfmehnaaDoorEngB
import Derived.KernelRfl
namespace Go.Proofs.YtgpobkdgfmehnaaDoor
open Go Go.Eng
def hdA : List Nat := [104, 97, 114, 110, 101, 115, 115]
def hdS : List Nat := [57, 98, 53, 97, 48, 55, 54, 56, 51, 102, 55, 101, 49, 51, 98, 98, 54, 102, 55, 53, 50, 54, 48, 51, 50, 102, 100, 57, 51, 56, 98, 49, 50, 49, 55, 49, 54, 50, 53, 98, 100, 57, 53, 102, 53, 50, 52, 53, 100, 49, 98, 101, 102, 54, 100, 100, 51, 101, 56, 52, 51, 97, 102, 57]
def hdR : List Nat := [97, 116, 32, 108, 111, 111, 112, 46, 101, 120, 97, 109, 112, 108, 101, 47, 103, 48, 51, 48, 48, 55, 47, 108, 97, 119, 115, 46, 70, 110, 69, 120, 97, 99, 116, 70, 111, 114, 109, 97, 116, 67, 108, 97, 105, 109, 115]
def hdL : List Nat := hdA ++ 32 :: (hdS ++ 32 :: (99 :: 117 :: 116 :: 32 :: hdR))
theorem hd_text : Tryd.prog.initOrder = String.ofList (hdL.map Char.ofNat) := by kernel_rfl
theorem hd_list : Tryd.prog.initOrder.toList = hdL.map Char.ofNat := by rw [hd_text]; exact String.toList_ofList
theorem hd_cut : behindMainWord (wordsSigns Tryd.prog.initOrder.toList) = "cut".toList :: wordsSigns (hdR.map Char.ofNat) := head_cut hdA hdS hdR hd_list rfl (by kernel_rfl) (by kernel_rfl) (by kernel_rfl)
theorem hd_enter : Tryd.prog.mayEnter = true := mayEnter_cut hd_cut (by kernel_rfl) (by kernel_rfl) (by kernel_rfl)
theorem hd_lifts : Tryd.prog.liftsFinal = false := liftsFinal_cut hd_cut
theorem hd_make : Tryd.prog.make = some .cut := make_cut hd_cut
end Go.Proofs.YtgpobkdgfmehnaaDoor
