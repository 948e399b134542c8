/- What the header of this program says: a program that was cut out, with no leave taken. No condition. -/
import Derived.Test.YtojpebfoajeilaaDoorProg
import Derived.Test.YtojpebfoajeilaaDoorEngB
import Derived.KernelRfl
namespace Go.Proofs.YtojpebfoajeilaaDoor
open Go Go.Eng
def hdA : List Nat := [104, 97, 114, 110, 101, 115, 115]
def hdS : List Nat := [97, 102, 99, 50, 53, 97, 53, 50, 102, 53, 57, 49, 101, 51, 101, 50, 99, 54, 98, 55, 50, 49, 98, 56, 102, 102, 51, 49, 102, 97, 51, 54, 98, 98, 56, 51, 51, 99, 48, 53, 99, 52, 57, 49, 52, 99, 49, 98, 98, 56, 52, 97, 98, 100, 99, 52, 56, 100, 53, 51, 53, 48, 51, 53]
def hdR : List Nat := [97, 116, 32, 108, 111, 111, 112, 46, 101, 120, 97, 109, 112, 108, 101, 47, 103, 48, 51, 48, 48, 55, 47, 108, 97, 119, 115, 46, 70, 110, 84, 104, 105, 110, 103, 115]
def hdL : List Nat := hdA ++ 32 :: (hdS ++ 32 :: (99 :: 117 :: 116 :: 32 :: hdR))
theorem hd_text : Tryd.prog.initOrder = String.ofList (hdL.map Char.ofNat) := by kernel_rfl
theorem hd_list : Tryd.prog.initOrder.toList = hdL.map Char.ofNat := by rw [hd_text]; exact String.toList_ofList
theorem hd_cut : behindMainWord (wordsSigns Tryd.prog.initOrder.toList) = "cut".toList :: wordsSigns (hdR.map Char.ofNat) := head_cut hdA hdS hdR hd_list rfl (by kernel_rfl) (by kernel_rfl) (by kernel_rfl)
theorem hd_enter : Tryd.prog.mayEnter = true := mayEnter_cut hd_cut (by kernel_rfl) (by kernel_rfl) (by kernel_rfl)
theorem hd_lifts : Tryd.prog.liftsFinal = false := liftsFinal_cut hd_cut
theorem hd_make : Tryd.prog.make = some .cut := make_cut hd_cut
end Go.Proofs.YtojpebfoajeilaaDoor
