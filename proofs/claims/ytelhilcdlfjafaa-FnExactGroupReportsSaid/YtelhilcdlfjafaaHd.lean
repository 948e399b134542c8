/- What the header of this program says: a program that was cut out, with no leave taken. No condition. -/
import Derived.Test.YtelhilcdlfjafaaProg
import Derived.Test.YtelhilcdlfjafaaEngB
import Derived.KernelRfl
namespace Go.Proofs.Ytelhilcdlfjafaa
open Go Go.Eng
def hdA : List Nat := [104, 97, 114, 110, 101, 115, 115]
def hdS : List Nat := [52, 48, 101, 51, 101, 51, 98, 98, 53, 53, 100, 48, 57, 98, 53, 49, 55, 48, 102, 49, 49, 55, 101, 98, 98, 49, 57, 48, 57, 51, 54, 102, 99, 56, 48, 100, 49, 51, 48, 48, 57, 50, 57, 99, 49, 101, 56, 99, 52, 101, 50, 52, 52, 48, 102, 52, 53, 51, 48, 53, 100, 56, 53, 51]
def hdR : List Nat := [97, 116, 32, 108, 111, 111, 112, 46, 101, 120, 97, 109, 112, 108, 101, 47, 103, 48, 51, 48, 48, 55, 47, 108, 97, 119, 115, 46, 70, 110, 69, 120, 97, 99, 116, 83, 97, 109, 101, 79, 119, 110, 101, 114, 32, 108, 111, 111, 112, 46, 101, 120, 97, 109, 112, 108, 101, 47, 103, 48, 51, 48, 48, 55, 47, 108, 97, 119, 115, 46, 70, 110, 69, 120, 97, 99, 116, 71, 114, 111, 117, 112, 82, 101, 112, 111, 114, 116, 115]
def hdL : List Nat := hdA ++ 32 :: (hdS ++ 32 :: (99 :: 117 :: 116 :: 32 :: hdR))
theorem hd_text : Try.prog.initOrder = String.ofList (hdL.map Char.ofNat) := by kernel_rfl
theorem hd_list : Try.prog.initOrder.toList = hdL.map Char.ofNat := by rw [hd_text]; exact String.toList_ofList
theorem hd_cut : behindMainWord (wordsSigns Try.prog.initOrder.toList) = "cut".toList :: wordsSigns (hdR.map Char.ofNat) := head_cut hdA hdS hdR hd_list rfl (by kernel_rfl) (by kernel_rfl) (by kernel_rfl)
theorem hd_enter : Try.prog.mayEnter = true := mayEnter_cut hd_cut (by kernel_rfl) (by kernel_rfl) (by kernel_rfl)
theorem hd_lifts : Try.prog.liftsFinal = false := liftsFinal_cut hd_cut
theorem hd_make : Try.prog.make = some .cut := make_cut hd_cut
end Go.Proofs.Ytelhilcdlfjafaa
