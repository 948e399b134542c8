/- What the header of this program says: a program that was cut out, with no leave taken. No condition. -/
import Derived.Test.YtedjdbncmmjmmaaProg
import Derived.Test.YtedjdbncmmjmmaaEngB
import Derived.KernelRfl
namespace Go.Proofs.Ytedjdbncmmjmmaa
open Go Go.Eng
def hdA : List Nat := [104, 97, 114, 110, 101, 115, 115]
def hdS : List Nat := [101, 99, 56, 53, 98, 51, 50, 54, 49, 99, 99, 51, 101, 97, 48, 50, 54, 48, 56, 51, 57, 100, 49, 53, 48, 55, 101, 56, 49, 57, 57, 49, 99, 51, 52, 100, 97, 55, 51, 97, 50, 51, 102, 49, 52, 56, 97, 49, 48, 102, 97, 51, 56, 100, 99, 52, 55, 101, 49, 101, 101, 54, 53, 99]
def hdR : List Nat := [97, 116, 32, 108, 111, 111, 112, 46, 101, 120, 97, 109, 112, 108, 101, 47, 103, 48, 51, 48, 48, 55, 47, 108, 97, 119, 115, 46, 70, 110, 69, 120, 97, 99, 116, 75, 105, 110, 100, 79, 102]
def hdL : List Nat := hdA ++ 32 :: (hdS ++ 32 :: (99 :: 117 :: 116 :: 32 :: hdR))
theorem hd_text : Try.prog.initOrder = String.ofList (hdL.map Char.ofNat) := by kernel_rfl
theorem hd_list : Try.prog.initOrder.toList = hdL.map Char.ofNat := by rw [hd_text]; exact String.toList_ofList
theorem hd_cut : behindMainWord (wordsSigns Try.prog.initOrder.toList) = "cut".toList :: wordsSigns (hdR.map Char.ofNat) := head_cut hdA hdS hdR hd_list rfl (by kernel_rfl) (by kernel_rfl) (by kernel_rfl)
theorem hd_enter : Try.prog.mayEnter = true := mayEnter_cut hd_cut (by kernel_rfl) (by kernel_rfl) (by kernel_rfl)
theorem hd_lifts : Try.prog.liftsFinal = false := liftsFinal_cut hd_cut
theorem hd_make : Try.prog.make = some .cut := make_cut hd_cut
end Go.Proofs.Ytedjdbncmmjmmaa
