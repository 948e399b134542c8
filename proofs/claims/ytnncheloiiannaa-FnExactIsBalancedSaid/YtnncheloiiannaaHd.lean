/- What the header of this program says: a program that was cut out, with no leave taken. No condition. -/
import Derived.Test.YtnncheloiiannaaProg
import Derived.Test.YtnncheloiiannaaEngB
import Derived.KernelRfl
namespace Go.Proofs.Ytnncheloiiannaa
open Go Go.Eng
def hdA : List Nat := [104, 97, 114, 110, 101, 115, 115]
def hdS : List Nat := [97, 98, 98, 55, 52, 98, 57, 52, 101, 99, 100, 48, 98, 52, 99, 99, 101, 102, 57, 51, 102, 97, 48, 51, 55, 101, 102, 48, 51, 51, 98, 98, 55, 99, 97, 49, 53, 98, 98, 102, 101, 101, 54, 50, 101, 55, 99, 100, 48, 99, 99, 102, 57, 101, 102, 54, 57, 97, 53, 50, 48, 50, 99, 56]
def hdR : List Nat := [97, 116, 32, 108, 111, 111, 112, 46, 101, 120, 97, 109, 112, 108, 101, 47, 103, 48, 51, 48, 48, 55, 47, 108, 97, 119, 115, 46, 70, 110, 69, 120, 97, 99, 116, 73, 115, 66, 97, 108, 97, 110, 99, 101, 100]
def hdL : List Nat := hdA ++ 32 :: (hdS ++ 32 :: (99 :: 117 :: 116 :: 32 :: hdR))
theorem hd_text : Try.prog.initOrder = String.ofList (hdL.map Char.ofNat) := by kernel_rfl
theorem hd_list : Try.prog.initOrder.toList = hdL.map Char.ofNat := by rw [hd_text]; exact String.toList_ofList
theorem hd_cut : behindMainWord (wordsSigns Try.prog.initOrder.toList) = "cut".toList :: wordsSigns (hdR.map Char.ofNat) := head_cut hdA hdS hdR hd_list rfl (by kernel_rfl) (by kernel_rfl) (by kernel_rfl)
theorem hd_enter : Try.prog.mayEnter = true := mayEnter_cut hd_cut (by kernel_rfl) (by kernel_rfl) (by kernel_rfl)
theorem hd_lifts : Try.prog.liftsFinal = false := liftsFinal_cut hd_cut
theorem hd_make : Try.prog.make = some .cut := make_cut hd_cut
end Go.Proofs.Ytnncheloiiannaa
