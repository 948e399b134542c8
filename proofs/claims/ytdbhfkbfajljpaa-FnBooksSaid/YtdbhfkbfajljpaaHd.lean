/- What the header of this program says: a program that was cut out, with no leave taken. No condition. -/
import Derived.Test.YtdbhfkbfajljpaaProg
import Derived.Test.YtdbhfkbfajljpaaEngB
import Derived.KernelRfl
namespace Go.Proofs.Ytdbhfkbfajljpaa
open Go Go.Eng
def hdA : List Nat := [104, 97, 114, 110, 101, 115, 115]
def hdS : List Nat := [49, 97, 54, 50, 53, 102, 51, 54, 53, 54, 48, 54, 51, 97, 100, 100, 102, 102, 56, 57, 50, 98, 53, 100, 98, 100, 97, 55, 50, 53, 49, 97, 50, 102, 101, 97, 100, 50, 51, 53, 52, 48, 102, 57, 50, 55, 50, 100, 102, 98, 102, 101, 55, 56, 53, 56, 99, 99, 52, 48, 101, 55, 101, 56]
def hdR : List Nat := [97, 116, 32, 108, 111, 111, 112, 46, 101, 120, 97, 109, 112, 108, 101, 47, 103, 48, 51, 48, 48, 55, 47, 108, 97, 119, 115, 46, 70, 110, 86, 97, 114, 105, 110, 116, 115, 32, 108, 111, 111, 112, 46, 101, 120, 97, 109, 112, 108, 101, 47, 103, 48, 51, 48, 48, 55, 47, 108, 97, 119, 115, 46, 70, 110, 66, 121, 116, 101, 83, 116, 114, 105, 110, 103, 115, 32, 108, 111, 111, 112, 46, 101, 120, 97, 109, 112, 108, 101, 47, 103, 48, 51, 48, 48, 55, 47, 108, 97, 119, 115, 46, 70, 110, 66, 111, 111, 107, 115]
def hdL : List Nat := hdA ++ 32 :: (hdS ++ 32 :: (99 :: 117 :: 116 :: 32 :: hdR))
theorem hd_text : Try.prog.initOrder = String.ofList (hdL.map Char.ofNat) := by kernel_rfl
theorem hd_list : Try.prog.initOrder.toList = hdL.map Char.ofNat := by rw [hd_text]; exact String.toList_ofList
theorem hd_cut : behindMainWord (wordsSigns Try.prog.initOrder.toList) = "cut".toList :: wordsSigns (hdR.map Char.ofNat) := head_cut hdA hdS hdR hd_list rfl (by kernel_rfl) (by kernel_rfl) (by kernel_rfl)
theorem hd_enter : Try.prog.mayEnter = true := mayEnter_cut hd_cut (by kernel_rfl) (by kernel_rfl) (by kernel_rfl)
theorem hd_lifts : Try.prog.liftsFinal = false := liftsFinal_cut hd_cut
theorem hd_make : Try.prog.make = some .cut := make_cut hd_cut
end Go.Proofs.Ytdbhfkbfajljpaa
