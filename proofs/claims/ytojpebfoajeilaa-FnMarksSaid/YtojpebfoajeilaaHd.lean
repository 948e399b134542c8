/- What the header of this program says: a program that was cut out, with no leave taken. No condition. -/
import Derived.Test.YtojpebfoajeilaaProg
import Derived.Test.YtojpebfoajeilaaEngB
import Derived.KernelRfl
namespace Go.Proofs.Ytojpebfoajeilaa
open Go Go.Eng
def hdA : List Nat := [104, 97, 114, 110, 101, 115, 115]
def hdS : List Nat := [55, 56, 97, 52, 54, 52, 55, 50, 56, 101, 48, 49, 51, 55, 52, 56, 48, 54, 99, 102, 97, 54, 53, 50, 52, 52, 51, 100, 52, 100, 101, 55, 49, 49, 99, 102, 98, 50, 98, 101, 50, 51, 57, 56, 101, 99, 54, 102, 98, 50, 54, 52, 50, 53, 102, 98, 102, 49, 52, 48, 53, 98, 54, 53]
def hdR : List Nat := [97, 116, 32, 108, 111, 111, 112, 46, 101, 120, 97, 109, 112, 108, 101, 47, 103, 48, 51, 48, 48, 55, 47, 108, 97, 119, 115, 46, 70, 110, 83, 112, 97, 110, 115, 32, 108, 111, 111, 112, 46, 101, 120, 97, 109, 112, 108, 101, 47, 103, 48, 51, 48, 48, 55, 47, 108, 97, 119, 115, 46, 70, 110, 77, 97, 114, 107, 115]
def hdL : List Nat := hdA ++ 32 :: (hdS ++ 32 :: (99 :: 117 :: 116 :: 32 :: hdR))
theorem hd_text : Try.prog.initOrder = String.ofList (hdL.map Char.ofNat) := by kernel_rfl
theorem hd_list : Try.prog.initOrder.toList = hdL.map Char.ofNat := by rw [hd_text]; exact String.toList_ofList
theorem hd_cut : behindMainWord (wordsSigns Try.prog.initOrder.toList) = "cut".toList :: wordsSigns (hdR.map Char.ofNat) := head_cut hdA hdS hdR hd_list rfl (by kernel_rfl) (by kernel_rfl) (by kernel_rfl)
theorem hd_enter : Try.prog.mayEnter = true := mayEnter_cut hd_cut (by kernel_rfl) (by kernel_rfl) (by kernel_rfl)
theorem hd_lifts : Try.prog.liftsFinal = false := liftsFinal_cut hd_cut
theorem hd_make : Try.prog.make = some .cut := make_cut hd_cut
end Go.Proofs.Ytojpebfoajeilaa
