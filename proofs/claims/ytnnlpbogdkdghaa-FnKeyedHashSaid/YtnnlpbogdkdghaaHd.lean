/- What the header of this program says: a program that was cut out, with no leave taken. No condition. -/
import Derived.Test.YtnnlpbogdkdghaaProg
import Derived.Test.YtnnlpbogdkdghaaEngB
import Derived.KernelRfl
namespace Go.Proofs.Ytnnlpbogdkdghaa
open Go Go.Eng
def hdA : List Nat := [104, 97, 114, 110, 101, 115, 115]
def hdS : List Nat := [50, 57, 97, 100, 48, 100, 55, 55, 53, 56, 50, 102, 52, 101, 53, 51, 102, 51, 100, 53, 53, 98, 55, 49, 55, 97, 100, 101, 100, 100, 55, 51, 55, 101, 53, 52, 49, 102, 56, 97, 57, 50, 52, 102, 51, 52, 55, 48, 102, 57, 49, 100, 52, 102, 102, 53, 101, 54, 57, 102, 57, 54, 56, 51]
def hdR : List Nat := [97, 116, 32, 108, 111, 111, 112, 46, 101, 120, 97, 109, 112, 108, 101, 47, 103, 48, 51, 48, 48, 55, 47, 108, 97, 119, 115, 46, 70, 110, 86, 97, 114, 105, 110, 116, 115, 32, 108, 111, 111, 112, 46, 101, 120, 97, 109, 112, 108, 101, 47, 103, 48, 51, 48, 48, 55, 47, 108, 97, 119, 115, 46, 70, 110, 66, 121, 116, 101, 83, 116, 114, 105, 110, 103, 115, 32, 108, 111, 111, 112, 46, 101, 120, 97, 109, 112, 108, 101, 47, 103, 48, 51, 48, 48, 55, 47, 108, 97, 119, 115, 46, 70, 110, 67, 105, 112, 104, 101, 114, 32, 108, 111, 111, 112, 46, 101, 120, 97, 109, 112, 108, 101, 47, 103, 48, 51, 48, 48, 55, 47, 108, 97, 119, 115, 46, 70, 110, 75, 101, 121, 101, 100, 72, 97, 115, 104]
def hdL : List Nat := hdA ++ 32 :: (hdS ++ 32 :: (99 :: 117 :: 116 :: 32 :: hdR))
theorem hd_text : Try.prog.initOrder = String.ofList (hdL.map Char.ofNat) := by kernel_rfl
theorem hd_list : Try.prog.initOrder.toList = hdL.map Char.ofNat := by rw [hd_text]; exact String.toList_ofList
theorem hd_cut : behindMainWord (wordsSigns Try.prog.initOrder.toList) = "cut".toList :: wordsSigns (hdR.map Char.ofNat) := head_cut hdA hdS hdR hd_list rfl (by kernel_rfl) (by kernel_rfl) (by kernel_rfl)
theorem hd_enter : Try.prog.mayEnter = true := mayEnter_cut hd_cut (by kernel_rfl) (by kernel_rfl) (by kernel_rfl)
theorem hd_lifts : Try.prog.liftsFinal = false := liftsFinal_cut hd_cut
theorem hd_make : Try.prog.make = some .cut := make_cut hd_cut
end Go.Proofs.Ytnnlpbogdkdghaa
