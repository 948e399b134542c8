/- What the header of this program says: a program that was cut out, with no leave taken. No condition. -/
import Derived.Test.YtallgbanohpbbaaProg
import Derived.Test.YtallgbanohpbbaaEngB
import Derived.KernelRfl
namespace Go.Proofs.Ytallgbanohpbbaa
open Go Go.Eng
def hdA : List Nat := [104, 97, 114, 110, 101, 115, 115]
def hdS : List Nat := [50, 51, 98, 48, 99, 48, 98, 98, 49, 49, 52, 99, 48, 53, 50, 56, 55, 97, 101, 52, 48, 51, 57, 99, 100, 57, 49, 50, 48, 97, 52, 51, 49, 99, 54, 52, 98, 100, 49, 100, 97, 56, 100, 102, 101, 102, 99, 57, 50, 102, 50, 102, 97, 53, 50, 53, 54, 50, 50, 51, 57, 101, 102, 53]
def hdR : List Nat := [97, 116, 32, 108, 111, 111, 112, 46, 101, 120, 97, 109, 112, 108, 101, 47, 103, 48, 51, 48, 48, 55, 47, 108, 97, 119, 115, 46, 70, 110, 69, 120, 97, 99, 116, 82, 101, 109, 101, 109, 98, 101, 114, 32, 108, 111, 111, 112, 46, 101, 120, 97, 109, 112, 108, 101, 47, 103, 48, 51, 48, 48, 55, 47, 108, 97, 119, 115, 46, 70, 110, 69, 120, 97, 99, 116, 83, 104, 97, 114, 112, 101, 110]
def hdL : List Nat := hdA ++ 32 :: (hdS ++ 32 :: (99 :: 117 :: 116 :: 32 :: hdR))
theorem hd_text : Try.prog.initOrder = String.ofList (hdL.map Char.ofNat) := by kernel_rfl
theorem hd_list : Try.prog.initOrder.toList = hdL.map Char.ofNat := by rw [hd_text]; exact String.toList_ofList
theorem hd_cut : behindMainWord (wordsSigns Try.prog.initOrder.toList) = "cut".toList :: wordsSigns (hdR.map Char.ofNat) := head_cut hdA hdS hdR hd_list rfl (by kernel_rfl) (by kernel_rfl) (by kernel_rfl)
theorem hd_enter : Try.prog.mayEnter = true := mayEnter_cut hd_cut (by kernel_rfl) (by kernel_rfl) (by kernel_rfl)
theorem hd_lifts : Try.prog.liftsFinal = false := liftsFinal_cut hd_cut
theorem hd_make : Try.prog.make = some .cut := make_cut hd_cut
end Go.Proofs.Ytallgbanohpbbaa
