/- What the header of this program says: a program that was cut out, with no leave taken. No condition. -/
import Derived.Test.YtpngkfpgmpgmdaaProg
import Derived.Test.YtpngkfpgmpgmdaaEngB
import Derived.KernelRfl
namespace Go.Proofs.Ytpngkfpgmpgmdaa
open Go Go.Eng
def hdA : List Nat := [104, 97, 114, 110, 101, 115, 115]
def hdS : List Nat := [100, 49, 101, 54, 51, 51, 53, 101, 101, 50, 57, 102, 52, 101, 53, 52, 54, 49, 57, 102, 101, 49, 100, 102, 52, 100, 49, 49, 52, 50, 97, 48, 97, 51, 101, 101, 53, 101, 101, 57, 51, 100, 56, 53, 57, 100, 50, 50, 100, 51, 98, 99, 53, 48, 54, 48, 53, 102, 99, 50, 101, 102, 54, 99]
def hdR : List Nat := [97, 116, 32, 108, 111, 111, 112, 46, 101, 120, 97, 109, 112, 108, 101, 47, 103, 48, 51, 48, 48, 55, 47, 108, 97, 119, 115, 46, 70, 110, 69, 120, 97, 99, 116, 66, 117, 115, 105, 101, 115, 116, 80, 108, 97, 99, 101]
def hdL : List Nat := hdA ++ 32 :: (hdS ++ 32 :: (99 :: 117 :: 116 :: 32 :: hdR))
theorem hd_text : Try.prog.initOrder = String.ofList (hdL.map Char.ofNat) := by kernel_rfl
theorem hd_list : Try.prog.initOrder.toList = hdL.map Char.ofNat := by rw [hd_text]; exact String.toList_ofList
theorem hd_cut : behindMainWord (wordsSigns Try.prog.initOrder.toList) = "cut".toList :: wordsSigns (hdR.map Char.ofNat) := head_cut hdA hdS hdR hd_list rfl (by kernel_rfl) (by kernel_rfl) (by kernel_rfl)
theorem hd_enter : Try.prog.mayEnter = true := mayEnter_cut hd_cut (by kernel_rfl) (by kernel_rfl) (by kernel_rfl)
theorem hd_lifts : Try.prog.liftsFinal = false := liftsFinal_cut hd_cut
theorem hd_make : Try.prog.make = some .cut := make_cut hd_cut
end Go.Proofs.Ytpngkfpgmpgmdaa
