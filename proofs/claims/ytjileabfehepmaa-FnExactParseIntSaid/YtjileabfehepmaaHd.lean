/- What the header of this program says: a program that was cut out, with no leave taken. No condition. -/
import Derived.Test.YtjileabfehepmaaProg
import Derived.Test.YtjileabfehepmaaEngB
import Derived.KernelRfl
namespace Go.Proofs.Ytjileabfehepmaa
open Go Go.Eng
def hdA : List Nat := [104, 97, 114, 110, 101, 115, 115]
def hdS : List Nat := [50, 101, 57, 56, 56, 53, 51, 56, 101, 99, 98, 53, 97, 57, 101, 48, 54, 53, 53, 102, 100, 97, 49, 101, 50, 102, 50, 97, 53, 98, 48, 99, 57, 52, 54, 52, 50, 52, 56, 50, 101, 53, 51, 57, 98, 51, 50, 54, 97, 57, 99, 101, 50, 52, 55, 102, 49, 50, 101, 97, 102, 52, 49, 50]
def hdR : List Nat := [97, 116, 32, 108, 111, 111, 112, 46, 101, 120, 97, 109, 112, 108, 101, 47, 103, 48, 51, 48, 48, 55, 47, 108, 97, 119, 115, 46, 70, 110, 69, 120, 97, 99, 116, 80, 97, 114, 115, 101, 73, 110, 116]
def hdL : List Nat := hdA ++ 32 :: (hdS ++ 32 :: (99 :: 117 :: 116 :: 32 :: hdR))
theorem hd_text : Try.prog.initOrder = String.ofList (hdL.map Char.ofNat) := by kernel_rfl
theorem hd_list : Try.prog.initOrder.toList = hdL.map Char.ofNat := by rw [hd_text]; exact String.toList_ofList
theorem hd_cut : behindMainWord (wordsSigns Try.prog.initOrder.toList) = "cut".toList :: wordsSigns (hdR.map Char.ofNat) := head_cut hdA hdS hdR hd_list rfl (by kernel_rfl) (by kernel_rfl) (by kernel_rfl)
theorem hd_enter : Try.prog.mayEnter = true := mayEnter_cut hd_cut (by kernel_rfl) (by kernel_rfl) (by kernel_rfl)
theorem hd_lifts : Try.prog.liftsFinal = false := liftsFinal_cut hd_cut
theorem hd_make : Try.prog.make = some .cut := make_cut hd_cut
end Go.Proofs.Ytjileabfehepmaa
