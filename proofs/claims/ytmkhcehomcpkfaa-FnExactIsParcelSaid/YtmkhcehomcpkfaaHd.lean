/- What the header of this program says: a program that was cut out, with no leave taken. No condition. -/
import Derived.Test.YtmkhcehomcpkfaaProg
import Derived.Test.YtmkhcehomcpkfaaEngB
import Derived.KernelRfl
namespace Go.Proofs.Ytmkhcehomcpkfaa
open Go Go.Eng
def hdA : List Nat := [104, 97, 114, 110, 101, 115, 115]
def hdS : List Nat := [54, 55, 48, 55, 98, 101, 49, 54, 97, 54, 101, 100, 51, 51, 102, 53, 97, 53, 53, 101, 97, 98, 54, 53, 52, 98, 99, 53, 52, 48, 98, 101, 51, 49, 50, 50, 48, 100, 50, 57, 101, 52, 57, 54, 51, 57, 55, 100, 50, 54, 55, 100, 52, 57, 49, 98, 49, 54, 57, 51, 99, 51, 99, 51]
def hdR : List Nat := [97, 116, 32, 108, 111, 111, 112, 46, 101, 120, 97, 109, 112, 108, 101, 47, 103, 48, 51, 48, 48, 55, 47, 108, 97, 119, 115, 46, 70, 110, 69, 120, 97, 99, 116, 73, 115, 80, 97, 114, 99, 101, 108]
def hdL : List Nat := hdA ++ 32 :: (hdS ++ 32 :: (99 :: 117 :: 116 :: 32 :: hdR))
theorem hd_text : Try.prog.initOrder = String.ofList (hdL.map Char.ofNat) := by kernel_rfl
theorem hd_list : Try.prog.initOrder.toList = hdL.map Char.ofNat := by rw [hd_text]; exact String.toList_ofList
theorem hd_cut : behindMainWord (wordsSigns Try.prog.initOrder.toList) = "cut".toList :: wordsSigns (hdR.map Char.ofNat) := head_cut hdA hdS hdR hd_list rfl (by kernel_rfl) (by kernel_rfl) (by kernel_rfl)
theorem hd_enter : Try.prog.mayEnter = true := mayEnter_cut hd_cut (by kernel_rfl) (by kernel_rfl) (by kernel_rfl)
theorem hd_lifts : Try.prog.liftsFinal = false := liftsFinal_cut hd_cut
theorem hd_make : Try.prog.make = some .cut := make_cut hd_cut
end Go.Proofs.Ytmkhcehomcpkfaa
