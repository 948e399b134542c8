/- What the header of this program says: a program that was cut out, with no leave taken. No condition. -/
import Derived.Test.YtanmlliijcpdjaaProg
import Derived.Test.YtanmlliijcpdjaaEngB
import Derived.KernelRfl
namespace Go.Proofs.Ytanmlliijcpdjaa
open Go Go.Eng
def hdA : List Nat := [104, 97, 114, 110, 101, 115, 115]
def hdS : List Nat := [101, 56, 97, 53, 50, 57, 97, 54, 98, 100, 52, 99, 57, 101, 52, 51, 57, 98, 56, 55, 99, 52, 53, 49, 97, 102, 99, 98, 99, 57, 48, 52, 48, 50, 54, 51, 99, 49, 54, 49, 101, 53, 53, 57, 102, 101, 102, 99, 53, 98, 50, 48, 102, 57, 49, 50, 101, 102, 101, 48, 48, 100, 56, 98]
def hdR : List Nat := [97, 116, 32, 108, 111, 111, 112, 46, 101, 120, 97, 109, 112, 108, 101, 47, 103, 48, 51, 48, 48, 55, 47, 108, 97, 119, 115, 46, 70, 110, 77, 111, 110, 101, 121]
def hdL : List Nat := hdA ++ 32 :: (hdS ++ 32 :: (99 :: 117 :: 116 :: 32 :: hdR))
theorem hd_text : Try.prog.initOrder = String.ofList (hdL.map Char.ofNat) := by kernel_rfl
theorem hd_list : Try.prog.initOrder.toList = hdL.map Char.ofNat := by rw [hd_text]; exact String.toList_ofList
theorem hd_cut : behindMainWord (wordsSigns Try.prog.initOrder.toList) = "cut".toList :: wordsSigns (hdR.map Char.ofNat) := head_cut hdA hdS hdR hd_list rfl (by kernel_rfl) (by kernel_rfl) (by kernel_rfl)
theorem hd_enter : Try.prog.mayEnter = true := mayEnter_cut hd_cut (by kernel_rfl) (by kernel_rfl) (by kernel_rfl)
theorem hd_lifts : Try.prog.liftsFinal = false := liftsFinal_cut hd_cut
theorem hd_make : Try.prog.make = some .cut := make_cut hd_cut
end Go.Proofs.Ytanmlliijcpdjaa
