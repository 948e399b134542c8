/- What the header of this program says: a program that was cut out, with no leave taken. No condition. -/
import Derived.Test.YtlnllkffifeggaaProg
import Derived.Test.YtlnllkffifeggaaEngB
import Derived.KernelRfl
namespace Go.Proofs.Ytlnllkffifeggaa
open Go Go.Eng
def hdA : List Nat := [104, 97, 114, 110, 101, 115, 115]
def hdS : List Nat := [102, 55, 49, 50, 99, 98, 57, 50, 53, 97, 51, 48, 53, 51, 57, 52, 49, 53, 100, 99, 100, 98, 57, 102, 54, 97, 98, 52, 54, 98, 102, 102, 53, 98, 97, 97, 99, 102, 102, 98, 55, 52, 97, 99, 100, 53, 101, 53, 48, 51, 97, 101, 48, 51, 53, 50, 52, 52, 52, 51, 53, 54, 50, 52]
def hdR : List Nat := [97, 116, 32, 108, 111, 111, 112, 46, 101, 120, 97, 109, 112, 108, 101, 47, 103, 48, 51, 48, 48, 55, 47, 108, 97, 119, 115, 46, 70, 110, 69, 120, 97, 99, 116, 83, 101, 110, 100, 80, 97, 114, 99, 101, 108]
def hdL : List Nat := hdA ++ 32 :: (hdS ++ 32 :: (99 :: 117 :: 116 :: 32 :: hdR))
theorem hd_text : Try.prog.initOrder = String.ofList (hdL.map Char.ofNat) := by kernel_rfl
theorem hd_list : Try.prog.initOrder.toList = hdL.map Char.ofNat := by rw [hd_text]; exact String.toList_ofList
theorem hd_cut : behindMainWord (wordsSigns Try.prog.initOrder.toList) = "cut".toList :: wordsSigns (hdR.map Char.ofNat) := head_cut hdA hdS hdR hd_list rfl (by kernel_rfl) (by kernel_rfl) (by kernel_rfl)
theorem hd_enter : Try.prog.mayEnter = true := mayEnter_cut hd_cut (by kernel_rfl) (by kernel_rfl) (by kernel_rfl)
theorem hd_lifts : Try.prog.liftsFinal = false := liftsFinal_cut hd_cut
theorem hd_make : Try.prog.make = some .cut := make_cut hd_cut
end Go.Proofs.Ytlnllkffifeggaa
