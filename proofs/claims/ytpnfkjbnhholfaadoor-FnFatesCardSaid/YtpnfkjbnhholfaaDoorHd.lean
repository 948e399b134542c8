/- What the header of this program says: a program that was cut out, with no leave taken. No condition. -/
import Derived.Test.YtpnfkjbnhholfaaDoorProg
import Derived.Test.YtpnfkjbnhholfaaDoorEngB
import Derived.KernelRfl
namespace Go.Proofs.YtpnfkjbnhholfaaDoor
open Go Go.Eng
def hdA : List Nat := [104, 97, 114, 110, 101, 115, 115]
def hdS : List Nat := [54, 102, 98, 56, 48, 54, 55, 98, 97, 49, 57, 56, 56, 100, 54, 53, 57, 53, 55, 50, 51, 57, 102, 52, 52, 48, 102, 55, 101, 51, 57, 57, 48, 55, 56, 49, 100, 57, 98, 51, 57, 99, 49, 55, 99, 98, 98, 55, 98, 102, 99, 98, 100, 102, 49, 102, 100, 101, 52, 51, 101, 50, 49, 50]
def hdR : List Nat := [97, 116, 32, 108, 111, 111, 112, 46, 101, 120, 97, 109, 112, 108, 101, 47, 103, 48, 51, 48, 48, 55, 47, 108, 97, 119, 115, 46, 70, 110, 75, 101, 112, 116, 32, 108, 111, 111, 112, 46, 101, 120, 97, 109, 112, 108, 101, 47, 103, 48, 51, 48, 48, 55, 47, 108, 97, 119, 115, 46, 70, 110, 70, 97, 116, 101, 115]
def hdL : List Nat := hdA ++ 32 :: (hdS ++ 32 :: (99 :: 117 :: 116 :: 32 :: hdR))
theorem hd_text : Tryd.prog.initOrder = String.ofList (hdL.map Char.ofNat) := by kernel_rfl
theorem hd_list : Tryd.prog.initOrder.toList = hdL.map Char.ofNat := by rw [hd_text]; exact String.toList_ofList
theorem hd_cut : behindMainWord (wordsSigns Tryd.prog.initOrder.toList) = "cut".toList :: wordsSigns (hdR.map Char.ofNat) := head_cut hdA hdS hdR hd_list rfl (by kernel_rfl) (by kernel_rfl) (by kernel_rfl)
theorem hd_enter : Tryd.prog.mayEnter = true := mayEnter_cut hd_cut (by kernel_rfl) (by kernel_rfl) (by kernel_rfl)
theorem hd_lifts : Tryd.prog.liftsFinal = false := liftsFinal_cut hd_cut
theorem hd_make : Tryd.prog.make = some .cut := make_cut hd_cut
end Go.Proofs.YtpnfkjbnhholfaaDoor
