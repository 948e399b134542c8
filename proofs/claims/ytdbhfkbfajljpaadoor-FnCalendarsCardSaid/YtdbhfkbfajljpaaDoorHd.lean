/- What the header of this program says: a program that was cut out, with no leave taken. No condition. -/
import Derived.Test.YtdbhfkbfajljpaaDoorProg
import Derived.Test.YtdbhfkbfajljpaaDoorEngB
import Derived.KernelRfl
namespace Go.Proofs.YtdbhfkbfajljpaaDoor
open Go Go.Eng
def hdA : List Nat := [104, 97, 114, 110, 101, 115, 115]
def hdS : List Nat := [53, 98, 52, 101, 101, 102, 55, 51, 57, 97, 50, 100, 51, 53, 57, 56, 97, 57, 54, 55, 53, 99, 49, 101, 100, 97, 55, 48, 98, 48, 99, 55, 51, 53, 56, 50, 55, 57, 98, 53, 97, 101, 56, 97, 54, 53, 48, 98, 52, 56, 97, 50, 97, 97, 51, 101, 56, 50, 99, 57, 98, 100, 101, 53]
def hdR : List Nat := [97, 116, 32, 108, 111, 111, 112, 46, 101, 120, 97, 109, 112, 108, 101, 47, 103, 48, 51, 48, 48, 55, 47, 108, 97, 119, 115, 46, 70, 110, 67, 97, 108, 101, 110, 100, 97, 114, 115]
def hdL : List Nat := hdA ++ 32 :: (hdS ++ 32 :: (99 :: 117 :: 116 :: 32 :: hdR))
theorem hd_text : Tryd.prog.initOrder = String.ofList (hdL.map Char.ofNat) := by kernel_rfl
theorem hd_list : Tryd.prog.initOrder.toList = hdL.map Char.ofNat := by rw [hd_text]; exact String.toList_ofList
theorem hd_cut : behindMainWord (wordsSigns Tryd.prog.initOrder.toList) = "cut".toList :: wordsSigns (hdR.map Char.ofNat) := head_cut hdA hdS hdR hd_list rfl (by kernel_rfl) (by kernel_rfl) (by kernel_rfl)
theorem hd_enter : Tryd.prog.mayEnter = true := mayEnter_cut hd_cut (by kernel_rfl) (by kernel_rfl) (by kernel_rfl)
theorem hd_lifts : Tryd.prog.liftsFinal = false := liftsFinal_cut hd_cut
theorem hd_make : Tryd.prog.make = some .cut := make_cut hd_cut
end Go.Proofs.YtdbhfkbfajljpaaDoor
