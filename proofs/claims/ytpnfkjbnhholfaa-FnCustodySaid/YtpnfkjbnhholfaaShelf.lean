/- Contracts of the library that hold of this program: its numbers, and that its bodies are those which the contracts were proved of. -/
import Derived.Shelf.Slices.In.SortNone
import Derived.Shelf.Sort.Plain
import Derived.Test.YtpnfkjbnhholfaaProg
namespace Go.Proofs
open Go.Shelf
def Try.lays189_ren : Go.Shelf.Ren := ⟨fun | 189 => 132 | 125 => 180 | 257 => 179 | 128 => 217 | 129 => 218 | 294 => 209 | 295 => 210 | 296 => 211 | 297 => 212 | 298 => 213 | 299 => 214 | 216 => 157 | 300 => 215 | 301 => 216 | 328 => 231 | 329 => 232 | 330 => 233 | 331 => 234 | 332 => 235 | 215 => 199 | 343 => 240 | n => n, fun | 28 => 36 | 3 => 3 | 46 => 239 | 0 => 0 | 51 => 263 | 53 => 265 | 4 => 4 | 183 => 257 | 182 => 256 | 131 => 156 | 5 => 5 | 9 => 9 | 218 => 269 | 222 => 273 | 228 => 280 | 229 => 97 | n => n, fun | n => n⟩
theorem Try.lays189 : Go.Proofs.Lays.n189 Try.prog Try.lays189_ren := {
  mixed := by kernel_rfl
  f125 := Try.func180.trans (congrArg some (by kernel_rfl))
  f128 := Try.func217.trans (congrArg some (by kernel_rfl))
  f129 := Try.func218.trans (congrArg some (by kernel_rfl))
  f189 := Try.func132.trans (congrArg some (by kernel_rfl))
  f215 := Try.func199.trans (congrArg some (by kernel_rfl))
  f216 := Try.func157.trans (congrArg some (by kernel_rfl))
  f257 := Try.func179.trans (congrArg some (by kernel_rfl))
  f294 := Try.func209.trans (congrArg some (by kernel_rfl))
  f295 := Try.func210.trans (congrArg some (by kernel_rfl))
  f296 := Try.func211.trans (congrArg some (by kernel_rfl))
  f297 := Try.func212.trans (congrArg some (by kernel_rfl))
  f298 := Try.func213.trans (congrArg some (by kernel_rfl))
  f299 := Try.func214.trans (congrArg some (by kernel_rfl))
  f300 := Try.func215.trans (congrArg some (by kernel_rfl))
  f301 := Try.func216.trans (congrArg some (by kernel_rfl))
  f328 := Try.func231.trans (congrArg some (by kernel_rfl))
  f329 := Try.func232.trans (congrArg some (by kernel_rfl))
  f330 := Try.func233.trans (congrArg some (by kernel_rfl))
  f331 := Try.func234.trans (congrArg some (by kernel_rfl))
  f332 := Try.func235.trans (congrArg some (by kernel_rfl))
  f343 := Try.func240.trans (congrArg some (by kernel_rfl))
  t0 := Try.underlying0
  a0 := Try.isAgg0
  z0 := Try.sizeOf0
  v0 := Try.zeroValue0
  t3 := Try.underlying3
  a3 := Try.isAgg3
  z3 := Try.sizeOf3
  v3 := Try.zeroValue3
  t4 := Try.underlying4
  a4 := Try.isAgg4
  z4 := Try.sizeOf4
  v4 := Try.zeroValue4
  t5 := Try.underlying5
  a5 := Try.isAgg5
  z5 := Try.sizeOf5
  v5 := Try.zeroValue5
  t9 := Try.underlying9
  a9 := Try.isAgg9
  z9 := Try.sizeOf9
  v9 := Try.zeroValue9
  t28 := Try.underlying36
  a28 := Try.isAgg36
  z28 := Try.sizeOf36
  v28 := Try.zeroValue36
  t46 := Try.underlying239
  a46 := Try.isAgg239
  z46 := Try.sizeOf239
  v46 := Try.zeroValue239
  t51 := Try.underlying263
  a51 := Try.isAgg263
  z51 := Try.sizeOf263
  v51 := Try.zeroValue263
  t53 := Try.underlying265
  a53 := Try.isAgg265
  z53 := Try.sizeOf265
  v53 := Try.zeroValue265
  t131 := Try.underlying156
  a131 := Try.isAgg156
  z131 := Try.sizeOf156
  v131 := Try.zeroValue156
  t182 := Try.underlying256
  a182 := Try.isAgg256
  z182 := Try.sizeOf256
  v182 := Try.zeroValue256
  t183 := Try.underlying257
  a183 := Try.isAgg257
  z183 := Try.sizeOf257
  v183 := Try.zeroValue257
  t218 := Try.underlying269
  a218 := Try.isAgg269
  z218 := Try.sizeOf269
  v218 := Try.zeroValue269
  t222 := Try.underlying273
  a222 := Try.isAgg273
  z222 := Try.sizeOf273
  v222 := Try.zeroValue273
  t228 := Try.underlying280
  a228 := Try.isAgg280
  z228 := Try.sizeOf280
  v228 := Try.zeroValue280
  t229 := Try.underlying97
  a229 := Try.isAgg97
  z229 := Try.sizeOf97
  v229 := Try.zeroValue97 }
open Go.Sort Go.RowKit in
theorem Try.slices_Sort_int (blk off cap : Nat) (zs : List Int) (w : World) (hH : Holds (Value.int .i64) w blk off zs.toArray) (hblk : blk < w.heap.size) (hsz : zs.length < 4611686018427387904) :
    Calls Try.prog 132 #[.slice (some ⟨blk, off, none⟩) zs.length cap] w fun e w' =>
      e = .returned (.tuple #[]) ∧ ∃ n os, w' = grow (putRow (Value.int .i64) (Sort.ahead w n) blk off (zs.mergeSort fun x y => decide (x ≤ y)).toArray) os := Any.slices_Sort_int Try.lays189 blk off cap zs w hH hblk hsz
open Go.RowKit Go.Sort in
theorem Try.slices_Sort_int_none (p : Option Addr) (cap : Nat) (w : World) :
    Calls Try.prog 132 #[.slice p 0 cap] w fun e w' => e = .returned (.tuple #[]) ∧ w' = w := Any.slices_Sort_int_none Try.lays189 p cap w
end Go.Proofs
