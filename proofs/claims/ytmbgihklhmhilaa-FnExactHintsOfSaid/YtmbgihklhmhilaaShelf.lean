/- Contracts of the library that hold of this program: its numbers, and that its bodies are those which the contracts were proved of. -/
import Derived.Shelf.Slices.CompactI
import Derived.Shelf.Slices.In.SortNone
import Derived.Shelf.Sort.Plain
import Derived.Test.YtmbgihklhmhilaaProg
namespace Go.Proofs
open Go.Shelf
def Try.lays189_ren : Go.Shelf.Ren := ⟨fun | 189 => 154 | 125 => 239 | 257 => 238 | 128 => 290 | 129 => 291 | 294 => 282 | 295 => 283 | 296 => 284 | 297 => 285 | 298 => 286 | 299 => 287 | 216 => 222 | 300 => 288 | 301 => 289 | 328 => 307 | 329 => 308 | 330 => 309 | 331 => 310 | 332 => 311 | 215 => 272 | 343 => 316 | n => n, fun | 28 => 32 | 3 => 3 | 46 => 257 | 0 => 0 | 51 => 313 | 53 => 315 | 4 => 4 | 183 => 307 | 182 => 306 | 131 => 310 | 5 => 5 | 9 => 9 | 218 => 331 | 222 => 335 | 228 => 340 | 229 => 341 | n => n, fun | n => n⟩
theorem Try.lays189 : Go.Proofs.Lays.n189 Try.prog Try.lays189_ren := {
  mixed := by kernel_rfl
  f125 := Try.func239.trans (congrArg some (by kernel_rfl))
  f128 := Try.func290.trans (congrArg some (by kernel_rfl))
  f129 := Try.func291.trans (congrArg some (by kernel_rfl))
  f189 := Try.func154.trans (congrArg some (by kernel_rfl))
  f215 := Try.func272.trans (congrArg some (by kernel_rfl))
  f216 := Try.func222.trans (congrArg some (by kernel_rfl))
  f257 := Try.func238.trans (congrArg some (by kernel_rfl))
  f294 := Try.func282.trans (congrArg some (by kernel_rfl))
  f295 := Try.func283.trans (congrArg some (by kernel_rfl))
  f296 := Try.func284.trans (congrArg some (by kernel_rfl))
  f297 := Try.func285.trans (congrArg some (by kernel_rfl))
  f298 := Try.func286.trans (congrArg some (by kernel_rfl))
  f299 := Try.func287.trans (congrArg some (by kernel_rfl))
  f300 := Try.func288.trans (congrArg some (by kernel_rfl))
  f301 := Try.func289.trans (congrArg some (by kernel_rfl))
  f328 := Try.func307.trans (congrArg some (by kernel_rfl))
  f329 := Try.func308.trans (congrArg some (by kernel_rfl))
  f330 := Try.func309.trans (congrArg some (by kernel_rfl))
  f331 := Try.func310.trans (congrArg some (by kernel_rfl))
  f332 := Try.func311.trans (congrArg some (by kernel_rfl))
  f343 := Try.func316.trans (congrArg some (by kernel_rfl))
  t0 := Try.underlying0
  a0 := Try.isAgg0
  z0 := Try.sizeOf0
  v0 := Try.zeroValue0
  t3 := Try.underlying3
  a3 := Try.isAgg3
  z3 := Try.sizeOf3
  v3 := Try.zeroValue3
  t4 := Try.underlying4
  a4 := Try.isAgg4
  z4 := Try.sizeOf4
  v4 := Try.zeroValue4
  t5 := Try.underlying5
  a5 := Try.isAgg5
  z5 := Try.sizeOf5
  v5 := Try.zeroValue5
  t9 := Try.underlying9
  a9 := Try.isAgg9
  z9 := Try.sizeOf9
  v9 := Try.zeroValue9
  t28 := Try.underlying32
  a28 := Try.isAgg32
  z28 := Try.sizeOf32
  v28 := Try.zeroValue32
  t46 := Try.underlying257
  a46 := Try.isAgg257
  z46 := Try.sizeOf257
  v46 := Try.zeroValue257
  t51 := Try.underlying313
  a51 := Try.isAgg313
  z51 := Try.sizeOf313
  v51 := Try.zeroValue313
  t53 := Try.underlying315
  a53 := Try.isAgg315
  z53 := Try.sizeOf315
  v53 := Try.zeroValue315
  t131 := Try.underlying310
  a131 := Try.isAgg310
  z131 := Try.sizeOf310
  v131 := Try.zeroValue310
  t182 := Try.underlying306
  a182 := Try.isAgg306
  z182 := Try.sizeOf306
  v182 := Try.zeroValue306
  t183 := Try.underlying307
  a183 := Try.isAgg307
  z183 := Try.sizeOf307
  v183 := Try.zeroValue307
  t218 := Try.underlying331
  a218 := Try.isAgg331
  z218 := Try.sizeOf331
  v218 := Try.zeroValue331
  t222 := Try.underlying335
  a222 := Try.isAgg335
  z222 := Try.sizeOf335
  v222 := Try.zeroValue335
  t228 := Try.underlying340
  a228 := Try.isAgg340
  z228 := Try.sizeOf340
  v228 := Try.zeroValue340
  t229 := Try.underlying341
  a229 := Try.isAgg341
  z229 := Try.sizeOf341
  v229 := Try.zeroValue341 }
open Go.Sort Go.RowKit in
theorem Try.slices_Sort_int (blk off cap : Nat) (zs : List Int) (w : World) (hH : Holds (Value.int .i64) w blk off zs.toArray) (hblk : blk < w.heap.size) (hsz : zs.length < 4611686018427387904) :
    Calls Try.prog 154 #[.slice (some ⟨blk, off, none⟩) zs.length cap] w fun e w' =>
      e = .returned (.tuple #[]) ∧ ∃ n os, w' = grow (putRow (Value.int .i64) (Sort.ahead w n) blk off (zs.mergeSort fun x y => decide (x ≤ y)).toArray) os := Any.slices_Sort_int Try.lays189 blk off cap zs w hH hblk hsz
def Try.laysNm220_ren : Go.Shelf.Ren := ⟨fun | 20 => 218 | n => n, fun | 22 => 32 | 3 => 3 | 4 => 4 | 0 => 0 | n => n, fun | n => n⟩
theorem Try.laysNm220 : Go.Proofs.Lays2.n20 Try.prog Try.laysNm220_ren := {
  mixed := by kernel_rfl
  f20 := Try.func218.trans (congrArg some (by kernel_rfl))
  t0 := Try.underlying0
  a0 := Try.isAgg0
  z0 := Try.sizeOf0
  v0 := Try.zeroValue0
  t3 := Try.underlying3
  a3 := Try.isAgg3
  z3 := Try.sizeOf3
  v3 := Try.zeroValue3
  t4 := Try.underlying4
  a4 := Try.isAgg4
  z4 := Try.sizeOf4
  v4 := Try.zeroValue4
  t22 := Try.underlying32
  a22 := Try.isAgg32
  z22 := Try.sizeOf32
  v22 := Try.zeroValue32
  i3 := by kernel_rfl }
open Go.RowKit Go.Lib Go.Sort in
theorem Try.slices_Compact_int (blk off cap : Nat) (zs : List Int) (w : World) (hH : Holds (Value.int .i64) w blk off zs.toArray) (hsz : zs.length ≤ 9223372036854775807) (hcap : zs.length ≤ cap) :
    Calls Try.prog 218 #[.slice (some ⟨blk, off, none⟩) zs.length cap] w fun e w' => e = .returned (.slice (some ⟨blk, off, none⟩) (Lib.compact zs).length cap) ∧ ∃ q, w' = putRow (Value.int .i64) (Sort.ahead w q) blk off (Lib.compact zs ++ List.replicate (zs.length - (Lib.compact zs).length) 0).toArray := Any.slices_Compact_int Try.laysNm220 blk off cap zs w hH hsz hcap
open Go.RowKit Go.Sort in
theorem Try.slices_Sort_int_none (p : Option Addr) (cap : Nat) (w : World) :
    Calls Try.prog 154 #[.slice p 0 cap] w fun e w' => e = .returned (.tuple #[]) ∧ w' = w := Any.slices_Sort_int_none Try.lays189 p cap w
end Go.Proofs
