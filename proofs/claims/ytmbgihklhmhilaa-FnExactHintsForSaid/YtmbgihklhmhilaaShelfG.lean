/- Contracts of the library that hold of this program: its numbers, and that its bodies are those which the contracts were proved of. -/
import Derived.Shelf.SlIterI.Nil
import Derived.Test.YtmbgihklhmhilaaProg
namespace Go.Proofs
open Go.Shelf
def Try.keysA_ren : Go.Shelf.Ren := ⟨fun | 7 => 249 | 10 => 294 | n => n, fun | 23 => 192 | 26 => 3 | 3 => 4 | 28 => 269 | 0 => 0 | 27 => 268 | 33 => 210 | 4 => 4 | n => n, fun | n => n⟩
theorem Try.keysA : Go.Proofs.SlLaysZI.n7 Try.prog Try.keysA_ren := {
  mixed := by kernel_rfl
  f7 := ⟨Try.f249.name, by decide, Try.func249.trans (congrArg some (by kernel_rfl))⟩
  f10 := ⟨Try.f294.name, by decide, Try.func294.trans (congrArg some (by kernel_rfl))⟩
  t0 := Try.underlying0
  a0 := Try.isAgg0
  z0 := Try.sizeOf0
  v0 := Try.zeroValue0
  t4 := Try.underlying4
  a4 := Try.isAgg4
  z4 := Try.sizeOf4
  v4 := Try.zeroValue4
  t23 := Try.underlying192
  a23 := Try.isAgg192
  z23 := Try.sizeOf192
  v23 := Try.zeroValue192
  t26 := Try.underlying3
  a26 := Try.isAgg3
  z26 := Try.sizeOf3
  v26 := Try.zeroValue3
  t27 := Try.underlying268
  a27 := Try.isAgg268
  z27 := Try.sizeOf268
  v27 := Try.zeroValue268
  t28 := Try.underlying269
  a28 := Try.isAgg269
  z28 := Try.sizeOf269
  v28 := Try.zeroValue269
  t33 := Try.underlying210
  a33 := Try.isAgg210
  z33 := Try.sizeOf210
  v33 := Try.zeroValue210 }
def Try.sortedA_ren : Go.Shelf.Ren := ⟨fun | 6 => 248 | 8 => 293 | 9 => 154 | 11 => 312 | 13 => 239 | 12 => 238 | 23 => 290 | 24 => 291 | 14 => 282 | 15 => 283 | 16 => 284 | 17 => 285 | 18 => 286 | 19 => 287 | 20 => 222 | 21 => 288 | 22 => 289 | 25 => 307 | 26 => 308 | 27 => 309 | 28 => 310 | 29 => 311 | 30 => 272 | 31 => 316 | n => n, fun | 26 => 3 | 28 => 269 | 24 => 32 | 0 => 0 | 3 => 3 | 37 => 257 | 48 => 313 | 50 => 315 | 4 => 4 | 40 => 307 | 39 => 306 | 45 => 310 | 5 => 5 | 9 => 9 | 51 => 331 | 55 => 335 | 57 => 340 | 58 => 341 | 33 => 210 | n => n, fun | n => n⟩
theorem Try.sortedA : Go.Proofs.SlLaysZI.n6 Try.prog Try.sortedA_ren := {
  mixed := by kernel_rfl
  f6 := ⟨Try.f248.name, by decide, Try.func248.trans (congrArg some (by kernel_rfl))⟩
  f8 := ⟨Try.f293.name, by decide, Try.func293.trans (congrArg some (by kernel_rfl))⟩
  f11 := ⟨Try.f312.name, by decide, Try.func312.trans (congrArg some (by kernel_rfl))⟩
  t0 := Try.underlying0
  a0 := Try.isAgg0
  z0 := Try.sizeOf0
  v0 := Try.zeroValue0
  t24 := Try.underlying32
  a24 := Try.isAgg32
  z24 := Try.sizeOf32
  v24 := Try.zeroValue32
  t26 := Try.underlying3
  a26 := Try.isAgg3
  z26 := Try.sizeOf3
  v26 := Try.zeroValue3
  t28 := Try.underlying269
  a28 := Try.isAgg269
  z28 := Try.sizeOf269
  v28 := Try.zeroValue269
  i26 := by kernel_rfl }
end Go.Proofs
