/-
  DERIVED: THE SHELF's CONTRACTS AT THIS DUMP, IN PLAIN WORDS (tools/lay-plain.mjs out of 'TrydSort.lean', which tools/lay-shelf.mjs wrote): THE SAME DECLARATIONS UNDER THE SAME NAMES: 'import', 'namespace', 'open', 'def', 'theorem' AND NOTHING ELSE: no command of the shelf's: FOR A HAND-IN. Each laying: the table of numbers ('.._ren') and one theorem, a field a fact of the dump's own or the kernel's comparison; each contract: ONE APPLICATION.
-/
import Derived.Shelf.SlGeneric
import Derived.Shelf.SlCmpFuncs.BinarySearchFunc
import Derived.Shelf.SlCmpFuncs.None
import Derived.Ground.SlsgProg
import Derived.Test.YtnnlfgfgfegjkaaDoorProg
namespace Go.Proofs
open Go.Shelf
def Tryd.searchL_ren : Go.Shelf.Ren := ⟨fun | 14 => 92 | n => n, fun | 22 => 32 | 24 => 106 | 29 => 9 | 32 => 133 | 3 => 3 | 4 => 4 | 35 => 126 | 0 => 0 | n => n, fun | n => n⟩
theorem Tryd.searchL : Go.Proofs.SlLaysG2.n14 Tryd.prog Tryd.searchL_ren := {
  mixed := by kernel_rfl
  f14 := ⟨Tryd.f92.name, by decide, Tryd.func92.trans (congrArg some (by kernel_rfl))⟩
  t0 := Tryd.underlying0
  a0 := Tryd.isAgg0
  z0 := Tryd.sizeOf0
  v0 := Tryd.zeroValue0
  t3 := Tryd.underlying3
  a3 := Tryd.isAgg3
  z3 := Tryd.sizeOf3
  v3 := Tryd.zeroValue3
  t4 := Tryd.underlying4
  a4 := Tryd.isAgg4
  z4 := Tryd.sizeOf4
  v4 := Tryd.zeroValue4
  t22 := Tryd.underlying32
  a22 := Tryd.isAgg32
  z22 := Tryd.sizeOf32
  v22 := Tryd.zeroValue32
  a24 := Tryd.isAgg106
  z24 := Tryd.sizeOf106
  a29 := Tryd.isAgg9
  z29 := Tryd.sizeOf9
  t32 := Tryd.underlying133
  a32 := Tryd.isAgg133
  z32 := Tryd.sizeOf133
  v32 := Tryd.zeroValue133
  t35 := Tryd.underlying126
  a35 := Tryd.isAgg126
  z35 := Tryd.sizeOf126
  v35 := Tryd.zeroValue126 }
def Tryd.searchT_ren : Go.Shelf.Ren := ⟨fun | 14 => 72 | n => n, fun | 22 => 37 | 24 => 9 | 29 => 9 | 32 => 93 | 3 => 3 | 4 => 4 | 35 => 126 | 0 => 0 | n => n, fun | n => n⟩
theorem Tryd.searchT : Go.Proofs.SlLaysG2.n14 Tryd.prog Tryd.searchT_ren := {
  mixed := by kernel_rfl
  f14 := ⟨Tryd.f72.name, by decide, Tryd.func72.trans (congrArg some (by kernel_rfl))⟩
  t0 := Tryd.underlying0
  a0 := Tryd.isAgg0
  z0 := Tryd.sizeOf0
  v0 := Tryd.zeroValue0
  t3 := Tryd.underlying3
  a3 := Tryd.isAgg3
  z3 := Tryd.sizeOf3
  v3 := Tryd.zeroValue3
  t4 := Tryd.underlying4
  a4 := Tryd.isAgg4
  z4 := Tryd.sizeOf4
  v4 := Tryd.zeroValue4
  t22 := Tryd.underlying37
  a22 := Tryd.isAgg37
  z22 := Tryd.sizeOf37
  v22 := Tryd.zeroValue37
  a24 := Tryd.isAgg9
  z24 := Tryd.sizeOf9
  a29 := Tryd.isAgg9
  z29 := Tryd.sizeOf9
  t32 := Tryd.underlying93
  a32 := Tryd.isAgg93
  z32 := Tryd.sizeOf93
  v32 := Tryd.zeroValue93
  t35 := Tryd.underlying126
  a35 := Tryd.isAgg126
  z35 := Tryd.sizeOf126
  v35 := Tryd.zeroValue126 }
end Go.Proofs
