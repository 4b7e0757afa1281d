/-
  Where the library's slices.Delete lies in this program.
-/
import Derived.Shelf.Slices.Cells
import Derived.Test.YtmbgomljofngnacDoorProg
namespace Go.Proofs
open Go.Shelf
def Tryd.laysDelete_ren : Go.Shelf.Ren := ⟨fun | 23 => 21 | n => n, fun | 22 => 23 | 3 => 3 | 4 => 4 | 0 => 0 | n => n, fun | n => n⟩
theorem Tryd.laysDelete : Go.Proofs.Lays2.n23 Tryd.prog Tryd.laysDelete_ren := {
  mixed := by kernel_rfl
  f23 := Tryd.func21.trans (congrArg some (by kernel_rfl))
  t0 := Tryd.underlying0
  a0 := Tryd.isAgg0
  z0 := Tryd.sizeOf0
  v0 := Tryd.zeroValue0
  t3 := Tryd.underlying3
  a3 := Tryd.isAgg3
  z3 := Tryd.sizeOf3
  v3 := Tryd.zeroValue3
  t4 := Tryd.underlying4
  a4 := Tryd.isAgg4
  z4 := Tryd.sizeOf4
  v4 := Tryd.zeroValue4
  t22 := Tryd.underlying23
  a22 := Tryd.isAgg23
  z22 := Tryd.sizeOf23
  v22 := Tryd.zeroValue23
  i3 := by kernel_rfl }
end Go.Proofs
