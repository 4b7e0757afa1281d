/-
  A block that holds an array: its mark and its two lists.
-/
import Derived.Laws.Rows
import Derived.Test.YthmiaiephkcdfaaErrv
namespace Go.Proofs.Ythmiaiephkcdfaa
open Go.RowKit
set_option linter.unusedVariables false

def cellsA (x y z : Value) : Array Value := #[x, y, z]
/-- A block holds these three values, an array's. -/
def Abx (w : World) (b : Nat) (x y z : Value) : Prop := w.heap[b]? = some (.cells (cellsA x y z) 24 (0, 0))
section
variable {w : World} {b : Nat} {x y z : Value}
theorem Abx.c0 (h : Abx w b x y z) : w.cell? ⟨b, 0, none⟩ = some x := by unfold Abx at h; simp [World.cell?, h, cellsA]
theorem Abx.c1 (h : Abx w b x y z) : w.cell? ⟨b, 1, none⟩ = some y := by unfold Abx at h; simp [World.cell?, h, cellsA]
theorem Abx.c2 (h : Abx w b x y z) : w.cell? ⟨b, 2, none⟩ = some z := by unfold Abx at h; simp [World.cell?, h, cellsA]
theorem Abx.fr (h : Abx w b x y z) (i : Nat) : w.frozen? ⟨b, i, none⟩ = false := by unfold Abx at h; simp [World.frozen?, h]
theorem Abx.lt (h : Abx w b x y z) : b < w.heap.size := by
  obtain ⟨hlt, _⟩ := Array.getElem?_eq_some_iff.1 h
  exact hlt
theorem Abx.of {w' : World} (h : Abx w b x y z) (e : w'.heap[b]? = w.heap[b]?) : Abx w' b x y z := e.trans h
theorem Abx.bel {w' : World} {B : Nat} (h : Abx w b x y z) (hB : Below B w w') (hb : b < B) : Abx w' b x y z := h.of (hB.block b hb)
/-- What a call that makes memory alone leaves. -/
theorem Abx.go {w' : World} (h : Abx w b x y z) (hB : Below w.heap.size w w') : Abx w' b x y z := h.bel hB h.lt
theorem Abx.s0 (h : Abx w b x y z) (v : Value) : Abx (w.setCell ⟨b, 0, none⟩ v) b v y z := by unfold Abx at *; simp [World.setCell, Array.getElem?_modify, h, cellsA]
theorem Abx.s1 (h : Abx w b x y z) (v : Value) : Abx (w.setCell ⟨b, 1, none⟩ v) b x v z := by unfold Abx at *; simp [World.setCell, Array.getElem?_modify, h, cellsA]
theorem Abx.s2 (h : Abx w b x y z) (v : Value) : Abx (w.setCell ⟨b, 2, none⟩ v) b x y v := by unfold Abx at *; simp [World.setCell, Array.getElem?_modify, h, cellsA]
theorem Abx.ot (h : Abx w b x y z) {a : Addr} (ha : b ≠ a.block) (v : Value) : Abx (w.setCell a v) b x y z := h.of (Below.heap_setCell w a v b ha)
theorem Abx.al (h : Abx w b x y z) (o : Obj) : Abx (w.alloc o) b x y z := h.of (Below.heap_alloc w o b h.lt)
theorem Abx.new (w : World) (x y z : Value) : Abx (w.alloc (.cells #[x, y, z] 24)) w.heap.size x y z := (MapKept.heap_alloc w _).1
theorem Abx.new1 (w : World) (o : Obj) (x y z : Value) : Abx ((w.alloc o).alloc (.cells #[x, y, z] 24)) (w.heap.size + 1) x y z := by
  have := Abx.new (w.alloc o) x y z
  rwa [World.size_alloc] at this
theorem Abx.dr (h : Abx w b x y z) : Abx w.drew b x y z := h
/-- All three cells written, in their order. -/
theorem Abx.set3 (h : Abx w b x y z) (x' y' z' : Value) : Abx (((w.setCell ⟨b, 0, none⟩ x').setCell ⟨b, 1, none⟩ y').setCell ⟨b, 2, none⟩ z') b x' y' z' := ((h.s0 x').s1 y').s2 z'
theorem Abx.ot3 (h : Abx w b x y z) {B : Nat} (hb : b < B) (x' y' z' : Value) : Abx (((w.setCell ⟨B, 0, none⟩ x').setCell ⟨B, 1, none⟩ y').setCell ⟨B, 2, none⟩ z') b x y z :=
  ((h.ot (a := ⟨B, 0, none⟩) (by show b ≠ B; omega) x').ot (a := ⟨B, 1, none⟩) (by show b ≠ B; omega) y').ot (a := ⟨B, 2, none⟩) (by show b ≠ B; omega) z'
end
theorem bel_set3 {B b : Nat} {a w : World} (h : Below B a w) (hb : B ≤ b) (x y z : Value) : Below B a (((w.setCell ⟨b, 0, none⟩ x).setCell ⟨b, 1, none⟩ y).setCell ⟨b, 2, none⟩ z) :=
  ((h.setCell (p := ⟨b, 0, none⟩) hb _).setCell (p := ⟨b, 1, none⟩) hb _).setCell (p := ⟨b, 2, none⟩) hb _
theorem size_set3 {b : Nat} {w : World} (x y z : Value) : (((w.setCell ⟨b, 0, none⟩ x).setCell ⟨b, 1, none⟩ y).setCell ⟨b, 2, none⟩ z).heap.size = w.heap.size := by simp [World.setCell]
end Go.Proofs.Ythmiaiephkcdfaa
