/-
  A block that holds a word: its five fields.
-/
import Derived.Laws.Rows
import Derived.Test.YthfdpfekjcdlbaaDoorBas9
namespace Go.Proofs.YthfdpfekjcdlbaaDoor
open Go.RowKit
set_option linter.unusedVariables false

def cellsT (a b c d e : Value) : Array Value := #[a, b, c, d, e]
/-- A block holds these five values, a word's. -/
def Tbx (w : World) (n : Nat) (a b c d e : Value) : Prop := w.heap[n]? = some (.cells (cellsT a b c d e) 29 (0, 0))
section
variable {w : World} {n : Nat} {a b c d e : Value}
theorem Tbx.c0 (h : Tbx w n a b c d e) : w.cell? ⟨n, 0, none⟩ = some a := by unfold Tbx at h; simp [World.cell?, h, cellsT]
theorem Tbx.c1 (h : Tbx w n a b c d e) : w.cell? ⟨n, 1, none⟩ = some b := by unfold Tbx at h; simp [World.cell?, h, cellsT]
theorem Tbx.c2 (h : Tbx w n a b c d e) : w.cell? ⟨n, 2, none⟩ = some c := by unfold Tbx at h; simp [World.cell?, h, cellsT]
theorem Tbx.c3 (h : Tbx w n a b c d e) : w.cell? ⟨n, 3, none⟩ = some d := by unfold Tbx at h; simp [World.cell?, h, cellsT]
theorem Tbx.c4 (h : Tbx w n a b c d e) : w.cell? ⟨n, 4, none⟩ = some e := by unfold Tbx at h; simp [World.cell?, h, cellsT]
theorem Tbx.fr (h : Tbx w n a b c d e) (i : Nat) : w.frozen? ⟨n, i, none⟩ = false := by unfold Tbx at h; simp [World.frozen?, h]
theorem Tbx.lt (h : Tbx w n a b c d e) : n < w.heap.size := by
  obtain ⟨hlt, _⟩ := Array.getElem?_eq_some_iff.1 h
  exact hlt
theorem Tbx.of {w' : World} (h : Tbx w n a b c d e) (q : w'.heap[n]? = w.heap[n]?) : Tbx w' n a b c d e := q.trans h
theorem Tbx.bel {w' : World} {B : Nat} (h : Tbx w n a b c d e) (hB : Below B w w') (hb : n < B) : Tbx w' n a b c d e := h.of (hB.block n hb)
/-- What a call that makes memory alone leaves. -/
theorem Tbx.go {w' : World} (h : Tbx w n a b c d e) (hB : Below w.heap.size w w') : Tbx w' n a b c d e := h.bel hB h.lt
theorem Tbx.al (h : Tbx w n a b c d e) (o : Obj) : Tbx (w.alloc o) n a b c d e := h.of (Below.heap_alloc w o n h.lt)
theorem Tbx.new (w : World) (a b c d e : Value) : Tbx (w.alloc (.cells #[a, b, c, d, e] 29)) w.heap.size a b c d e := (MapKept.heap_alloc w _).1
theorem Tbx.ot (h : Tbx w n a b c d e) {p : Addr} (hp : n ≠ p.block) (v : Value) : Tbx (w.setCell p v) n a b c d e := h.of (Below.heap_setCell w p v n hp)
theorem Tbx.s0 (h : Tbx w n a b c d e) (v : Value) : Tbx (w.setCell ⟨n, 0, none⟩ v) n v b c d e := by unfold Tbx at *; simp [World.setCell, Array.getElem?_modify, h, cellsT]
theorem Tbx.s1 (h : Tbx w n a b c d e) (v : Value) : Tbx (w.setCell ⟨n, 1, none⟩ v) n a v c d e := by unfold Tbx at *; simp [World.setCell, Array.getElem?_modify, h, cellsT]
theorem Tbx.s2 (h : Tbx w n a b c d e) (v : Value) : Tbx (w.setCell ⟨n, 2, none⟩ v) n a b v d e := by unfold Tbx at *; simp [World.setCell, Array.getElem?_modify, h, cellsT]
theorem Tbx.s3 (h : Tbx w n a b c d e) (v : Value) : Tbx (w.setCell ⟨n, 3, none⟩ v) n a b c v e := by unfold Tbx at *; simp [World.setCell, Array.getElem?_modify, h, cellsT]
theorem Tbx.s4 (h : Tbx w n a b c d e) (v : Value) : Tbx (w.setCell ⟨n, 4, none⟩ v) n a b c d v := by unfold Tbx at *; simp [World.setCell, Array.getElem?_modify, h, cellsT]
/-- All five fields written, in their order. -/
theorem Tbx.set5 (h : Tbx w n a b c d e) (a' b' c' d' e' : Value) : Tbx (((((w.setCell ⟨n, 0, none⟩ a').setCell ⟨n, 1, none⟩ b').setCell ⟨n, 2, none⟩ c').setCell ⟨n, 3, none⟩ d').setCell ⟨n, 4, none⟩ e') n a' b' c' d' e' := ((((h.s0 a').s1 b').s2 c').s3 d').s4 e'
end
theorem bel_set5 {B b : Nat} {v w : World} (h : Below B v w) (hb : B ≤ b) (a' b' c' d' e' : Value) : Below B v (((((w.setCell ⟨b, 0, none⟩ a').setCell ⟨b, 1, none⟩ b').setCell ⟨b, 2, none⟩ c').setCell ⟨b, 3, none⟩ d').setCell ⟨b, 4, none⟩ e') :=
  ((((h.setCell (p := ⟨b, 0, none⟩) hb _).setCell (p := ⟨b, 1, none⟩) hb _).setCell (p := ⟨b, 2, none⟩) hb _).setCell (p := ⟨b, 3, none⟩) hb _).setCell (p := ⟨b, 4, none⟩) hb _
end Go.Proofs.YthfdpfekjcdlbaaDoor
