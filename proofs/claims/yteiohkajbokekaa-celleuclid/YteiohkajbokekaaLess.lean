/-
  A row of three numbers less so many times another one.
-/
import Derived.BigRegion
import Derived.Laws.Rows
import Derived.Test.YteiohkajbokekaaErrv
import Derived.Test.YteiohkajbokekaaEuc
namespace Go.Proofs.Yteiohkajbokekaa
open Go.RowKit
set_option linter.unusedVariables false

/-- The three cells of a row of numbers. -/
def cells3 (x y z : Int) : Array Value := #[.int .i64 x, .int .i64 y, .int .i64 z]
/-- A block holds a row of three numbers. -/
def Row3 (w : World) (b : Nat) (x y z : Int) : Prop := w.heap[b]? = some (.cells (cells3 x y z) 29 (0, 0))
section
variable {w : World} {b : Nat} {x y z : Int}
theorem Row3.c0 (h : Row3 w b x y z) : w.cell? ⟨b, 0, none⟩ = some (.int .i64 x) := by unfold Row3 at h; simp [World.cell?, h, cells3]
theorem Row3.c1 (h : Row3 w b x y z) : w.cell? ⟨b, 1, none⟩ = some (.int .i64 y) := by unfold Row3 at h; simp [World.cell?, h, cells3]
theorem Row3.c2 (h : Row3 w b x y z) : w.cell? ⟨b, 2, none⟩ = some (.int .i64 z) := by unfold Row3 at h; simp [World.cell?, h, cells3]
theorem Row3.fr (h : Row3 w b x y z) (i : Nat) : w.frozen? ⟨b, i, none⟩ = false := by unfold Row3 at h; simp [World.frozen?, h]
theorem Row3.lt (h : Row3 w b x y z) : b < w.heap.size := by
  obtain ⟨hlt, _⟩ := Array.getElem?_eq_some_iff.1 h
  exact hlt
theorem Row3.of {w' : World} (h : Row3 w b x y z) (e : w'.heap[b]? = w.heap[b]?) : Row3 w' b x y z := e.trans h
theorem Row3.bel {w' : World} {B : Nat} (h : Row3 w b x y z) (hB : Below B w w') (hb : b < B) : Row3 w' b x y z := h.of (hB.block b hb)
theorem Row3.s0 (h : Row3 w b x y z) (v : Int) : Row3 (w.setCell ⟨b, 0, none⟩ (.int .i64 v)) b v y z := by unfold Row3 at *; simp [World.setCell, Array.getElem?_modify, h, cells3]
theorem Row3.s1 (h : Row3 w b x y z) (v : Int) : Row3 (w.setCell ⟨b, 1, none⟩ (.int .i64 v)) b x v z := by unfold Row3 at *; simp [World.setCell, Array.getElem?_modify, h, cells3]
theorem Row3.s2 (h : Row3 w b x y z) (v : Int) : Row3 (w.setCell ⟨b, 2, none⟩ (.int .i64 v)) b x y v := by unfold Row3 at *; simp [World.setCell, Array.getElem?_modify, h, cells3]
theorem Row3.ot (h : Row3 w b x y z) {a : Addr} (ha : b ≠ a.block) (v : Value) : Row3 (w.setCell a v) b x y z := h.of (Below.heap_setCell w a v b ha)
theorem Row3.al (h : Row3 w b x y z) (o : Obj) : Row3 (w.alloc o) b x y z := h.of (Below.heap_alloc w o b h.lt)
theorem Row3.new (w : World) (x y z : Int) : Row3 (w.alloc (.cells #[.int .i64 x, .int .i64 y, .int .i64 z] 29)) w.heap.size x y z := (MapKept.heap_alloc w _).1
theorem Row3.dr (h : Row3 w b x y z) : Row3 w.drew b x y z := h
end
/-- How far the subtraction has come, in the world. -/
def Lss (n : Nat) (w : World) (a b c q x y z : Int) (k : Nat) (wr : World) : Prop :=
  Row3 wr n (if 0 < k then ls q a x else a) (if 1 < k then ls q b y else b) (if 2 < k then ls q c z else c) ∧ Row3 wr (n + 1) x y z ∧ Row3 wr (n + 1 + 1) 0 0 0 ∧ Below n w wr
set_option maxRecDepth 100000 in
set_option maxHeartbeats 1000000 in
theorem less_any (a b c q x y z : Int) (w : World) : Calls Try.prog 5 #[.agg #[.int .i64 a, .int .i64 b, .int .i64 c], .int .i64 q, .agg #[.int .i64 x, .int .i64 y, .int .i64 z]] w fun e w' => e = .returned (.agg #[.int .i64 (ls q a x), .int .i64 (ls q b y), .int .i64 (ls q c z)]) ∧ Below w.heap.size w w' := by
  go_enter Try.func5, Try.ntmps5
  go_wp2_with fail
  go_loopw [8] (fun i wr => ∃ k : Nat, k ≤ 3 ∧ i = .int .i64 k ∧ Lss w.heap.size w a b c q x y z k wr) (fun i _ => 3 - (intOf i).toNat)
  case atStart =>
    refine ⟨0, by omega, rfl, ((Row3.new w a b c).al _).al _, ?_, ?_, (((Below.refl _ w).alloc (Nat.le_refl _) _).alloc (by simp) _).alloc (by simp; omega) _⟩
    · have := (Row3.new (w.alloc (.cells #[.int .i64 a, .int .i64 b, .int .i64 c] 29)) x y z).al (.cells #[.int .i64 0, .int .i64 0, .int .i64 0] 29)
      simpa using this
    · have := Row3.new ((w.alloc (.cells #[.int .i64 a, .int .i64 b, .int .i64 c] 29)).alloc (.cells #[.int .i64 x, .int .i64 y, .int .i64 z] 29)) 0 0 0
      simpa using this
  case round =>
    obtain ⟨k, hk, rfl, hr, hs, ho, hB⟩ := hrel
    rcases (by omega : k = 0 ∨ k = 1 ∨ k = 2 ∨ k = 3) with rfl | rfl | rfl | rfl
    · have q1 := hr.c0
      have q2 := hr.fr 0
      have q3 := hs.c0
      go_wp2_with fail
      go_region
      all_goals go_wp2_with fail
      refine ⟨⟨1, by omega, rfl, (hr.s0 (ls q a x)).dr, hs.ot (by show w.heap.size + 1 ≠ w.heap.size; omega) _, ho.ot (by show w.heap.size + 1 + 1 ≠ w.heap.size; omega) _, (hB.setCell (p := ⟨w.heap.size, 0, none⟩) (Nat.le_refl _) _).drew⟩, by simp [intOf]⟩
    · have q1 := hr.c1
      have q2 := hr.fr 1
      have q3 := hs.c1
      go_wp2_with fail
      go_region
      all_goals go_wp2_with fail
      refine ⟨⟨2, by omega, rfl, (hr.s1 (ls q b y)).dr, hs.ot (by show w.heap.size + 1 ≠ w.heap.size; omega) _, ho.ot (by show w.heap.size + 1 + 1 ≠ w.heap.size; omega) _, (hB.setCell (p := ⟨w.heap.size, 1, none⟩) (Nat.le_refl _) _).drew⟩, by simp [intOf]⟩
    · have q1 := hr.c2
      have q2 := hr.fr 2
      have q3 := hs.c2
      go_wp2_with fail
      go_region
      all_goals go_wp2_with fail
      refine ⟨⟨3, by omega, rfl, (hr.s2 (ls q c z)).dr, hs.ot (by show w.heap.size + 1 ≠ w.heap.size; omega) _, ho.ot (by show w.heap.size + 1 + 1 ≠ w.heap.size; omega) _, (hB.setCell (p := ⟨w.heap.size, 2, none⟩) (Nat.le_refl _) _).drew⟩, by simp [intOf]⟩
    · have q1 := hr.c0
      have q2 := hr.c1
      have q3 := hr.c2
      have p1 := ho.c0
      have p2 := ho.c1
      have p3 := ho.c2
      have f1 := ho.fr 0
      have f2 := ho.fr 1
      have f3 := ho.fr 2
      go_wp2_with fail
      refine bodyPost_ret (v := .agg #[.int .i64 (ls q a x), .int .i64 (ls q b y), .int .i64 (ls q c z)]) ?_ rfl ⟨rfl, ?_⟩
      · exact results_cell_row rfl _ _ (w.heap.size + 1 + 1) 29 _ (0, 0) _ rfl (((ho.s0 (ls q a x)).s1 (ls q b y)).s2 (ls q c z)) Try.underlying29 rfl (by kernel_rfl)
      · exact ((hB.setCell (p := ⟨w.heap.size + 1 + 1, 0, none⟩) (by show w.heap.size ≤ w.heap.size + 1 + 1; omega) _).setCell (p := ⟨w.heap.size + 1 + 1, 1, none⟩) (by show w.heap.size ≤ w.heap.size + 1 + 1; omega) _).setCell (p := ⟨w.heap.size + 1 + 1, 2, none⟩) (by show w.heap.size ≤ w.heap.size + 1 + 1; omega) _
end Go.Proofs.Yteiohkajbokekaa
