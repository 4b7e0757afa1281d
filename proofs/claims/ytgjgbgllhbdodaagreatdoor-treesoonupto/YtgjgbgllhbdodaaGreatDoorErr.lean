/-
  The number of an error, and whether an error is the one told.
-/
import Derived.Test.YtgjgbgllhbdodaaGreatDoorAs
import Derived.Test.YtgjgbgllhbdodaaGreatDoorBas9
namespace Go.Proofs.YtgjgbgllhbdodaaGreatDoor
open Go.RowKit
set_option linter.unusedVariables false

/-- The library's variable that errors.As reads holds the handle of the type error. -/
def HasErr (w : World) : Prop := w.cell? ⟨0, 0, none⟩ = some (.iface 193 (.agg #[.pointer (some ⟨9, 25, none⟩)]))
theorem HasErr.pos {w : World} (h : HasErr w) : 0 < w.heap.size := World.block_lt_of_cell? w _ h
theorem HasErr.below {n : Nat} {w w' : World} (h : HasErr w) (hb : Below n w w') (hn : 0 < n) : HasErr w' := (hb.cell (p := ⟨0, 0, none⟩) hn).trans h
theorem HasErr.go {w w' : World} (h : HasErr w) (hB : Below w.heap.size w w') : HasErr w' := h.below hB h.pos
theorem HasErr.al {w : World} (h : HasErr w) (o : Obj) : HasErr (w.alloc o) := h.go ((Below.refl _ w).alloc (Nat.le_refl _) o)
theorem HasErr.dr {w : World} (h : HasErr w) : HasErr w.drew := h
theorem HasErr.set3 {w : World} {B : Nat} (h : HasErr w) (hB : 0 < B) (x y z : Value) : HasErr (((w.setCell ⟨B, 0, none⟩ x).setCell ⟨B, 1, none⟩ y).setCell ⟨B, 2, none⟩ z) := by
  have k : ∀ (W : World) (i : Nat) (v : Value), (W.setCell ⟨B, i, none⟩ v).cell? ⟨0, 0, none⟩ = W.cell? ⟨0, 0, none⟩ := fun W i v => World.cell?_of_block (Below.heap_setCell W ⟨B, i, none⟩ v 0 (by show 0 ≠ B; omega))
  unfold HasErr
  rw [k, k, k]
  exact h

set_option maxHeartbeats 1000000 in
theorem told_nil (w : World) : Calls Tryz.prog 24 #[.nilIface] w fun e w' => e = .returned (.int .i64 0) ∧ w' = w := by
  go_enter Tryz.func24, Tryz.ntmps24
  go_wp2_with fail
  go_ret
  exact ⟨rfl, rfl⟩
set_option maxHeartbeats 1000000 in
theorem told_errno (n : Int) (w : World) (hg : HasErr w) : Calls Tryz.prog 24 #[.iface 36 (.int .i64 n)] w fun e w' => e = .returned (.int .i64 n) ∧ Below w.heap.size w w' := by
  have hlt := hg.pos
  have hg1 : (w.alloc (.cells #[.int .i64 0] 36)).cell? ⟨0, 0, none⟩ = some (.iface 193 (.agg #[.pointer (some ⟨9, 25, none⟩)])) := (World.cell?_alloc_lt _ _ ⟨0, 0, none⟩ hlt).trans hg
  have ht1 : (w.alloc (.cells #[.int .i64 0] 36)).cell? ⟨w.heap.size, 0, none⟩ = some (.int .i64 0) := by simp
  have hf1 : (w.alloc (.cells #[.int .i64 0] 36)).frozen? ⟨w.heap.size, 0, none⟩ = false := by simp
  have hc := as_hit n ⟨w.heap.size, 0, none⟩ (.int .i64 0) _ hg1 ht1 hf1
  have hc2 : Calls Tryz.prog 48 #[.iface 36 (.int .i64 n), .iface 99 (.pointer (some ⟨w.heap.size, 0, none⟩))] (w.alloc (.cells #[.int .i64 0] 36)) fun ev w' => ev = .returned (.bool true) ∧ w'.cell? ⟨w.heap.size, 0, none⟩ = some (.int .i64 n) ∧ Below w.heap.size w w' := by
    refine Calls.mono hc ?_
    rintro ev w' ⟨rfl, rfl⟩
    refine ⟨rfl, World.cell?_setCell_same' _ _ _ ?_, (((((((Below.refl _ w).alloc (Nat.le_refl _) _).alloc (by simp) _).alloc (by simp; omega) _).alloc (by simp; omega) _).alloc (by simp; omega) _).setCell (p := ⟨w.heap.size, 0, none⟩) (Nat.le_refl _) _)⟩
    rw [World.cell?_alloc_lt _ _ ⟨w.heap.size, 0, none⟩ (by simp; omega), World.cell?_alloc_lt _ _ ⟨w.heap.size, 0, none⟩ (by simp; omega), World.cell?_alloc_lt _ _ ⟨w.heap.size, 0, none⟩ (by simp; omega), World.cell?_alloc_lt _ _ ⟨w.heap.size, 0, none⟩ (by simp), ht1]
    rfl
  clear hc hg1 ht1 hf1 hg
  go_enter Tryz.func24, Tryz.ntmps24
  go_wp2_with fail
  refine hc2.mono ?_
  clear hc2
  rintro e w1 ⟨rfl, hcell, hB⟩
  go_wp2_with fail
  go_ret
  exact ⟨rfl, hB⟩
theorem told_any (n : Int) (w : World) (hg : HasErr w) : Calls Tryz.prog 24 #[errV n] w fun e w' => e = .returned (.int .i64 n) ∧ Below w.heap.size w w' := by
  by_cases h : n = 0
  · subst h
    exact (told_nil w).mono fun e w' ⟨h1, h2⟩ => ⟨h1, by rw [h2]; exact Below.refl _ _⟩
  · rw [errV_pos h]; exact told_errno n w hg
set_option maxHeartbeats 1000000 in
theorem error_same (n : Int) (w : World) (hg : HasErr w) : Calls Tryz.prog 10 #[errV n, .int .i64 n] w fun e w' => e = .returned (.bool true) ∧ Below w.heap.size w w' := by
  have hnn : (n == n) = true := by simp
  go_enter Tryz.func10, Tryz.ntmps10
  go_wp2_with fail
  refine (told_any n w hg).mono ?_
  rintro e w1 ⟨rfl, hB⟩
  go_wp2_with fail
  go_ret
  exact ⟨rfl, hB⟩
end Go.Proofs.YtgjgbgllhbdodaaGreatDoor
