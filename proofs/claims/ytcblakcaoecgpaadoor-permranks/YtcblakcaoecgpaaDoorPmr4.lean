/-
  Arrays of twelve numbers: as a value, in a block, read and stored whole.
-/
import Derived.Laws.Rows
import Derived.Test.YtcblakcaoecgpaaDoorPmn
import Derived.Test.YtcblakcaoecgpaaDoorPmc1
namespace Go.Proofs.YtcblakcaoecgpaaDoor
open Go.RowKit
set_option linter.unusedVariables false

theorem twelve {α : Type} {l : List α} (h : l.length = 12) : ∃ x0 x1 x2 x3 x4 x5 x6 x7 x8 x9 x10 x11, l = [x0, x1, x2, x3, x4, x5, x6, x7, x8, x9, x10, x11] := by
  match l, h with
  | [x0, x1, x2, x3, x4, x5, x6, x7, x8, x9, x10, x11], _ => exact ⟨x0, x1, x2, x3, x4, x5, x6, x7, x8, x9, x10, x11, rfl⟩
/-- An array as a value. -/
def agg (L : List Int) : Value := .agg (L.map (Value.int .i64)).toArray
/-- A row's block, as a whole. -/
theorem row_block {W : World} {b : Nat} {t : TypeId} {n : Nat} {L : List Int} (h : W.rowIs b t n (fun j => .int .i64 (nth L j))) (hL : L.length = n) : W.heap[b]? = some (.cells (L.map (Value.int .i64)).toArray t (0, 0)) := by
  obtain ⟨c, hb, hn, hc⟩ := h
  rw [hb]
  congr 2
  refine Array.ext_getElem? fun i => ?_
  by_cases hi : i < n
  · rw [hc i hi]
    simp only [List.getElem?_toArray, List.getElem?_map]
    rw [List.getElem?_eq_getElem (by omega), nth_get L i (by omega)]; rfl
  · rw [Array.getElem?_eq_none (by omega), Array.getElem?_eq_none (by simp; omega)]
theorem block_row {W : World} {b : Nat} {t : TypeId} {n : Nat} {L : List Int} (h : W.heap[b]? = some (.cells (L.map (Value.int .i64)).toArray t (0, 0))) (hL : L.length = n) : W.rowIs b t n (fun j => .int .i64 (nth L j)) :=
  ⟨_, h, by simp; exact hL, fun i hi => by
    simp only [List.getElem?_toArray, List.getElem?_map]
    rw [List.getElem?_eq_getElem (by omega), nth_get L i (by omega)]; rfl⟩
/-- Twelve cells that are stored. -/
theorem put12 {W : World} {b : Nat} {t : TypeId} {f : Nat → Value} (h : W.rowIs b t 12 f) (x0 x1 x2 x3 x4 x5 x6 x7 x8 x9 x10 x11 : Value) : (((((((((((((W.setCell ⟨b, 0, none⟩ x0).setCell ⟨b, 1, none⟩ x1).setCell ⟨b, 2, none⟩ x2).setCell ⟨b, 3, none⟩ x3).setCell ⟨b, 4, none⟩ x4).setCell ⟨b, 5, none⟩ x5).setCell ⟨b, 6, none⟩ x6).setCell ⟨b, 7, none⟩ x7).setCell ⟨b, 8, none⟩ x8).setCell ⟨b, 9, none⟩ x9).setCell ⟨b, 10, none⟩ x10).setCell ⟨b, 11, none⟩ x11)).heap[b]? = some (.cells #[x0, x1, x2, x3, x4, x5, x6, x7, x8, x9, x10, x11] t (0, 0)) := by
  obtain ⟨c, hb, hn, hc⟩ := h
  obtain ⟨l, rfl⟩ : ∃ l : List Value, c = l.toArray := ⟨c.toList, by simp⟩
  obtain ⟨c0, c1, c2, c3, c4, c5, c6, c7, c8, c9, c10, c11, rfl⟩ := twelve (l := l) (by simpa using hn)
  simp [World.setCell, Array.getElem?_modify, hb]
theorem bel12 {n b : Nat} {w W : World} (h : Below n w W) (hb : n ≤ b) (x0 x1 x2 x3 x4 x5 x6 x7 x8 x9 x10 x11 : Value) : Below n w (((((((((((((W.setCell ⟨b, 0, none⟩ x0).setCell ⟨b, 1, none⟩ x1).setCell ⟨b, 2, none⟩ x2).setCell ⟨b, 3, none⟩ x3).setCell ⟨b, 4, none⟩ x4).setCell ⟨b, 5, none⟩ x5).setCell ⟨b, 6, none⟩ x6).setCell ⟨b, 7, none⟩ x7).setCell ⟨b, 8, none⟩ x8).setCell ⟨b, 9, none⟩ x9).setCell ⟨b, 10, none⟩ x10).setCell ⟨b, 11, none⟩ x11)) := ((((((((((((h.setCell (p := ⟨b, 0, none⟩) hb x0).setCell (p := ⟨b, 1, none⟩) hb x1).setCell (p := ⟨b, 2, none⟩) hb x2).setCell (p := ⟨b, 3, none⟩) hb x3).setCell (p := ⟨b, 4, none⟩) hb x4).setCell (p := ⟨b, 5, none⟩) hb x5).setCell (p := ⟨b, 6, none⟩) hb x6).setCell (p := ⟨b, 7, none⟩) hb x7).setCell (p := ⟨b, 8, none⟩) hb x8).setCell (p := ⟨b, 9, none⟩) hb x9).setCell (p := ⟨b, 10, none⟩) hb x10).setCell (p := ⟨b, 11, none⟩) hb x11)
end Go.Proofs.YtcblakcaoecgpaaDoor
