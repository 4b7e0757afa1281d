/-
  Cells round and round, plain; rows that are filled from their first cell on.
-/
import Derived.Test.YtgaelbgeoobgiabDoorBase
namespace Go.Proofs.YtgaelbgeoobgiabDoor
open Go.RowKit
set_option linter.unusedVariables false

/-- The cell at a place, round and round. -/
def cyA (zs : List Int) (d : Int) (i : Nat) : Int := if zs.length = 0 then d else nth zs (i % zs.length)
def cyc (zs : List Int) (n : Nat) (d : Int) : List Int := (List.range n).map (cyA zs d)
theorem cyc_length (zs : List Int) (n : Nat) (d : Int) : (cyc zs n d).length = n := by simp [cyc]
theorem cyc_nth (zs : List Int) (n : Nat) (d : Int) {j : Nat} (h : j < n) : nth (cyc zs n d) j = cyA zs d j := by simp [cyc, nth, h]
/-- What stands where there is no cell. -/
def fillE (c : Bool) : Int := if c = true then 32 else 0
/-- A row that is filled as far as k. -/
def upTo (f : Nat → Int) (k j : Nat) : Value := .int .i64 (if j < k then f j else 0)
theorem upTo_set {wr : World} {B : Nat} {t : TypeId} {n : Nat} {f : Nat → Int} {k : Nat} (h : wr.rowIs B t n (upTo f k)) (v : Int) (hv : v = f k) : (wr.setCell ⟨B, k, none⟩ (.int .i64 v)).rowIs B t n (upTo f (k + 1)) := by
  subst hv
  refine (h.set k _).congr fun j hj => ?_
  unfold upTo
  by_cases e : j = k
  · subst e; rw [if_pos rfl, if_pos (by omega)]
  · rw [if_neg e]
    by_cases h2 : j < k
    · rw [if_pos h2, if_pos (by omega)]
    · rw [if_neg h2, if_neg (by omega)]
theorem upTo_new {wr : World} {lo B : Nat} {t : TypeId} {n : Nat} {f : Nat → Int} (h : wr.rowIs B t n (upTo f n)) (hlo : lo ≤ B) (xs : List Int) (hx : xs.length = n) (hf : ∀ j, j < n → nth xs j = f j) : NewInts lo wr (some ⟨B, 0, none⟩) xs := by
  refine .inr ⟨B, 0, rfl, hlo, h.lt, fun j hj => ?_, fun j => h.frozen _⟩
  rw [hx] at hj
  have := h.cell hj
  unfold upTo at this
  rw [if_pos hj] at this
  rw [Nat.zero_add, hf j hj]
  exact this
theorem ret_slice' {a : Option Addr} {n m c : Nat} (h : n = m) : Ending.returned (.slice a n c) = .returned (.slice a m c) := by rw [h]
theorem modN (k n : Nat) : ((k : Int) % (n : Int)) = ((k % n : Nat) : Int) := rfl
end Go.Proofs.YtgaelbgeoobgiabDoor
