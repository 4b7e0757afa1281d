/-
  A slice that the call itself has made by appends, and the integers that it leads to.
-/
import Derived.Maps.AppendAt
import Derived.Test.YthmiaiephkcdfaaHelp
namespace Go.Proofs.Ythmiaiephkcdfaa
open Go.RowKit
set_option linter.unusedVariables false

theorem take_snoc (zs : List Int) (k : Nat) (h : k < zs.length) : zs.take (k + 1) = zs.take k ++ [nth zs k] := by
  rw [List.take_succ_eq_append_getElem h, nth_get zs k h]
/-- A slice that owns its integers leads to them. -/
theorem owns_ints {w : World} {base : Nat} {e : TypeId} {v : Value} {n : Nat} {xs : List Int} (h : w.ownsRow base e 1 v n (xs.map (Value.int .i64))) :
    ∃ g cap, v = .slice g xs.length cap ∧ IsInts w.heap.size w g xs := by
  obtain ⟨hl, hc⟩ := h
  simp only [List.length_map, Nat.mul_one] at hl
  subst hl
  rcases hc with ⟨rfl, h0⟩ | ⟨g, cap, cur, rfl, _, hg, h1, _, h2, h3⟩
  · have : xs = [] := List.eq_nil_of_length_eq_zero h0
    subst this
    exact ⟨none, 0, rfl, .inl rfl⟩
  · refine ⟨_, cap, rfl, .inr ⟨g, 0, rfl, (Array.getElem?_eq_some_iff.1 hg).1, fun j hj => ?_⟩⟩
    have e1 : (cur.toList.take (xs.length * 1))[j]? = (xs.map (Value.int .i64))[j]? := by rw [h3]
    rw [List.getElem?_take, if_pos (by omega), Array.getElem?_toList, List.getElem?_map] at e1
    simp only [World.cell?, hg, Nat.zero_add]
    rw [e1, nth_get xs j hj]
    simp [hj]

theorem own_ge {w : World} {base : Nat} {e : TypeId} {size : Nat} {v : Value} {n : Nat} {xs : List Value} (h : w.ownsRow base e size v n xs) (j : Nat) (hj : v.ownBlock = some j) : base ≤ j := by
  rcases h.2 with ⟨rfl, _⟩ | ⟨g, cap, cur, rfl, hg, _⟩
  · simp [Value.ownBlock] at hj
  · simp [Value.ownBlock] at hj; omega
theorem owns_below {w wr w3 : World} {B : Nat} {e : TypeId} {size : Nat} {v : Value} {n : Nat} {xs : List Value} {o : Obj} (hB : Below B w wr) (hs : B ≤ wr.heap.size) (h : wr.ownsRow B e size v n xs) (hg : (wr.alloc o).grownBy w3 v.ownBlock) : Below B w w3 :=
  (hB.alloc hs o).grown hg (by simp; omega) (own_ge h)

end Go.Proofs.Ythmiaiephkcdfaa
