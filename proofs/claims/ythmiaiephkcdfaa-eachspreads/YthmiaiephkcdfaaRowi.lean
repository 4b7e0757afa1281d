/-
  A slice of integers that came in, as the walks take it.
-/
import Derived.OpenShut
import Derived.Test.YthmiaiephkcdfaaIsin
namespace Go.Proofs.Ythmiaiephkcdfaa
open Go.RowKit

theorem row_ints {w : World} {a : Option Addr} {len cap : Nat} {z : List Int}
    (h : (a = none ∧ len = 0 ∧ cap = 0 ∧ z = []) ∨ ∃ x, a = some x ∧ len ≤ cap ∧ cap ≤ maxLen ∧ z.length = cap ∧ (∀ i, i < z.length → w.cell? (x.add i) = some (.int .i64 (z.getD i 0))) ∧ ∀ n ∈ z, (Lit.int .i64 n).wf = true) :
    ∃ zs : List Int, zs.length = len ∧ zs.length ≤ 9223372036854775807 ∧ IsInts w.heap.size w a zs ∧ ∀ j, -9223372036854775808 ≤ nth zs j ∧ nth zs j ≤ 9223372036854775807 := by
  rcases h with ⟨rfl, rfl, rfl, rfl⟩ | ⟨x, rfl, hl, hm, hz, hc, hw⟩
  · exact ⟨[], rfl, by simp, .inl rfl, fun j => by rw [nth_nil]; omega⟩
  · refine ⟨z.take len, by simp; omega, by simp only [List.length_take]; unfold maxLen at hm; omega, ?_, fun j => ?_⟩
    · by_cases h0 : len = 0
      · left; rw [h0]; simp
      · right
        obtain ⟨b, off, rfl, hc'⟩ := ints_at hc (by omega)
        refine ⟨b, off, rfl, ?_, fun j hj => ?_⟩
        · exact World.block_lt_of_cell? w _ (hc' 0 (by omega))
        · simp only [List.length_take] at hj
          rw [nth_take z len j (by omega)]
          exact hc' j (by omega)
    · by_cases hj : j < len
      · rw [nth_take z len j hj]
        have := range_i64 hw j
        simpa [nth] using this
      · have : nth (z.take len) j = 0 := by simp [nth, List.getElem?_take, hj]
        rw [this]; omega
end Go.Proofs.Ythmiaiephkcdfaa
