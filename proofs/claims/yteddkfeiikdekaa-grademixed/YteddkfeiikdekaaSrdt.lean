/-
  Plain mathematics: the first rows of an order; nothing of the program.
-/
import Derived.Test.YteddkfeiikdekaaGrdn
import Derived.Test.YteddkfeiikdekaaBase
namespace Go.Proofs.Yteddkfeiikdekaa
open Go.RowKit
set_option linter.unusedVariables false

/-- The first rows of an order. -/
theorem srD_take {dz : List Int} {long k : Nat} {p : List Int} (hk : k < p.length) : srD dz long (p.take (k + 1)) = srD dz long (p.take k) ++ rwL dz long (nth p k).toNat := by
  unfold srD
  rw [take_snoc p k hk, List.map_append, List.flatten_append]
  simp
theorem srD_take_len {dz : List Int} {n long k : Nat} {p : List Int} (h : n * long ≤ dz.length) (hp : IsOrd p) (hl : p.length = n) (hk : k ≤ n) : (srD dz long (p.take k)).length = k * long := by
  unfold srD
  rw [flat_length (long := long) fun r hr => ?_, List.length_map, List.length_take, hl, Nat.min_eq_left hk]
  obtain ⟨x, hx, rfl⟩ := List.mem_map.1 hr
  obtain ⟨j, hj, rfl⟩ := List.mem_iff_getElem.1 (List.mem_of_mem_take hx)
  have := ord_at hp hj
  rw [← nth_get p j hj]
  exact rwL_length h (by omega)
end Go.Proofs.Yteddkfeiikdekaa
