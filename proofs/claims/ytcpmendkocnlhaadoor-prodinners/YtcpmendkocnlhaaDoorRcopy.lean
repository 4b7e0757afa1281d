/-
  The reference's copy of a list, and its answer whether there is such an axis.
-/
import Derived.Test.YtcpmendkocnlhaaDoorTurnq
import Derived.Test.YtcpmendkocnlhaaDoorFlaw
import Derived.Test.YtcpmendkocnlhaaDoorCounted
namespace Go.Proofs.YtcpmendkocnlhaaDoor
open Go.RowKit
set_option linter.unusedVariables false

/-- A row that is filled as far as k. -/
def upR (f : Nat → Int) (k j : Nat) : Value := .int .i64 (if j < k then f j else 0)
theorem upR_set {wr : World} {B : Nat} {t : TypeId} {n : Nat} {f : Nat → Int} {k : Nat} (h : wr.rowIs B t n (upR f k)) (v : Int) (hv : v = f k) : (wr.setCell ⟨B, k, none⟩ (.int .i64 v)).rowIs B t n (upR f (k + 1)) := by
  subst hv
  refine (h.set k _).congr fun j hj => ?_
  unfold upR
  by_cases e : j = k
  · subst e; rw [if_pos rfl, if_pos (by omega)]
  · rw [if_neg e]
    by_cases h2 : j < k
    · rw [if_pos h2, if_pos (by omega)]
    · rw [if_neg h2, if_neg (by omega)]
theorem upR_new {wr : World} {lo B : Nat} {t : TypeId} {n : Nat} {f : Nat → Int} (h : wr.rowIs B t n (upR f n)) (hlo : lo ≤ B) (xs : List Int) (hx : xs.length = n) (hf : ∀ j, j < n → nth xs j = f j) : NewInts lo wr (some ⟨B, 0, none⟩) xs := by
  refine .inr ⟨B, 0, rfl, hlo, h.lt, fun j hj => ?_, fun j => h.frozen _⟩
  rw [hx] at hj
  have := h.cell hj
  unfold upR at this
  rw [if_pos hj] at this
  rw [Nat.zero_add, hf j hj]
  exact this
end Go.Proofs.YtcpmendkocnlhaaDoor
