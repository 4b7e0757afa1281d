/-
  Two lists of one length: which is ahead of the other, as the document says it.
-/
import Derived.Deep.QuietTactic
import Derived.BigQuiet
import Derived.WalkSmall
import Derived.Test.YtmbgomljofngnabPrml
import Derived.Test.YtmbgomljofngnabBase
namespace Go.Proofs.Ytmbgomljofngnab
open Go.RowKit
set_option linter.unusedVariables false

theorem nth_cons9 (x : Int) (r : List Int) (j : Nat) : nth (x :: r) (j + 1) = nth r j := by simp [nth]
theorem cmp_cut : ∀ (k : Nat) {p q : List Int}, (∀ j, j < k → nth p j = nth q j) → k < p.length → k < q.length → cmpL p q = (if nth p k < nth q k then -1 else if nth q k < nth p k then 1 else cmpL (p.drop (k + 1)) (q.drop (k + 1)))
  | 0, x :: p, y :: q, _, _, _ => rfl
  | k + 1, x :: p, y :: q, h, hp, hq => by
    have e : x = y := h 0 (by omega)
    subst e
    have ih := cmp_cut k (p := p) (q := q) (fun j hj => by have := h (j + 1) (by omega); rwa [nth_cons9, nth_cons9] at this) (by simpa using hp) (by simpa using hq)
    rw [nth_cons9, nth_cons9, List.drop_succ_cons, List.drop_succ_cons, ← ih]
    show (if x < x then (-1 : Int) else if x < x then 1 else cmpL p q) = _
    rw [if_neg (by omega), if_neg (by omega)]
  | _, [], _, _, hp, _ => by simp at hp
  | _, _, [], _, _, hq => by simp at hq
theorem cmp_same : ∀ p : List Int, cmpL p p = 0
  | [] => rfl
  | x :: p => by
    show (if x < x then (-1 : Int) else if x < x then 1 else cmpL p p) = 0
    rw [if_neg (by omega), if_neg (by omega)]
    exact cmp_same p
theorem ret_int9 {a b : Int} (h : a = b) : Ending.returned (.int .i64 a) = .returned (.int .i64 b) := by rw [h]
end Go.Proofs.Ytmbgomljofngnab
