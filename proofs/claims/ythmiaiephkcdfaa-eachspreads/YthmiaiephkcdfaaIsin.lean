/-
  A slice's value that leads to these integers.
-/
import Derived.WalkKit
import Derived.Test.YthmiaiephkcdfaaPlain
namespace Go.Proofs.Ythmiaiephkcdfaa
open Go.RowKit
set_option linter.unusedVariables false

/-- A slice's value leads to these integers, in a block below n₀ (or there are none). -/
def IsInts (n₀ : Nat) (W : World) (a : Option Addr) (zs : List Int) : Prop :=
  zs = [] ∨ ∃ b off, a = some ⟨b, off, none⟩ ∧ b < n₀ ∧ ∀ j, j < zs.length → W.cell? ⟨b, off + j, none⟩ = some (.int .i64 (nth zs j))
theorem IsInts.below {n₀ : Nat} {A B : World} (h : Below n₀ A B) {a : Option Addr} {zs : List Int} : IsInts n₀ A a zs → IsInts n₀ B a zs
  | .inl e => .inl e
  | .inr ⟨b, off, e, hb, hc⟩ => .inr ⟨b, off, e, hb, fun j hj => (h.cell (p := ⟨b, off + j, none⟩) hb).trans (hc j hj)⟩
theorem IsInts.mono {n₀ n₁ : Nat} {A : World} (h : n₀ ≤ n₁) {a : Option Addr} {zs : List Int} : IsInts n₀ A a zs → IsInts n₁ A a zs
  | .inl e => .inl e
  | .inr ⟨b, off, e, hb, hc⟩ => .inr ⟨b, off, e, by omega, hc⟩
/-- Where there is an integer, the slice leads to it. -/
theorem IsInts.at {n₀ : Nat} {A : World} {a : Option Addr} {zs : List Int} {q : Nat} (h : IsInts n₀ A a zs) (hq : q < zs.length) :
    ∃ b off, a = some ⟨b, off, none⟩ ∧ b < n₀ ∧ ∀ j, j < zs.length → A.cell? ⟨b, off + j, none⟩ = some (.int .i64 (nth zs j)) := by
  rcases h with e | h
  · rw [e] at hq; cases hq
  · exact h
theorem int_eq {k : IntKind} {a b : Int} (h : a = b) : Value.int k a = .int k b := by rw [h]
theorem ret_int {k : IntKind} {a b : Int} (h : a = b) : Ending.returned (.int k a) = .returned (.int k b) := by rw [h]
end Go.Proofs.Ythmiaiephkcdfaa
