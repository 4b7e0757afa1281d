/-
  A region that draws its order, some of whose operations may come up in whatever order: an invariant over what has come up.
-/
import Derived.Test.YtpcpokeehnkobaaDoorBase
namespace Go.Proofs.YtpcpokeehnkobaaDoor
set_option linter.unusedVariables false

section
variable {P : Program} {ops : Array Oper} {Q : Exit → Act → World → Prop} {md : Region.Mode} {s : Nat} {C : World → Prop}
/-- As long as m operations of the free ones are left, one may come up, and each that may keeps the invariant; behind all of them the walk goes on. -/
theorem anyT_free (n : Nat) (I : Nat → Array Bool → Act → World → Prop)
    (hs : ∀ m l a w, I (m + 1) l a w → Region.ready md ops l ≠ [] ∧ ∀ i ∈ Region.ready md ops l, wpOp P ops Q i (fun a' w' => Till s C (l.setIfInBounds i true) w' ∧ I m (l.setIfInBounds i true) a' w') a w)
    (h0 : ∀ l a w, I 0 l a w → anyT P md ops Q s C n l a w) : ∀ m l a w, I m l a w → anyT P md ops Q s C (n + m) l a w
  | 0, l, a, w, h => h0 l a w h
  | m + 1, l, a, w, h => ⟨fun h' => absurd h' (hs m l a w h).1, fun i hi => wpOp_mono (fun a' w' k => ⟨k.1, anyT_free n I hs h0 m _ a' w' k.2⟩) ((hs m l a w h).2 i hi)⟩
/-- An operation that comes up is carried out. -/
theorem op_at {R : Act → World → Prop} (i : Nat) {o : Oper} {a : Act} {w : World} (ho : ops[i]? = some o)
    (h : ∀ K : Act → World → Prop, RowKit.Hid (∀ a w, R a w → K a w) → if Region.wanted o (yielded ops a.tmps) = true then Oper.wp P o a w K Q else K (a.put o.dst undef) w) : wpOp P ops Q i R a w :=
  wpOp_step ho fun K hK => h K hK
end
def allB (p : Bool → Bool) : Bool := p false && p true
theorem allB_at {p : Bool → Bool} (h : allB p = true) : ∀ x, p x = true := by
  unfold allB at h
  rw [Bool.and_eq_true] at h
  intro x
  cases x
  · exact h.1
  · exact h.2
end Go.Proofs.YtpcpokeehnkobaaDoor
