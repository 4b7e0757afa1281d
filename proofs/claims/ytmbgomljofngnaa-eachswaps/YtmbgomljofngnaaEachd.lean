/-
  What each.One tells, with what is known of the room of its two lists.
-/
import Derived.Test.YtmbgomljofngnaaEachp
import Derived.Test.YtmbgomljofngnaaCapi
namespace Go.Proofs.Ytmbgomljofngnaa
open Go.RowKit
set_option linter.unusedVariables false

/-- What each.One tells. -/
def P1c (f : Int) (c : Bool) (sz dz : List Int) (w : World) (e : Ending) (w' : World) : Prop :=
  (e1E f c sz dz ≠ 0 ∧ e = .returned (.tuple #[.agg #[.bool false, .slice none 0 0, .slice none 0 0], .iface 59 (.int .i64 (e1E f c sz dz))]) ∧ Below w.heap.size w w') ∨
  (e1E f c sz dz = 0 ∧ ∃ xa xc ya yc, e = .returned (.tuple #[.agg #[.bool false, .slice xa sz.length xc, .slice ya (e1V f dz).length yc], .nilIface]) ∧ NewC w.heap.size w' xa sz xc ∧ NewC w.heap.size w' ya (e1V f dz) yc ∧ Below w.heap.size w w')
theorem P1c.no {f : Int} {c : Bool} {sz dz : List Int} {w w' : World} {e : Int} (h : e1E f c sz dz = e) (h0 : e ≠ 0) (hB : Below w.heap.size w w') : P1c f c sz dz w (.returned (.tuple #[.agg #[.bool false, .slice none 0 0, .slice none 0 0], .iface 59 (.int .i64 e)])) w' := by
  subst h; exact .inl ⟨h0, rfl, hB⟩
/-- The contract of each.One. -/
def C1c : Prop := ∀ (f : Int) (c : Bool) (sa : Option Addr) (sc : Nat) (sz : List Int) (da : Option Addr) (dc : Nat) (dz : List Int) (w : World), In64 f → sz.length ≤ 9223372036854775807 → dz.length ≤ 9223372036854775807 → IsInts w.heap.size w sa sz → IsInts w.heap.size w da dz → (∀ j, In64 (nth dz j)) →
  Calls Try.prog 14 #[.int .i64 f, .agg #[.bool c, .slice sa sz.length sc, .slice da dz.length dc]] w fun e w' => P1c f c sz dz w e w'
theorem C1c.plain (H : C1c) : C1 := fun f c sa sc sz da dc dz w hf h1 h2 h3 h4 h5 =>
  (H f c sa sc sz da dc dz w hf h1 h2 h3 h4 h5).mono fun e w' h => h.elim .inl (fun ⟨h0, xa, xc, ya, yc, he, hX, hY, hB⟩ => .inr ⟨h0, xa, xc, ya, yc, he, hX.1, hY.1, hB⟩)
theorem c1c_ok (H : C1c) (f : Int) (c : Bool) (sa : Option Addr) (sc : Nat) (sz : List Int) (da : Option Addr) (dc : Nat) (dz : List Int) (w : World) (hf : In64 f) (h1 : sz.length ≤ 9223372036854775807) (h2 : dz.length ≤ 9223372036854775807) (hs : IsInts w.heap.size w sa sz) (hd : IsInts w.heap.size w da dz) (T : ∀ j, In64 (nth dz j)) (V : List Int) (h : e1E f c sz dz = 0 ∧ e1V f dz = V) :
    Calls Try.prog 14 #[.int .i64 f, .agg #[.bool c, .slice sa sz.length sc, .slice da dz.length dc]] w fun e w' => ∃ xa xc ya yc, e = .returned (.tuple #[.agg #[.bool false, .slice xa sz.length xc, .slice ya V.length yc], .nilIface]) ∧ NewC w.heap.size w' xa sz xc ∧ NewC w.heap.size w' ya V yc ∧ Below w.heap.size w w' := by
  obtain ⟨h, rfl⟩ := h
  exact (H f c sa sc sz da dc dz w hf h1 h2 hs hd T).mono fun e w' h' => h'.elim (fun h1 => absurd h h1.1) (fun h1 => h1.2)
end Go.Proofs.Ytmbgomljofngnaa
