/-
  What the program tells cell by cell: the form of its contracts.
-/
import Derived.Test.YtgaelbgeoobgiaaEachm
import Derived.Test.YtgaelbgeoobgiaaBase
namespace Go.Proofs.Ytgaelbgeoobgiaa
open Go.RowKit
set_option linter.unusedVariables false

/-- What each.One tells. -/
def P1 (f : Int) (c : Bool) (sz dz : List Int) (w : World) (e : Ending) (w' : World) : Prop :=
  (e1E f c sz dz ≠ 0 ∧ e = .returned (.tuple #[.agg #[.bool false, .slice none 0 0, .slice none 0 0], .iface 76 (.int .i64 (e1E f c sz dz))]) ∧ Below w.heap.size w w') ∨
  (e1E f c sz dz = 0 ∧ ∃ xa xc ya yc, e = .returned (.tuple #[.agg #[.bool false, .slice xa sz.length xc, .slice ya (e1V f dz).length yc], .nilIface]) ∧ NewInts w.heap.size w' xa sz ∧ NewInts w.heap.size w' ya (e1V f dz) ∧ Below w.heap.size w w')
theorem P1.no {f : Int} {c : Bool} {sz dz : List Int} {w w' : World} {e : Int} (h : e1E f c sz dz = e) (h0 : e ≠ 0) (hB : Below w.heap.size w w') : P1 f c sz dz w (.returned (.tuple #[.agg #[.bool false, .slice none 0 0, .slice none 0 0], .iface 76 (.int .i64 e)])) w' := by
  subst h; exact .inl ⟨h0, rfl, hB⟩
/-- What each.Two tells. -/
def P2 (f : Int) (c : Bool) (sz dz : List Int) (c' : Bool) (sz' dz' : List Int) (w : World) (e : Ending) (w' : World) : Prop :=
  (e2E f c sz dz c' sz' dz' ≠ 0 ∧ e = .returned (.tuple #[.agg #[.bool false, .slice none 0 0, .slice none 0 0], .iface 76 (.int .i64 (e2E f c sz dz c' sz' dz'))]) ∧ Below w.heap.size w w') ∨
  (e2E f c sz dz c' sz' dz' = 0 ∧ ∃ xa xc ya yc, e = .returned (.tuple #[.agg #[.bool false, .slice xa (shp sz sz').length xc, .slice ya (e2V f c sz dz c' sz' dz').length yc], .nilIface]) ∧ NewInts w.heap.size w' xa (shp sz sz') ∧ NewInts w.heap.size w' ya (e2V f c sz dz c' sz' dz') ∧ Below w.heap.size w w')
theorem P2.no {f : Int} {c : Bool} {sz dz : List Int} {c' : Bool} {sz' dz' : List Int} {w w' : World} {e : Int} (h : e2E f c sz dz c' sz' dz' = e) (h0 : e ≠ 0) (hB : Below w.heap.size w w') : P2 f c sz dz c' sz' dz' w (.returned (.tuple #[.agg #[.bool false, .slice none 0 0, .slice none 0 0], .iface 76 (.int .i64 e)])) w' := by
  subst h; exact .inl ⟨h0, rfl, hB⟩
/-- The contract of each.Two. -/
def C2 : Prop := ∀ (f : Int) (c : Bool) (sa : Option Addr) (sc : Nat) (sz : List Int) (da : Option Addr) (dc : Nat) (dz : List Int) (c' : Bool) (sa' : Option Addr) (sc' : Nat) (sz' : List Int) (da' : Option Addr) (dc' : Nat) (dz' : List Int) (w : World), In64 f → sz.length ≤ 9223372036854775807 → dz.length ≤ 9223372036854775807 → sz'.length ≤ 9223372036854775807 → dz'.length ≤ 9223372036854775807 →
  IsInts w.heap.size w sa sz → IsInts w.heap.size w da dz → IsInts w.heap.size w sa' sz' → IsInts w.heap.size w da' dz' → (∀ j, In64 (nth dz j)) → (∀ j, In64 (nth dz' j)) →
  Calls Try.prog 11 #[.int .i64 f, .agg #[.bool c, .slice sa sz.length sc, .slice da dz.length dc], .agg #[.bool c', .slice sa' sz'.length sc', .slice da' dz'.length dc']] w fun e w' => P2 f c sz dz c' sz' dz' w e w'
theorem c2_no (H : C2) (f : Int) (c : Bool) (sa : Option Addr) (sc : Nat) (sz : List Int) (da : Option Addr) (dc : Nat) (dz : List Int) (c' : Bool) (sa' : Option Addr) (sc' : Nat) (sz' : List Int) (da' : Option Addr) (dc' : Nat) (dz' : List Int) (w : World) (hf : In64 f) (h1 : sz.length ≤ 9223372036854775807) (h2 : dz.length ≤ 9223372036854775807) (h1' : sz'.length ≤ 9223372036854775807) (h2' : dz'.length ≤ 9223372036854775807)
    (hs : IsInts w.heap.size w sa sz) (hd : IsInts w.heap.size w da dz) (hs' : IsInts w.heap.size w sa' sz') (hd' : IsInts w.heap.size w da' dz') (T : ∀ j, In64 (nth dz j)) (T' : ∀ j, In64 (nth dz' j)) (h : e2E f c sz dz c' sz' dz' ≠ 0) :
    Calls Try.prog 11 #[.int .i64 f, .agg #[.bool c, .slice sa sz.length sc, .slice da dz.length dc], .agg #[.bool c', .slice sa' sz'.length sc', .slice da' dz'.length dc']] w fun e w' => e = .returned (.tuple #[.agg #[.bool false, .slice none 0 0, .slice none 0 0], .iface 76 (.int .i64 (e2E f c sz dz c' sz' dz'))]) ∧ Below w.heap.size w w' :=
  (H f c sa sc sz da dc dz c' sa' sc' sz' da' dc' dz' w hf h1 h2 h1' h2' hs hd hs' hd' T T').mono fun e w' h' => h'.elim (fun h1 => h1.2) (fun h1 => absurd h1.1 h)
theorem c2_ok (H : C2) (f : Int) (c : Bool) (sa : Option Addr) (sc : Nat) (sz : List Int) (da : Option Addr) (dc : Nat) (dz : List Int) (c' : Bool) (sa' : Option Addr) (sc' : Nat) (sz' : List Int) (da' : Option Addr) (dc' : Nat) (dz' : List Int) (w : World) (hf : In64 f) (h1 : sz.length ≤ 9223372036854775807) (h2 : dz.length ≤ 9223372036854775807) (h1' : sz'.length ≤ 9223372036854775807) (h2' : dz'.length ≤ 9223372036854775807)
    (hs : IsInts w.heap.size w sa sz) (hd : IsInts w.heap.size w da dz) (hs' : IsInts w.heap.size w sa' sz') (hd' : IsInts w.heap.size w da' dz') (T : ∀ j, In64 (nth dz j)) (T' : ∀ j, In64 (nth dz' j)) (h : e2E f c sz dz c' sz' dz' = 0) :
    Calls Try.prog 11 #[.int .i64 f, .agg #[.bool c, .slice sa sz.length sc, .slice da dz.length dc], .agg #[.bool c', .slice sa' sz'.length sc', .slice da' dz'.length dc']] w fun e w' => ∃ xa xc ya yc, e = .returned (.tuple #[.agg #[.bool false, .slice xa (shp sz sz').length xc, .slice ya (e2V f c sz dz c' sz' dz').length yc], .nilIface]) ∧ NewInts w.heap.size w' xa (shp sz sz') ∧ NewInts w.heap.size w' ya (e2V f c sz dz c' sz' dz') ∧ Below w.heap.size w w' :=
  (H f c sa sc sz da dc dz c' sa' sc' sz' da' dc' dz' w hf h1 h2 h1' h2' hs hd hs' hd' T T').mono fun e w' h' => h'.elim (fun h1 => absurd h h1.1) (fun h1 => h1.2)
end Go.Proofs.Ytgaelbgeoobgiaa
