/-
  What Take, Drop, Join, Keep and Spread tell, where nothing is wrong and where something is.
-/
import Derived.Test.YtcpmendkocnlhabTurnw
import Derived.Test.YtcpmendkocnlhabCutq
namespace Go.Proofs.Ytcpmendkocnlhab
open Go.RowKit
set_option linter.unusedVariables false

/-- An array, where nothing is wrong; both lists have room. -/
def OkB (c : Bool) (S D : List Int) (w : World) (r : Ending) (w' : World) : Prop :=
  ∃ xa xc ya yc, r = .returned (.tuple #[.agg #[.bool c, .slice xa S.length xc, .slice ya D.length yc], .nilIface]) ∧ NewC w.heap.size w' xa S xc ∧ NewC w.heap.size w' ya D yc ∧ Below w.heap.size w w'
theorem UB.ok {e : Int} {c : Bool} {S D S' D' : List Int} {w w' : World} {r : Ending} (h0 : e = 0 ∧ S = S' ∧ D = D') (h : UB e (onc e c) (onl e S) (onl e D) w r w') : OkB c S' D' w r w' := by
  obtain ⟨rfl, rfl, rfl⟩ := h0
  exact h
theorem UB.no {e : Int} {c : Bool} {S D : List Int} {w w' : World} {r : Ending} (h0 : e ≠ 0) (h : UB e (onc e c) (onl e S) (onl e D) w r w') : NoA e w r w' := UA.no h0 h.ua
theorem jn_ok (x : Int) (hx : In64 x) (c : Bool) (sa : Option Addr) (sc : Nat) (sz : List Int) (da : Option Addr) (dc : Nat) (dz : List Int) (c' : Bool) (sa' : Option Addr) (sc' : Nat) (sz' : List Int) (da' : Option Addr) (dc' : Nat) (dz' : List Int) (w : World) (h1 : sz.length ≤ 9223372036854775807) (h2 : dz.length ≤ 9223372036854775807) (hs : IsC w.heap.size w sa sz sc) (hd : IsC w.heap.size w da dz dc) (T : ∀ j, In64 (nth dz j)) (h1' : sz'.length ≤ 9223372036854775807) (h2' : dz'.length ≤ 9223372036854775807) (hs' : IsC w.heap.size w sa' sz' sc') (hd' : IsC w.heap.size w da' dz' dc') (T' : ∀ j, In64 (nth dz' j)) (S D : List Int) (H : CJn) (h : jnE x c sz dz c' sz' dz' = 0 ∧ jnS x.toNat sz sz' = S ∧ jnD x.toNat sz dz sz' dz' = D) : Calls Try.prog 12 #[.int .i64 x, .agg #[.bool c, .slice sa sz.length sc, .slice da dz.length dc], .agg #[.bool c', .slice sa' sz'.length sc', .slice da' dz'.length dc']] w (OkB c S D w) :=
  (H x c sa sc sz da dc dz c' sa' sc' sz' da' dc' dz' w hx h1 h2 h1' h2' hs hd hs' hd' T T').mono fun r w' h' => UB.ok h h'
theorem jn_no (x : Int) (hx : In64 x) (c : Bool) (sa : Option Addr) (sc : Nat) (sz : List Int) (da : Option Addr) (dc : Nat) (dz : List Int) (c' : Bool) (sa' : Option Addr) (sc' : Nat) (sz' : List Int) (da' : Option Addr) (dc' : Nat) (dz' : List Int) (w : World) (h1 : sz.length ≤ 9223372036854775807) (h2 : dz.length ≤ 9223372036854775807) (hs : IsC w.heap.size w sa sz sc) (hd : IsC w.heap.size w da dz dc) (T : ∀ j, In64 (nth dz j)) (h1' : sz'.length ≤ 9223372036854775807) (h2' : dz'.length ≤ 9223372036854775807) (hs' : IsC w.heap.size w sa' sz' sc') (hd' : IsC w.heap.size w da' dz' dc') (T' : ∀ j, In64 (nth dz' j)) (H : CJn) (h : jnE x c sz dz c' sz' dz' ≠ 0) : Calls Try.prog 12 #[.int .i64 x, .agg #[.bool c, .slice sa sz.length sc, .slice da dz.length dc], .agg #[.bool c', .slice sa' sz'.length sc', .slice da' dz'.length dc']] w (NoA (jnE x c sz dz c' sz' dz') w) :=
  (H x c sa sc sz da dc dz c' sa' sc' sz' da' dc' dz' w hx h1 h2 h1' h2' hs hd hs' hd' T T').mono fun r w' h' => UB.no h h'
end Go.Proofs.Ytcpmendkocnlhab
