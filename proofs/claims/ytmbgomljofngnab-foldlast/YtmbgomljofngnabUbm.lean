/-
  Answers with room, made; a count of a list whose length is told apart.
-/
import Derived.Test.YtmbgomljofngnabCutq
import Derived.Test.YtmbgomljofngnabBase
import Derived.Test.YtmbgomljofngnabTurnq
namespace Go.Proofs.Ytmbgomljofngnab
open Go.RowKit
set_option linter.unusedVariables false

theorem ub_no {e : Int} {c : Bool} {S D : List Int} {w w' : World} {e' : Int} (h : e = e') (h0 : e' ≠ 0) (hB : Below w.heap.size w w') : UB e (onc e c) (onl e S) (onl e D) w (.returned (.tuple #[.agg #[.bool false, .slice none 0 0, .slice none 0 0], .iface 43 (.int .i64 e')])) w' := by
  subst h
  rw [onc_no h0, onl_no h0, onl_no h0]
  exact ⟨none, 0, none, 0, by rw [errV_pos h0]; rfl, ⟨.inl rfl, Nat.le_refl _⟩, ⟨.inl rfl, Nat.le_refl _⟩, hB⟩
theorem ub_ok {e : Int} {c : Bool} {S D : List Int} {w w' : World} {xa : Option Addr} {xc : Nat} {ya : Option Addr} {yc : Nat} (h : e = 0) (hX : NewC w.heap.size w' xa S xc) (hY : NewC w.heap.size w' ya D yc) (hB : Below w.heap.size w w') :
    UB e (onc e c) (onl e S) (onl e D) w (.returned (.tuple #[.agg #[.bool c, .slice xa S.length xc, .slice ya D.length yc], .nilIface])) w' := by
  subst h
  exact ⟨xa, xc, ya, yc, rfl, hX, hY, hB⟩
end Go.Proofs.Ytmbgomljofngnab
