/-
  Answers with room, made; a count of a list whose length is told apart.
-/
import Derived.Test.YtgaelbgeoobgiaaCutq
import Derived.Test.YtgaelbgeoobgiaaBase
import Derived.Test.YtgaelbgeoobgiaaCutn
namespace Go.Proofs.Ytgaelbgeoobgiaa
open Go.RowKit
set_option linter.unusedVariables false

theorem ub_no {e : Int} {c : Bool} {S D : List Int} {w w' : World} {e' : Int} (h : e = e') (h0 : e' ≠ 0) (hB : Below w.heap.size w w') : UB e (onc e c) (onl e S) (onl e D) w (.returned (.tuple #[.agg #[.bool false, .slice none 0 0, .slice none 0 0], .iface 76 (.int .i64 e')])) w' := by
  subst h
  rw [onc_no h0, onl_no h0, onl_no h0]
  exact ⟨none, 0, none, 0, by rw [errV_pos h0]; rfl, ⟨.inl rfl, Nat.le_refl _⟩, ⟨.inl rfl, Nat.le_refl _⟩, hB⟩
theorem ub_ok {e : Int} {c : Bool} {S D : List Int} {w w' : World} {xa : Option Addr} {xc : Nat} {ya : Option Addr} {yc : Nat} (h : e = 0) (hX : NewC w.heap.size w' xa S xc) (hY : NewC w.heap.size w' ya D yc) (hB : Below w.heap.size w w') :
    UB e (onc e c) (onl e S) (onl e D) w (.returned (.tuple #[.agg #[.bool c, .slice xa S.length xc, .slice ya D.length yc], .nilIface])) w' := by
  subst h
  exact ⟨xa, xc, ya, yc, rfl, hX, hY, hB⟩
theorem axE_flaw6 {x : Int} {c : Bool} {sz dz : List Int} (h : flawE c sz dz ≠ 0) : axE x c sz dz = flawE c sz dz := by unfold axE; rw [if_pos h]
theorem axE_index6 {x : Int} {c : Bool} {sz dz : List Int} (h : flawE c sz dz = 0) (k : x < 0 ∨ (sz.length : Int) ≤ x) : axE x c sz dz = 5 := by unfold axE; rw [if_neg (by simpa using h), if_pos k]
theorem UB.mkno {e : Int} {c : Bool} {S D : List Int} {w w' : World} {e' : Int} (h : e = e') (h0 : e' ≠ 0) (hB : Below w.heap.size w w') : UB e (onc e c) (onl e S) (onl e D) w (.returned (.tuple #[.agg #[.bool false, .slice none 0 0, .slice none 0 0], .iface 76 (.int .i64 e')])) w' := by
  subst h
  rw [onc_no h0, onl_no h0, onl_no h0]
  exact ⟨none, 0, none, 0, by rw [errV_pos h0]; rfl, ⟨.inl rfl, Nat.le_refl _⟩, ⟨.inl rfl, Nat.le_refl _⟩, hB⟩
theorem UB.mkok {e : Int} {c : Bool} {S D : List Int} {w w' : World} {xa : Option Addr} {xc : Nat} {ya : Option Addr} {yc : Nat} (h : e = 0) (hX : NewC w.heap.size w' xa S xc) (hY : NewC w.heap.size w' ya D yc) (hB : Below w.heap.size w w') :
    UB e (onc e c) (onl e S) (onl e D) w (.returned (.tuple #[.agg #[.bool c, .slice xa S.length xc, .slice ya D.length yc], .nilIface])) w' := by
  subst h
  exact ⟨xa, xc, ya, yc, rfl, hX, hY, hB⟩
end Go.Proofs.Ytgaelbgeoobgiaa
