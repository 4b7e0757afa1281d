/-
  Plain words on two arrays: are they the same, which fault comes first.
-/
import Derived.Test.YtgaelbgeoobgiaaDoorBase
namespace Go.Proofs.YtgaelbgeoobgiaaDoor
open Go.RowKit
set_option linter.unusedVariables false

def flawsE (c : Bool) (sz dz : List Int) (c' : Bool) (sz' dz' : List Int) : Int := if flawE c sz dz = 0 then flawE c' sz' dz' else flawE c sz dz
def arrB (c : Bool) (sz dz : List Int) (c' : Bool) (sz' dz' : List Int) : Bool := (c == c') && (eqB sz sz' && eqB dz dz')
/-- What Match tells. -/
def mtB (c : Bool) (sz dz : List Int) (c' : Bool) (sz' dz' : List Int) : Bool := decide (flawsE c sz dz c' sz' dz' = 0) && arrB c sz dz c' sz' dz'
theorem flawsE_zero {c c' : Bool} {sz dz sz' dz' : List Int} : flawsE c sz dz c' sz' dz' = 0 ↔ flawE c sz dz = 0 ∧ flawE c' sz' dz' = 0 := by
  unfold flawsE
  split
  · rename_i h; exact ⟨fun h' => ⟨h, h'⟩, fun h' => h'.2⟩
  · rename_i h; exact ⟨fun h' => absurd h' h, fun h' => absurd h'.1 h⟩
theorem mtB_ok {c c' : Bool} {sz dz sz' dz' : List Int} (h : flawE c sz dz = 0) (h' : flawE c' sz' dz' = 0) : mtB c sz dz c' sz' dz' = arrB c sz dz c' sz' dz' := by
  unfold mtB; rw [flawsE_zero.2 ⟨h, h'⟩]; rfl
theorem arrB_iff {c c' : Bool} {sz dz sz' dz' : List Int} : arrB c sz dz c' sz' dz' = true ↔ c = c' ∧ sz = sz' ∧ dz = dz' := by
  unfold arrB eqB
  simp
theorem arrB_self (c : Bool) (sz dz : List Int) : arrB c sz dz c sz dz = true := arrB_iff.2 ⟨rfl, rfl, rfl⟩
end Go.Proofs.YtgaelbgeoobgiaaDoor
