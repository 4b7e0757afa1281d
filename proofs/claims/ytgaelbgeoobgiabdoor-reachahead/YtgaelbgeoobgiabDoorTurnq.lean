/-
  Answers of the turns in one form.
-/
import Derived.Test.YtgaelbgeoobgiabDoorTurnm
import Derived.Test.YtgaelbgeoobgiabDoorBase
import Derived.Test.YtgaelbgeoobgiabDoorCapi
namespace Go.Proofs.YtgaelbgeoobgiabDoor
open Go.RowKit
set_option linter.unusedVariables false

/-! ### Errors and answers -/
/-- Is there such an axis? -/
def axE (x : Int) (c : Bool) (sz dz : List Int) : Int := if flawE c sz dz ≠ 0 then flawE c sz dz else if x < 0 ∨ (sz.length : Int) ≤ x then 5 else 0
def flE (p : List Int) (c : Bool) (sz dz : List Int) : Int := if flawE c sz dz ≠ 0 then flawE c sz dz else axErr sz p
/-- Only where nothing is wrong. -/
def onl (e : Int) (xs : List Int) : List Int := if e = 0 then xs else []
def onc (e : Int) (c : Bool) : Bool := if e = 0 then c else false
theorem onl_ok {e : Int} (h : e = 0) (xs : List Int) : onl e xs = xs := if_pos h
theorem onl_no {e : Int} (h : e ≠ 0) (xs : List Int) : onl e xs = [] := if_neg h
theorem onc_ok {e : Int} (h : e = 0) (c : Bool) : onc e c = c := if_pos h
theorem onc_no {e : Int} (h : e ≠ 0) (c : Bool) : onc e c = false := if_neg h
theorem axE_zero {x : Int} {c : Bool} {sz dz : List Int} : axE x c sz dz = 0 ↔ flawE c sz dz = 0 ∧ 0 ≤ x ∧ x.toNat < sz.length := by
  unfold axE
  by_cases h : flawE c sz dz = 0
  · rw [if_neg (by simpa using h)]
    by_cases h2 : x < 0 ∨ (sz.length : Int) ≤ x
    · rw [if_pos h2]; exact ⟨fun e => absurd e (by decide), fun e => by omega⟩
    · rw [if_neg h2]; exact ⟨fun _ => ⟨h, by omega, by omega⟩, fun _ => rfl⟩
  · rw [if_pos h]; exact ⟨fun e => absurd e h, fun e => absurd e.1 h⟩
theorem flE_zero {p : List Int} {c : Bool} {sz dz : List Int} : flE p c sz dz = 0 ↔ flawE c sz dz = 0 ∧ p.length = sz.length ∧ IsOrd p := by
  unfold flE
  by_cases h : flawE c sz dz = 0
  · rw [if_neg (by simpa using h), axErr_zero]
    exact ⟨fun e => ⟨h, e.2.1, e.2.2⟩, fun e => ⟨(flawE_zero h).1, e.2.1, e.2.2⟩⟩
  · rw [if_pos h]; exact ⟨fun e => absurd e h, fun e => absurd e.1 h⟩
section
variable (x n : Int) (p : List Int) (c : Bool) (sz dz : List Int)
def rvD5 : List Int := onl (axE x c sz dz) (GA sz dz sz (revT sz x.toNat))
def rtD5 : List Int := onl (axE x c sz dz) (GA sz dz sz (rotT sz n x.toNat))
def axS5 : List Int := onl (axE x c sz dz) sz
def flS5 : List Int := onl (flE p c sz dz) (axVal sz p)
def flD5 : List Int := onl (flE p c sz dz) (GA sz dz (axVal sz p) (flpT p))
end
/-- An array and an error, whichever it is. -/
def UA (e : Int) (c : Bool) (S D : List Int) (w : World) (r : Ending) (w' : World) : Prop :=
  ∃ xa xc ya yc, r = .returned (.tuple #[.agg #[.bool c, .slice xa S.length xc, .slice ya D.length yc], errV e]) ∧ NewC w.heap.size w' xa S xc ∧ NewInts w.heap.size w' ya D ∧ Below w.heap.size w w'
end Go.Proofs.YtgaelbgeoobgiabDoor
