/-
  What the program's Reduce, Scan and Windows tell, in one form.
-/
import Derived.Test.YtgaelbgeoobgiaaCutq
import Derived.Test.YtgaelbgeoobgiaaFldn
namespace Go.Proofs.Ytgaelbgeoobgiaa
open Go.RowKit
set_option linter.unusedVariables false

section
variable (f n x : Int) (c : Bool) (sz dz : List Int)
def rdS12 : List Int := onl (rdE f x c sz dz) (xout x.toNat sz)
def rdD12 : List Int := onl (rdE f x c sz dz) (rdD f sz dz x.toNat)
def scS12 : List Int := onl (scE f x c sz dz) sz
def scD12 : List Int := onl (scE f x c sz dz) (scD f sz dz x.toNat)
def wdS12 : List Int := onl (wdE f n x c sz dz) (wdS n x.toNat sz)
def wdD12 : List Int := onl (wdE f n x c sz dz) (wdD f n sz dz x.toNat)
theorem rd12_len : (rdS12 f x c sz dz).length ≤ 4096 ∧ (rdD12 f x c sz dz).length ≤ 4096 :=
  ⟨onl_le6 fun h => (errS (rdE_zero.1 h).2.2.1).1, onl_le6 fun h => by unfold rdD; rw [TA_length]; exact (errS (rdE_zero.1 h).2.2.1).2⟩
theorem sc12_len : (scS12 f x c sz dz).length ≤ 4096 ∧ (scD12 f x c sz dz).length ≤ 4096 :=
  ⟨onl_le6 fun h => (errS (flawE_zero (lnE_zero.1 (scE_zero.1 h).1).2.1).1).1, onl_le6 fun h => by unfold scD; rw [TA_length]; exact (errS (flawE_zero (lnE_zero.1 (scE_zero.1 h).1).2.1).1).2⟩
theorem wd12_len : (wdS12 f n x c sz dz).length ≤ 4096 ∧ (wdD12 f n x c sz dz).length ≤ 4096 :=
  ⟨onl_le6 fun h => (errS (wd_err (wdE_zero.1 h).1 (by have := (wdE_zero.1 h).2.1; omega))).1, onl_le6 fun h => by unfold wdD; rw [TA_length]; exact (errS (wd_err (wdE_zero.1 h).1 (by have := (wdE_zero.1 h).2.1; omega))).2⟩
end
end Go.Proofs.Ytgaelbgeoobgiaa
