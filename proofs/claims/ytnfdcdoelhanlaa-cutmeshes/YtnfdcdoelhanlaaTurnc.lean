/-
  Plain mathematics: what is done cell by cell does not see where the cells stand.
-/
import Derived.Test.YtnfdcdoelhanlaaTurnq
import Derived.Test.YtnfdcdoelhanlaaEachn
namespace Go.Proofs.Ytnfdcdoelhanlaa
open Go.RowKit
set_option linter.unusedVariables false

theorem shp_self (s : List Int) : shp s s = s := by unfold shp; split <;> rfl
theorem e2N_self (s : List Int) : e2N s s = (prod s).toNat := by unfold e2N; rw [shp_self]
theorem e2C_lt {xs : List Int} {i : Nat} (h : i < xs.length) : e2C xs i = nth xs i := by
  unfold e2C cyA
  rw [if_neg (by omega), Nat.mod_eq_of_lt h]
theorem cells_move {f : Int} {c c' : Bool} {s s' dz dz' : List Int} {src : List Int → List Int} (h : e2E f c s dz c' s dz' = 0) (he' : errOf s' = 0) (hs : ∀ t, insB s' t = true → insB s (src t) = true) :
    e2E f c s' (GA s dz s' src) c' s' (GA s dz' s' src) = 0 ∧ e2V f c s' (GA s dz s' src) c' s' (GA s dz' s' src) = GA s (e2V f c s dz c' s dz') s' src := by
  obtain ⟨h0, hc⟩ := e2E_sub h
  obtain ⟨g1, g2, g3, g4, g5⟩ := e2F_zero.1 h0
  obtain ⟨a1, a2, _⟩ := flawE_zero g2
  obtain ⟨b1, b2, _⟩ := flawE_zero g3
  have L1 : (GA s dz s' src).length = (prod s').toNat := GA_length
  have L2 : (GA s dz' s' src).length = (prod s').toNat := GA_length
  have key : ∀ i, i < (prod s').toNat → ∃ j, j < (prod s).toNat ∧ e2C (GA s dz s' src) i = e2C dz j ∧ e2C (GA s dz' s' src) i = e2C dz' j ∧ j = (place s (src (cr s' i))).toNat := fun i hi => by
    have hp := place_bd (hs _ (cr_in he' hi).1)
    refine ⟨(place s (src (cr s' i))).toNat, by omega, ?_, ?_, rfl⟩
    · rw [e2C_lt (by omega), GA_nth hi, e2C_lt (by omega)]
    · rw [e2C_lt (by omega), GA_nth hi, e2C_lt (by omega)]
  constructor
  · refine e2E_mk (e2F_zero.2 ⟨g1, GA_flaw g2 he' hs, GA_flaw g3 he' hs, .inr (.inr rfl), g5⟩) fun i hi => ?_
    rw [e2N_self] at hi
    obtain ⟨j, hj, e1, e2, _⟩ := key i hi
    rw [e1, e2]
    exact hc j (by rw [e2N_self]; exact hj)
  · refine nth_ext (by rw [e2V_length, e2N_self, GA_length]) fun i hi => ?_
    rw [e2V_length] at hi
    have hi' := hi
    rw [e2N_self] at hi'
    obtain ⟨j, hj, e1, e2, rfl⟩ := key i hi'
    rw [e2V_nth _ _ _ _ _ _ _ hi, e1, e2, GA_nth hi', e2V_nth _ _ _ _ _ _ _ (by rw [e2N_self]; exact hj)]
end Go.Proofs.Ytnfdcdoelhanlaa
