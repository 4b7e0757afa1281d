/-
  Plain mathematics: what was taken apart, together again; nothing of the program.
-/
import Derived.Test.YtnfdcdoelhanlaaCutq
import Derived.Test.YtnfdcdoelhanlaaTurnc
namespace Go.Proofs.Ytnfdcdoelhanlaa
open Go.RowKit
set_option linter.unusedVariables false

theorem mesh {x : Nat} {m s dz : List Int} (h : kpE m x false s dz = 0) (T : ∀ j, In64 (nth dz j)) :
    e2E 1 false s (TA s (fun t => if nth m (nth t x).toNat = 0 then fillE false else cel s dz t)) false s (TA s (fun t => if nth (otm m) (nth t x).toNat = 0 then fillE false else cel s dz t)) = 0
    ∧ e2V 1 false s (TA s (fun t => if nth m (nth t x).toNat = 0 then fillE false else cel s dz t)) false s (TA s (fun t => if nth (otm m) (nth t x).toNat = 0 then fillE false else cel s dz t)) = dz := by
  obtain ⟨g1, g2, g3, g4⟩ := kpZ.1 h
  obtain ⟨he, hd, _⟩ := flawE_zero g1
  have hp := prod_nonneg (errOf_zero.1 he).2.1
  have F : ∀ f : List Int → Int, flawE false s (TA s f) = 0 := fun f => TA_flaw he fun hc => by cases hc
  constructor
  · refine e2E_mk (e2F_zero.2 ⟨by omega, F _, F _, .inr (.inr rfl), by simp⟩) fun i hi => ?_
    unfold tcE
    simp [twoE]
  · refine nth_ext (by rw [e2V_length, e2N_self]; omega) fun i hi => ?_
    rw [e2V_length] at hi
    have hi' := hi
    rw [e2N_self] at hi'
    have hc := cr_in he hi'
    have hin := ins_all hc.1
    have hxi := hin.2 x g2
    rw [e2V_nth _ _ _ _ _ _ _ hi, e2C_lt (by rw [TA_length]; exact hi'), e2C_lt (by rw [TA_length]; exact hi'), TA_nth hi', TA_nth hi']
    have hv : cel s dz (cr s i) = nth dz i := by unfold cel; rw [hc.2, Int.toNat_natCast]
    rw [hv]
    have hm := mskB_nth g4 (j := (nth (cr s i) x).toNat) (by omega)
    rw [otm_nth m (by omega)]
    unfold tcV
    have e0 : fillE false = 0 := rfl
    rw [if_pos (by rfl), tv1, e0]
    rcases hm with e | e
    · rw [e, if_pos rfl, if_neg (by decide), Int.zero_add]
      exact (T i).same
    · rw [e, if_neg (by decide), if_pos (by decide), Int.add_zero]
      exact (T i).same
end Go.Proofs.Ytnfdcdoelhanlaa
