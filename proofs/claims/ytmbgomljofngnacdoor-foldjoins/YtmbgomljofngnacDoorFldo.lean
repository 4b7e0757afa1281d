/-
  Which functions are the same either way round, as the statements ask it.
-/
import Derived.Test.YtmbgomljofngnacDoorFldx
namespace Go.Proofs.YtmbgomljofngnacDoor
open Go.RowKit
set_option linter.unusedVariables false

theorem ga_64 {s dz s' : List Int} {src : List Int → List Int} (T : ∀ j, In64 (nth dz j)) : ∀ j, In64 (nth (GA s dz s' src) j) := fun j => by
  by_cases hj : j < (GA s dz s' src).length
  · have h := nth_mem _ j hj
    unfold GA at h ⊢
    obtain ⟨i, _, e⟩ := List.mem_map.1 h
    rw [← e]; exact T _
  · have : nth (GA s dz s' src) j = 0 := by simp [nth, List.getElem?_eq_none (show (GA s dz s' src).length ≤ j by omega)]
    rw [this]; unfold In64; decide
/-- Of other cells in the same shape nothing else is wrong, by a function that is the same either way round. -/
theorem rd_again {f x : Int} {sz dz dz' : List Int} (h : rdE f x false sz dz = 0) (hm : Mon f) (hf : flawE false sz dz' = 0) (T : ∀ j, In64 (nth dz' j)) : rdE f x false sz dz' = 0 := by
  obtain ⟨h1, h2, h3, _⟩ := rdE_zero.1 h
  obtain ⟨k1, _, k3, _⟩ := lnE_zero.1 h1
  exact rdE_zero.2 ⟨lnE_zero.2 ⟨k1, hf, k3, rfl⟩, h2, h3, fun t _ => hm.ok (lnL_64 T _ _ _ _)⟩
/-- Along one axis, then along another one, and the other way round: the errors, and what is told. -/
theorem ax_two {f i j : Int} {c : Bool} {sz dz : List Int} (hm : Mon f) (hi : ¬ i < 0) (hij : ¬ j ≤ i) (h1 : rdE f j c sz dz = 0) (h2 : rdE f i c sz dz = 0) (T : ∀ j, In64 (nth dz j)) :
    rdE f i false (xout j.toNat sz) (rdD f sz dz j.toNat) = errOf (xout i.toNat (xout j.toNat sz)) ∧ rdE f (j - 1) false (xout i.toNat sz) (rdD f sz dz i.toNat) = errOf (xout i.toNat (xout j.toNat sz)) ∧ True ∧
      (errOf (xout i.toNat (xout j.toNat sz)) = 0 ∨ errOf (xout i.toNat (xout j.toNat sz)) = 7) ∧ True ∧
      (errOf (xout i.toNat (xout j.toNat sz)) = 0 → xout i.toNat (xout j.toNat sz) = xout (j - 1).toNat (xout i.toNat sz) ∧ rdD f (xout j.toNat sz) (rdD f sz dz j.toNat) i.toNat = rdD f (xout i.toNat sz) (rdD f sz dz i.toNat) (j - 1).toNat) := by
  obtain ⟨a1, a2, a3, a4⟩ := rdE_zero.1 h1
  obtain ⟨b1, b2, b3, b4⟩ := rdE_zero.1 h2
  obtain ⟨k1, k2, k3, k4⟩ := lnE_zero.1 a1
  have hj : j.toNat < sz.length := k3.2
  have hji : i.toNat < j.toNat := by omega
  have e1 : (j - 1).toNat = j.toNat - 1 := by omega
  have hl1 := xout_length (x := j.toNat) (s := sz) hj
  have hl2 := xout_length (x := i.toNat) (s := sz) (by omega)
  have sw := xout_swap (s := sz) hji hj
  have T1 := rd_64 (f := f) a3 T
  have T2 := rd_64 (f := f) b3 T
  have n1 : lnE f i false (xout j.toNat sz) (rdD f sz dz j.toNat) = 0 := lnE_zero.2 ⟨k1, rd_flaw h1, ⟨by omega, by omega⟩, rfl⟩
  have n2 : lnE f (j - 1) false (xout i.toNat sz) (rdD f sz dz i.toNat) = 0 := lnE_zero.2 ⟨k1, rd_flaw h2, ⟨by omega, by omega⟩, rfl⟩
  refine ⟨by rw [mon_rdE hm T1, if_neg (not_not_intro n1)], by rw [mon_rdE hm T2, if_neg (not_not_intro n2), e1, ← sw], trivial, err_xout7 (by omega) a3, trivial, fun h => ⟨by rw [e1]; exact sw, ?_⟩⟩
  rw [e1]
  exact (rd_two hji hj hm T a3 b3 h).2
def monB (f : Int) : Bool := f == 1 || f == 3 || f == 6 || f == 7 || f == 14 || f == 15
theorem monB_iff (f : Int) : monB f = true ↔ Mon f := by unfold monB Mon; simp only [Bool.or_eq_true, beq_iff_eq]; omega
set_option maxRecDepth 100000 in
set_option maxHeartbeats 1000000 in
theorem monoid_yes (f : Int) (h : Mon f) (w : World) : Calls Tryd.prog 9 #[.int .i64 f] w fun e w' => e = .returned (.bool true) ∧ Below w.heap.size w w' := by
  rcases h with rfl | rfl | rfl | rfl | rfl | rfl
  all_goals
    go_enter Tryd.func9, Tryd.ntmps9
    go_wp2_with fail
    go_ret
    exact ⟨rfl, Below.refl _ _⟩
set_option maxRecDepth 100000 in
set_option maxHeartbeats 1000000 in
theorem monoid_no (f : Int) (h : ¬ Mon f) (w : World) : Calls Tryd.prog 9 #[.int .i64 f] w fun e w' => e = .returned (.bool false) ∧ Below w.heap.size w w' := by
  unfold Mon at h
  have h1 : (f == 1) = false := by simp; omega
  have h2 : (f == 3) = false := by simp; omega
  have h3 : (f == 6) = false := by simp; omega
  have h4 : (f == 7) = false := by simp; omega
  have h5 : (f == 14) = false := by simp; omega
  have h6 : (f == 15) = false := by simp; omega
  clear h
  go_enter Tryd.func9, Tryd.ntmps9
  go_wp2_with fail
  go_ret
  exact ⟨rfl, Below.refl _ _⟩
end Go.Proofs.YtmbgomljofngnacDoor
