/-
  The lines that the reference takes for Inner: which cells they hold.
-/
import Derived.Test.YtcpmendkocnlhaaDoorPrdp
namespace Go.Proofs.YtcpmendkocnlhaaDoor
open Go.RowKit
set_option linter.unusedVariables false

theorem insB_join : ∀ {s t s' t' : List Int}, insB s t = true → insB s' t' = true → insB (s ++ s') (t ++ t') = true
  | [], [], _, _, _, h => h
  | [], _ :: _, _, _, h, _ => by simp [insB] at h
  | _ :: _, [], _, _, h, _ => by simp [insB] at h
  | a :: s, x :: t, _, _, h, h' => ins_cons.2 ⟨(ins_cons.1 h).1, insB_join (ins_cons.1 h).2 h'⟩
theorem set_end : ∀ (t : List Int) (v x : Int) (k : Nat), t.length = k → (t ++ [v]).set k x = t ++ [x]
  | [], _, _, _, rfl => rfl
  | a :: t, v, x, _, rfl => by
    show a :: (t ++ [v]).set t.length x = a :: (t ++ [x])
    rw [set_end t v x t.length rfl]
theorem ni_lines {g : Int} {c c' : Bool} {sz dz sz' dz' t : List Int} {m m' L : Nat} (hm : sz.length = m + 1) (hm' : sz'.length = m' + 1) (hL : (L : Int) = inN sz) (hL' : (L : Int) = nth sz' 0) (hcr : insB (inS sz sz') t = true) :
    (∀ j : Nat, j < L → insB sz ((t.take m ++ [0]).set m (((0 : Nat) : Int) + j)) = true) ∧ (∀ j : Nat, j < L → insB sz' (([0] ++ t.drop m).set 0 (((0 : Nat) : Int) + j)) = true) ∧ t.length = m + m' ∧ (inL g c sz dz c' sz' dz' t).length = L ∧
    (∀ j : Nat, j < L → nth (inL g c sz dz c' sz' dz' t) j = tcV g (c == c') (nth (lnL sz dz m (t.take m ++ [0]) ((0 : Nat) : Int) L) j) (nth (lnL sz' dz' 0 ([0] ++ t.drop m) ((0 : Nat) : Int) L) j)) ∧
    (inO g c sz dz c' sz' dz' t = true ↔ ∀ j : Nat, j < L → tcE g (c == c') (nth (lnL sz dz m (t.take m ++ [0]) ((0 : Nat) : Int) L) j) (nth (lnL sz' dz' 0 ([0] ++ t.drop m) ((0 : Nat) : Int) L) j) = 0) := by
  have hS : inS sz sz' = sz.take m ++ sz'.drop 1 := by unfold inS; rw [hm, Nat.add_sub_cancel]
  rw [hS] at hcr
  have hpp := ins_parts hcr
  have hlm : (sz.take m).length = m := by rw [List.length_take]; omega
  rw [hlm] at hpp
  have htl : t.length = m + m' := by
    have := insB_len hcr
    rw [List.length_append, hlm, List.length_drop] at this
    omega
  have htk : (t.take m).length = m := by rw [List.length_take]; omega
  have hz0 : ∀ j : Nat, ((0 : Nat) : Int) + (j : Int) = (j : Int) := fun j => by omega
  have hT : (inN sz).toNat = L := by omega
  have e1 : ∀ j : Nat, (t.take m ++ [0]).set m (((0 : Nat) : Int) + j) = t.take m ++ [(j : Int)] := fun j => by rw [set_end _ _ _ _ htk, hz0]
  have e2 : ∀ j : Nat, ([0] ++ t.drop m).set 0 (((0 : Nat) : Int) + j) = (j : Int) :: t.drop m := fun j => by rw [hz0]; rfl
  have hU : ∀ j, j < L → nth (lnL sz dz m (t.take m ++ [0]) ((0 : Nat) : Int) L) j = inU sz dz t j := fun j hj => by
    rw [lnL_nth hj, e1]
    unfold inU
    rw [hm, Nat.add_sub_cancel]
  have hV : ∀ j, j < L → nth (lnL sz' dz' 0 ([0] ++ t.drop m) ((0 : Nat) : Int) L) j = inV sz sz' dz' t j := fun j hj => by
    rw [lnL_nth hj, e2]
    unfold inV
    rw [hm, Nat.add_sub_cancel]
  have hs : sz = sz.take m ++ [inN sz] := by have := take_last (s := sz) (by omega); rwa [hm, Nat.add_sub_cancel] at this
  have hs' : sz' = nth sz' 0 :: sz'.drop 1 := by
    match sz', hm' with
    | a :: r, _ => rfl
  refine ⟨fun j hj => ?_, fun j hj => ?_, htl, by unfold inL; simp [hT], fun j hj => ?_, ?_⟩
  · rw [e1]
    have : insB (sz.take m ++ [inN sz]) (t.take m ++ [(j : Int)]) = true := insB_join hpp.1 (ins_cons.2 ⟨⟨by omega, by omega⟩, rfl⟩)
    rwa [← hs] at this
  · rw [e2]
    have : insB (nth sz' 0 :: sz'.drop 1) ((j : Int) :: t.drop m) = true := ins_cons.2 ⟨⟨by omega, by omega⟩, hpp.2⟩
    rwa [← hs'] at this
  · rw [hU j hj, hV j hj]
    unfold inL
    rw [hT]
    simp [nth, hj]
  · unfold inO
    rw [hT, List.all_eq_true]
    constructor
    · intro h j hj
      rw [hU j hj, hV j hj]
      simpa using h j (List.mem_range.2 hj)
    · intro h j hj
      have hj' := List.mem_range.1 hj
      have := h j hj'
      rw [hU j hj', hV j hj'] at this
      simpa using this
end Go.Proofs.YtcpmendkocnlhaaDoor
