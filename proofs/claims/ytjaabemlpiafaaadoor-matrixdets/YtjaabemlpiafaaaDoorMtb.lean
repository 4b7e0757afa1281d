/-
  Products of matrices as the program's Inner tells them; a number in the diagonal and 0 elsewhere.
-/
import Derived.BigQuiet
import Derived.Test.YtjaabemlpiafaaaDoorMta
import Derived.Test.YtjaabemlpiafaaaDoorHold
import Derived.Test.YtjaabemlpiafaaaDoorBase
namespace Go.Proofs.YtjaabemlpiafaaaDoor
open Go.RowKit
set_option linter.unusedVariables false

theorem fold_sum {u : Nat → Int} (hu : ∀ i, In64 (u i)) : ∀ n, fdV 1 ((List.range n).map u) = wrap64 (sm n u)
  | 0 => by show (0 : Int) = wrap64 0; exact (w_small (by decide) (by decide)).symm
  | n + 1 => by
    have hl : L64 ((List.range n).map u) := L64.map fun i _ => hu i
    have h1 : L64 [u n] := fun x hx => by rw [List.mem_singleton.1 hx]; exact hu n
    rw [List.range_succ, List.map_append, List.map_cons, List.map_nil, srg13.su.app h1 hl, fdV_one, tv1, fold_sum hu n, w_addl]
    rfl
theorem imm_mm {A B : Nat → Nat → Int} (hA : M64 A) (hB : M64 B) (n i j : Nat) : imm 1 3 n A B i j = wrap64 (mm n A B i j) := by
  unfold imm
  rw [fold_sum (u := fun l => twoV 3 (A i l) (B l j)) (fun l => In64.two (hA i l) (hB l j)) n]
  exact cg.sm fun k _ => by rw [tv3]; exact cg_w _
/-- The cells of a product. -/
def mmL (n : Nat) (dz dz' : List Int) : List Int := cls n fun i j => wrap64 (mm n (rdg n dz) (rdg n dz') i j)
theorem mmL_len (n : Nat) (dz dz' : List Int) : (mmL n dz dz').length = n * n := cls_len n _
theorem cls_64 {n : Nat} {F : Mx} (h : ∀ i j, In64 (F i j)) : ∀ p, In64 (nth (cls n F) p) := fun p => by
  by_cases hp : p < n * n
  · rw [cls_nth F hp]; exact h _ _
  · rw [show nth (cls n F) p = 0 by unfold nth; rw [List.getD_eq_getElem?_getD, List.getElem?_eq_none (by rw [cls_len]; omega)]; rfl]
    unfold In64; decide
theorem w_64 (x : Int) : In64 (wrap64 x) := ⟨w_lo x, w_hi x⟩
theorem mmL_64 (n : Nat) (dz dz' : List Int) : ∀ p, In64 (nth (mmL n dz dz') p) := cls_64 fun i j => w_64 _
theorem rdg_cls {n : Nat} {F : Mx} {i j : Nat} (hi : i < n) (hj : j < n) : rdg n (cls n F) i j = F i j := by
  unfold rdg
  rw [if_pos ⟨hi, hj⟩, cls_at F hi hj]
theorem rdg_at {n : Nat} {dz : List Int} {i j : Nat} (hi : i < n) (hj : j < n) : rdg n dz i j = nth dz (i * n + j) := if_pos ⟨hi, hj⟩
theorem cls_TA {n : Nat} (hn : n ≤ 6) (F : Mx) : cls n F = TA [(n : Int), (n : Int)] fun t => F (nth t 0).toNat (nth t 1).toNat :=
  two_ext (err_sq hn) (by rw [cls_len]; simp [prod]) fun i j hi hj => by
    rw [gm_nth (N := n) rfl]
    exact cls_at F (by omega) (by omega)
theorem sq_flaw {n : Nat} (hn : n ≤ 6) {dz : List Int} (hl : dz.length = n * n) : flawE false [(n : Int), (n : Int)] dz = 0 := flawE_okn (err_sq hn) (by rw [hl]; simp [prod])
theorem sq_inner {n : Nat} (hn : n ≤ 6) {dz dz' : List Int} (hl : dz.length = n * n) (hl' : dz'.length = n * n) (T : ∀ j, In64 (nth dz j)) (T' : ∀ j, In64 (nth dz' j)) :
    inE 1 3 false [(n : Int), (n : Int)] dz false [(n : Int), (n : Int)] dz' = 0 ∧ inS [(n : Int), (n : Int)] [(n : Int), (n : Int)] = [(n : Int), (n : Int)] ∧ inD 1 3 false [(n : Int), (n : Int)] dz false [(n : Int), (n : Int)] dz' = mmL n dz dz' := by
  obtain ⟨h1, h2, h3⟩ := in_two srg13.su srg13.pr (sq_flaw hn hl) (sq_flaw hn hl') (err_sq hn) T T'
  refine ⟨h1, h2, h3.trans ?_⟩
  unfold mmL
  rw [cls_TA hn]
  refine TA_congr (err_sq hn) fun t ht => ?_
  obtain ⟨i, j, rfl, hi, hj⟩ := ins_two ht
  show imm 1 3 n _ _ i j = wrap64 (mm n _ _ i j)
  rw [imm_mm (gm_64 T) (gm_64 T')]
  exact cg.sm fun k hk => by
    rw [gm_nth (N := n) rfl, gm_nth (N := n) rfl, rdg_at (by omega) hk, rdg_at hk (by omega)]
    rfl
/-- A number in the diagonal. -/
def dgm (d : Int) : Mx := fun i j => if i = j then d else 0
end Go.Proofs.YtjaabemlpiafaaaDoor
