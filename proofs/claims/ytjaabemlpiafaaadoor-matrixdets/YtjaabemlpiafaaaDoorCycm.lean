/-
  Cells round and round: what a list's own length tells; arrays on one axis.
-/
import Derived.Test.YtjaabemlpiafaaaDoorBase
import Derived.Test.YtjaabemlpiafaaaDoorCutn
namespace Go.Proofs.YtjaabemlpiafaaaDoor
open Go.RowKit
set_option linter.unusedVariables false

theorem cyc_self (zs : List Int) (d : Int) : cyc zs zs.length d = zs := by
  refine nth_ext (cyc_length _ _ _) fun j hj => ?_
  rw [cyc_length] at hj
  rw [cyc_nth _ _ _ hj]
  unfold cyA
  rw [if_neg (by omega), Nat.mod_eq_of_lt hj]
theorem errOf_line {n : Nat} (h : n ≤ 4096) : errOf [(n : Int)] = 0 := by
  refine errOf_zero.2 ⟨by simp, ?_, by simp [prod]; omega⟩
  intro x hx
  rw [List.mem_singleton] at hx
  omega
theorem prod_line (n : Int) : prod [n] = n := by simp [prod]
theorem flaw_line {c : Bool} {sz dz : List Int} (h : flawE c sz dz = 0) : flawE c [(dz.length : Int)] dz = 0 := by
  have h4 := (flawE_short h).2
  obtain ⟨_, _, hc⟩ := flawE_zero h
  have e := errOf_line h4
  have p := prod_line (dz.length : Int)
  cases c
  · exact flawE_okn e p.symm
  · exact flawE_okc e p.symm (hc rfl)
end Go.Proofs.YtjaabemlpiafaaaDoor
