/-
  The program's small steps on matrices: which row is meant where one is left out; the sign of a number.
-/
import Derived.Test.YtjaabemlpiafaabMgr
namespace Go.Proofs.Ytjaabemlpiafaab
open Go.RowKit
set_option linter.unusedVariables false

set_option maxHeartbeats 1000000 in
theorem past_any (i g : Nat) (hi : i ≤ 64) (w : World) : Calls Try.prog 59 #[.int .i64 (i : Nat), .int .i64 (g : Nat)] w fun e w' => e = .returned (.int .i64 (skp g i : Nat)) ∧ w' = w := by
  by_cases h : i < g
  · rw [skp_lt h]
    go_enter Try.func59, Try.ntmps59
    go_wp2_with fail
    go_ret
    exact ⟨rfl, rfl⟩
  · rw [skp_ge h]
    go_enter Try.func59, Try.ntmps59
    go_wp2_with fail
    go_ret
    exact ⟨ret1 (by go_num), rfl⟩
set_option maxHeartbeats 1000000 in
theorem sign_any (k : Nat) (hk : k ≤ 64) (w : World) : Calls Try.prog 24 #[.int .i64 (k : Nat)] w fun e w' => e = .returned (.int .i64 (sg k)) ∧ w' = w := by
  have hm : k % 2 = 0 ∨ k % 2 = 1 := by omega
  rcases hm with h | h
  · rw [sg_even h]
    have h2 : (k : Int) % 2 = 0 := by omega
    go_enter Try.func24, Try.ntmps24
    go_wp2_with fail
    go_ret
    exact ⟨rfl, rfl⟩
  · rw [sg_odd h]
    have h2 : (k : Int) % 2 = 1 := by omega
    go_enter Try.func24, Try.ntmps24
    go_wp2_with fail
    go_ret
    exact ⟨rfl, rfl⟩
theorem band1 (d : Int) : Go.bits .and .i64 d 1 = d % 2 := by
  unfold Go.bits
  simp only [IntWalk.i64_left]
  have e : (BitVec.ofInt (IntKind.i64.bits) d &&& BitVec.ofInt (IntKind.i64.bits) 1).toNat = (d % 2).toNat := by
    show (BitVec.ofInt 64 d &&& BitVec.ofInt 64 1).toNat = (d % 2).toNat
    rw [BitVec.toNat_and, BitVec.toNat_ofInt]
    show (d % ((2 ^ 64 : Nat) : Int)).toNat &&& 1 = (d % 2).toNat
    rw [Nat.and_one_is_mod]
    omega
  rw [e, w_small (by omega) (by omega)]
  omega
theorem w_acc (S x y : Int) : wrap64 (wrap64 S + wrap64 (x * y)) = wrap64 (S + x * y) := by rw [w_addl, w_addr]
theorem w_acc2 (S x y : Int) : wrap64 (wrap64 S + wrap64 (wrap64 x * wrap64 y)) = wrap64 (S + x * y) := by rw [w_mull, w_mulr, w_addl, w_addr]
theorem ptg_same {A : Mx} {i j : Nat} {x : Int} (h : A i j = x) : ptg A i j x = A := by
  funext a b
  unfold ptg
  by_cases e : a = i ∧ b = j
  · rw [if_pos e, e.1, e.2, h]
  · rw [if_neg e]
theorem ptg_ptg (A : Mx) (i j : Nat) (x y : Int) : ptg (ptg A i j x) i j y = ptg A i j y := by
  funext a b
  unfold ptg
  by_cases e : a = i ∧ b = j
  · rw [if_pos e, if_pos e]
  · rw [if_neg e, if_neg e, if_neg e]
/-- So far: the rows ahead of i, and of row i the columns ahead of j. -/
def sof (m : Nat) (F : Mx) (i j : Nat) : Mx := fun a b => if a < m ∧ b < m ∧ (a < i ∨ (a = i ∧ b < j)) then F a b else 0
section
variable {m i j : Nat} {F : Mx}
theorem sof_next (hi : i < m) (hj : j < m) : ptg (sof m F i j) i j (F i j) = sof m F i (j + 1) := by
  funext a b
  unfold ptg sof
  by_cases h : a = i ∧ b = j
  · obtain ⟨rfl, rfl⟩ := h
    rw [if_pos ⟨rfl, rfl⟩, if_pos ⟨hi, hj, by omega⟩]
  · rw [if_neg h]
    by_cases h2 : a < m ∧ b < m ∧ (a < i ∨ (a = i ∧ b < j))
    · rw [if_pos h2, if_pos ⟨h2.1, h2.2.1, by omega⟩]
    · rw [if_neg h2, if_neg (by omega)]
theorem sof_row : sof m F i m = sof m F (i + 1) 0 := by
  funext a b
  unfold sof
  by_cases h : a < m ∧ b < m ∧ (a < i ∨ (a = i ∧ b < m))
  · rw [if_pos h, if_pos (by omega)]
  · rw [if_neg h, if_neg (by omega)]
theorem sof_all : sof m F m 0 = fun a b => if a < m ∧ b < m then F a b else 0 := by
  funext a b
  unfold sof
  by_cases h : a < m ∧ b < m
  · rw [if_pos h, if_pos (by omega)]
  · rw [if_neg h, if_neg (by omega)]
theorem sof_none : sof m F 0 0 = fun _ _ => 0 := by
  funext a b
  unfold sof
  rw [if_neg (by omega)]
theorem sof_at : sof m F i j i j = 0 := by unfold sof; rw [if_neg (by omega)]
end
/-- Without a row and a column. -/
def wog (r c : Nat) (A : Mx) : Mx := fun i j => if i < 5 ∧ j < 5 then A (skp r i) (skp c j) else 0
/-- So far: the rows ahead of i, and of row i the columns ahead of j. -/
def wot (r c i j : Nat) (A : Mx) : Mx := fun a b => if a < 5 ∧ b < 5 ∧ (a < i ∨ (a = i ∧ b < j)) then A (skp r a) (skp c b) else 0
theorem wot_next {r c i j : Nat} (hi : i < 5) (hj : j < 5) (A : Mx) : ptg (wot r c i j A) i j (A (skp r i) (skp c j)) = wot r c i (j + 1) A := by
  funext a b
  unfold ptg wot
  by_cases h : a = i ∧ b = j
  · obtain ⟨rfl, rfl⟩ := h
    rw [if_pos ⟨rfl, rfl⟩, if_pos ⟨hi, hj, by omega⟩]
  · rw [if_neg h]
    by_cases h2 : a < 5 ∧ b < 5 ∧ (a < i ∨ (a = i ∧ b < j))
    · rw [if_pos h2, if_pos ⟨h2.1, h2.2.1, by omega⟩]
    · rw [if_neg h2, if_neg (by omega)]
theorem wot_row {r c i : Nat} (A : Mx) : wot r c i 5 A = wot r c (i + 1) 0 A := by
  funext a b
  unfold wot
  by_cases h : a < 5 ∧ b < 5 ∧ (a < i ∨ (a = i ∧ b < 5))
  · rw [if_pos h, if_pos (by omega)]
  · rw [if_neg h, if_neg (by omega)]
theorem wot_all (r c : Nat) (A : Mx) : wot r c 5 0 A = wog r c A := by
  funext a b
  unfold wot wog
  by_cases h : a < 5 ∧ b < 5
  · rw [if_pos h, if_pos (by omega)]
  · rw [if_neg h, if_neg (by omega)]
theorem wot_none (r c : Nat) (A : Mx) : wot r c 0 0 A = fun _ _ => 0 := by
  funext a b
  unfold wot
  rw [if_neg (by omega)]
end Go.Proofs.Ytjaabemlpiafaab
