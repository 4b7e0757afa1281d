/-
  Plain mathematics of determinants: rows for columns; products; by any row; the adjugate.
-/
import Derived.Test.YtjaabemlpiafaabMtm
namespace Go.Proofs.Ytjaabemlpiafaab
open Go.RowKit
set_option linter.unusedVariables false

def tr (C : Mx) : Mx := fun i j => C j i
theorem tr_tr (C : Mx) : tr (tr C) = C := rfl
theorem tr_un : tr un = un := by
  funext i j
  unfold tr un one
  by_cases h : i = j
  · rw [if_pos h, if_pos h.symm]
  · rw [if_neg h, if_neg (fun e => h e.symm)]
/-- Without a column and the first row. -/
def mn (j : Nat) (C : Mx) : Mx := fun k r => C (skp j k) (r + 1)
theorem dt_tr_step (n : Nat) (C : Mx) : dt (n + 1) (tr C) = sm (n + 1) fun j => sg j * C j 0 * dt n (tr (mn j C)) := rfl
def dnx (j p : Nat) : Nat := if p < j then p else p - 1
theorem skp_dnx {j p : Nat} (h : j ≠ p) (k : Nat) : skp j k = p ↔ k = dnx j p := by unfold skp dnx; split <;> split <;> omega
theorem dnx_bd {j p n : Nat} (h : j ≠ p) (hj : j < n + 1) (hp : p < n + 1) : dnx j p < n := by unfold dnx; split <;> omega
theorem mn_upd_ne {j p : Nat} (h : j ≠ p) (C : Mx) (w : Nat → Int) : mn j (upd C p w) = upd (mn j C) (dnx j p) fun r => w (r + 1) := by
  funext k
  unfold mn
  by_cases e : k = dnx j p
  · rw [e, upd_at, (skp_dnx h (dnx j p)).2 rfl, upd_at]
  · rw [upd_ne _ _ e, upd_ne _ _ (fun e2 => e ((skp_dnx h k).1 e2))]
theorem mn_upd (p : Nat) (C : Mx) (w : Nat → Int) : mn p (upd C p w) = mn p C := by
  funext k
  unfold mn
  rw [upd_ne _ _ (skp_ne p k)]
theorem dtr_alt : ∀ n, Alt n fun C => dt n (tr C)
  | 0 => ⟨fun _ _ _ => rfl, fun _ _ _ _ _ h => absurd h (by omega), fun _ _ h => absurd h (by omega)⟩
  | n + 1 => by
    have ih := dtr_alt n
    refine ⟨fun C D h => dt_ext fun j hj i hi => h i hi j hj, fun C p a u v hp => ?_, fun C p hp h => ?_⟩
    · show dt (n + 1) (tr _) = a * dt (n + 1) (tr _) + dt (n + 1) (tr _)
      rw [dt_tr_step, dt_tr_step, dt_tr_step, ← sm_lin]
      refine sm_congr fun j hj => ?_
      by_cases e : j = p
      · subst e
        rw [upd_at, upd_at, upd_at, mn_upd, mn_upd, mn_upd]
        generalize dt n _ = d
        generalize sg j = s
        generalize u 0 = x
        generalize v 0 = y
        grind
      · rw [upd_ne _ _ e, upd_ne _ _ e, upd_ne _ _ e, mn_upd_ne e, mn_upd_ne e, mn_upd_ne e]
        have h1 := ih.lin (mn j C) (dnx j p) a (fun r => u (r + 1)) (fun r => v (r + 1)) (dnx_bd e hj hp)
        rw [h1]
        generalize dt n _ = d1
        generalize dt n _ = d2
        generalize sg j * C j 0 = s
        grind
    · show dt (n + 1) (tr C) = 0
      rw [dt_tr_step]
      have hpp : sg p * C p 0 * dt n (tr (mn p C)) + sg (p + 1) * C (p + 1) 0 * dt n (tr (mn (p + 1) C)) = 0 := by
        have e1 : dt n (tr (mn (p + 1) C)) = dt n (tr (mn p C)) := ih.ext _ _ fun k hk r hr => by
          unfold mn
          by_cases e : k = p
          · subst e
            rw [skp_lt (by omega), skp_ge (by omega)]
            exact h (r + 1) (by omega)
          · by_cases e2 : k < p
            · rw [skp_lt (by omega), skp_lt e2]
            · rw [skp_ge (by omega), skp_ge (by omega)]
        rw [e1, ← h 0 (by omega), sg]
        generalize dt n _ = d
        generalize sg p = s
        generalize C p 0 = c
        grind
      rw [sm_at2 (p := p) (by omega) fun j hj h1 h2 => ?_]
      · exact hpp
      · have : dt n (tr (mn j C)) = 0 := ih.nul (mn j C) (dnx j p) (by unfold dnx; split <;> omega) fun r hr => by
          have e1 : skp j (dnx j p) = p := (skp_dnx h1 _).2 rfl
          have e2 : skp j (dnx j p + 1) = p + 1 := by unfold skp dnx; split <;> split <;> omega
          unfold mn
          rw [e1, e2]
          exact h (r + 1) (by omega)
        rw [this, Int.mul_zero]
theorem dt_un : ∀ n, dt n un = 1
  | 0 => rfl
  | n + 1 => by
    rw [dt, sm_at (p := 0) (by omega) fun i hi hne => by rw [show un 0 i = 0 from one_ne hne, Int.mul_zero, Int.zero_mul]]
    have e : (fun j k => un (j + 1) (skp 0 k)) = un := by
      funext j k
      rw [skp_ge (by omega)]
      unfold un one
      by_cases h : k = j
      · rw [if_pos h, if_pos (by omega)]
      · rw [if_neg h, if_neg (by omega)]
    rw [e, dt_un n]
    rfl
/-- Rows for columns. -/
theorem dt_tr (n : Nat) (C : Mx) : dt n (tr C) = dt n C := by
  have h := (dtr_alt n).only C
  rw [tr_un, dt_un, Int.one_mul] at h
  exact h
theorem dt_alt (n : Nat) : Alt n (dt n) := by
  have e : (fun C => dt n (tr C)) = dt n := funext fun C => dt_tr n C
  rw [← e]
  exact dtr_alt n
/-! ### Products -/
def mm (n : Nat) (A B : Mx) : Mx := fun i j => sm n fun k => A i k * B k j
theorem mm_un {n : Nat} (B : Mx) {i : Nat} (hi : i < n) (j : Nat) : mm n un B i j = B i j := by
  unfold mm
  rw [sm_at (p := i) hi fun k _ hne => by rw [show un i k = 0 from one_ne hne, Int.zero_mul], show un i i = 1 from one_at i, Int.one_mul]
theorem un_mm {n : Nat} (A : Mx) (i : Nat) {j : Nat} (hj : j < n) : mm n A un i j = A i j := by
  unfold mm
  rw [sm_at (p := j) hj fun k _ hne => by rw [show un k j = 0 from one_ne (fun e => hne e.symm), Int.mul_zero], show un j j = 1 from one_at j, Int.mul_one]
theorem mm_tr (n : Nat) (A B : Mx) : tr (mm n A B) = mm n (tr B) (tr A) := by
  funext i j
  exact sm_congr fun k _ => Int.mul_comm _ _
theorem mm_assoc (n : Nat) (A B C : Mx) : mm n (mm n A B) C = mm n A (mm n B C) := by
  funext i j
  unfold mm
  have e1 : (fun k => (sm n fun l => A i l * B l k) * C k j) = fun k => sm n fun l => A i l * B l k * C k j := funext fun k => (sm_mulr _ _ _).symm
  have e2 : (fun l => A i l * sm n fun k => B l k * C k j) = fun l => sm n fun k => A i l * (B l k * C k j) := funext fun l => (sm_mul _ _ _).symm
  rw [e1, e2, sm_swap]
  exact sm_congr fun l _ => sm_congr fun k _ => Int.mul_assoc _ _ _
theorem mm_upd (n : Nat) (A B : Mx) (p : Nat) (w : Nat → Int) : mm n (upd A p w) B = upd (mm n A B) p fun j => sm n fun k => w k * B k j := by
  funext i
  by_cases h : i = p
  · subst h; rw [upd_at]; funext j; unfold mm; rw [upd_at]
  · rw [upd_ne _ _ h]; funext j; unfold mm; rw [upd_ne _ _ h]
theorem mm_ext {n : Nat} {A A' B B' : Mx} (hA : ∀ i, i < n → ∀ j, j < n → A i j = A' i j) (hB : ∀ i, i < n → ∀ j, j < n → B i j = B' i j) : ∀ i, i < n → ∀ j, j < n → mm n A B i j = mm n A' B' i j := fun i hi j hj => sm_congr fun k hk => by rw [hA i hi k hk, hB k hk j hj]
/-- Determinants are multiplied. -/
theorem dt_mul (n : Nat) (A B : Mx) : dt n (mm n A B) = dt n A * dt n B := by
  have H : Alt n fun A => dt n (mm n A B) := by
    refine ⟨fun C D h => dt_ext (mm_ext h fun _ _ _ _ => rfl), fun C p a u v hp => ?_, fun C p hp h => ?_⟩
    · show dt n (mm n _ B) = a * dt n (mm n _ B) + dt n (mm n _ B)
      rw [mm_upd, mm_upd, mm_upd, ← (dt_alt n).lin _ _ _ _ _ hp]
      congr 2
      funext j
      rw [← sm_lin]
      exact sm_congr fun k _ => by rw [Int.add_mul, Int.mul_assoc]
    · exact (dt_alt n).nul _ p hp fun j hj => sm_congr fun k hk => by rw [h k hk]
  have h := H.only A
  have e : dt n (mm n un B) = dt n B := dt_ext fun i hi j _ => mm_un B hi j
  rw [e] at h
  rw [h, Int.mul_comm]
/-! ### By any row -/
/-- A row further ahead. -/
def mvA (A : Mx) (i t : Nat) : Mx := fun j => if j < t then A j else if j = t then A i else if j ≤ i then A (j - 1) else A j
theorem Alt.move {n : Nat} {F : Mx → Int} (H : Alt n F) (A : Mx) {i : Nat} (hi : i < n) : ∀ d t, t + d = i → F (mvA A i t) = sg d * F A
  | 0, t, h => by
    have e : mvA A i t = A := by
      funext j
      unfold mvA
      split
      · rfl
      · split
        · rename_i h2; rw [h2, show t = i by omega]
        · rw [if_neg (by omega)]
    rw [e, sg, Int.one_mul]
  | d + 1, t, h => by
    have ih := H.move A hi d (t + 1) (by omega)
    rw [H.turn (mvA A i t) (j := t) (by omega), sg, Int.neg_mul, ← ih]
    congr 2
    funext j
    by_cases h1 : j = t + 1
    · subst h1
      rw [upd_at]
      unfold mvA
      rw [if_neg (by omega), if_pos rfl, if_neg (by omega), if_pos rfl]
    · rw [upd_ne _ _ h1]
      by_cases h2 : j = t
      · subst h2
        rw [upd_at]
        unfold mvA
        rw [if_neg (by omega), if_neg (by omega), if_pos (by omega), if_pos (by omega), Nat.add_sub_cancel]
      · rw [upd_ne _ _ h2]
        unfold mvA
        by_cases h3 : j < t
        · rw [if_pos h3, if_pos (by omega)]
        · rw [if_neg h3, if_neg h2, if_neg (show ¬ j < t + 1 by omega), if_neg h1]
def mnr (i j : Nat) (A : Mx) : Mx := fun r c => A (skp i r) (skp j c)
theorem mnr_tr (i j : Nat) (A : Mx) : mnr j i (tr A) = tr (mnr i j A) := rfl
theorem mnr_upd (i j : Nat) (A : Mx) (v : Nat → Int) : mnr i j (upd A i v) = mnr i j A := by
  funext r c
  unfold mnr
  rw [upd_ne _ _ (skp_ne i r)]
theorem dt_row (n : Nat) (A : Mx) {i : Nat} (hi : i < n + 1) : dt (n + 1) A = sm (n + 1) fun j => sg (i + j) * A i j * dt n (mnr i j A) := by
  have h := (dt_alt (n + 1)).move A hi i 0 (by omega)
  have e : dt (n + 1) (mvA A i 0) = sm (n + 1) fun j => sg j * A i j * dt n (mnr i j A) := by
    rw [dt]
    refine sm_congr fun j hj => ?_
    have e1 : mvA A i 0 0 = A i := by unfold mvA; rw [if_neg (by omega), if_pos rfl]
    have e2 : (fun r c => mvA A i 0 (r + 1) (skp j c)) = mnr i j A := by
      funext r c
      unfold mnr mvA
      rw [if_neg (by omega), if_neg (by omega)]
      by_cases h1 : r < i
      · rw [if_pos (by omega), Nat.add_sub_cancel, skp_lt h1]
      · rw [if_neg (by omega), skp_ge h1]
    rw [e1, e2]
  rw [e] at h
  have h2 : dt (n + 1) A = sg i * sm (n + 1) fun j => sg j * A i j * dt n (mnr i j A) := by rw [h, ← Int.mul_assoc, sg_sq, Int.one_mul]
  rw [h2, ← sm_mul]
  refine sm_congr fun j _ => ?_
  rw [sg_add, Int.mul_assoc (sg i), Int.mul_assoc (sg i), Int.mul_assoc (sg j)]
/-- The adjugate, of n + 1 rows. -/
def ad (n : Nat) (A : Mx) : Mx := fun i j => sg (i + j) * dt n (mnr j i A)
theorem ad_tr (n : Nat) (A : Mx) : ad n (tr A) = tr (ad n A) := by
  funext i j
  show sg (i + j) * dt n (mnr j i (tr A)) = sg (j + i) * dt n (mnr i j A)
  rw [Nat.add_comm j i, ← dt_tr n (mnr i j A)]
  rfl
theorem ad_right (n : Nat) (A : Mx) {i k : Nat} (hi : i < n + 1) (hk : k < n + 1) : mm (n + 1) A (ad n A) i k = if i = k then dt (n + 1) A else 0 := by
  have e : mm (n + 1) A (ad n A) i k = dt (n + 1) (upd A k (A i)) := by
    rw [dt_row n _ hk]
    refine sm_congr fun j _ => ?_
    unfold ad
    rw [upd_at, mnr_upd, Nat.add_comm j k, ← Int.mul_assoc, Int.mul_comm (A i j)]
  rw [e]
  by_cases h : i = k
  · rw [if_pos h, h, upd_self]
  · rw [if_neg h]
    exact (dt_alt (n + 1)).twice _ hi hk h fun r _ => by rw [upd_ne _ _ h, upd_at]
theorem ad_left (n : Nat) (A : Mx) {i k : Nat} (hi : i < n + 1) (hk : k < n + 1) : mm (n + 1) (ad n A) A i k = if i = k then dt (n + 1) A else 0 := by
  have h := ad_right n (tr A) hk hi
  rw [ad_tr, ← mm_tr, dt_tr] at h
  show tr (mm (n + 1) (ad n A) A) k i = _
  rw [h]
  by_cases e : i = k
  · rw [if_pos e, if_pos e.symm]
  · rw [if_neg e, if_neg (fun e2 => e e2.symm)]
end Go.Proofs.Ytjaabemlpiafaab
