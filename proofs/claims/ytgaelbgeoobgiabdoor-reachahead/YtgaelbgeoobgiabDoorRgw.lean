/-
  Plain mathematics: WARSHALL: one thing after the other, each way that stops on it.
-/
import Derived.Test.YtgaelbgeoobgiabDoorRcm
namespace Go.Proofs.YtgaelbgeoobgiabDoor
open Go.RowKit
set_option linter.unusedVariables false

/-- The things below k have had their turn. -/
def ws (A : Rl) : Nat → Rl
  | 0 => A
  | k + 1 => fun i j => ws A k i j || (ws A k i k && ws A k k j)
theorem ws_succ {A : Rl} {k i j : Nat} : ws A (k + 1) i j = true ↔ ws A k i j = true ∨ (ws A k i k = true ∧ ws A k k j = true) := by
  rw [ws, Bool.or_eq_true, Bool.and_eq_true]
theorem ws_mono {A : Rl} {i j : Nat} (h : A i j = true) : ∀ k, ws A k i j = true
  | 0 => h
  | k + 1 => ws_succ.2 (.inl (ws_mono h k))
theorem ws_thru {A : Rl} : ∀ k m, m < k → ∀ i j, ws A k i m = true → ws A k m j = true → ws A k i j = true
  | 0, m, h, _, _, _, _ => absurd h (Nat.not_lt_zero _)
  | k + 1, m, h, i, j, h1, h2 => by
    have ih := ws_thru (A := A) k
    rw [ws_succ] at h1 h2 ⊢
    by_cases e : m = k
    · subst e
      have g1 : ws A m i m = true := by rcases h1 with h1 | h1; exact h1; exact h1.1
      have g2 : ws A m m j = true := by rcases h2 with h2 | h2; exact h2; exact h2.2
      exact .inr ⟨g1, g2⟩
    · have hm : m < k := by omega
      rcases h1 with h1 | h1 <;> rcases h2 with h2 | h2
      · exact .inl (ih m hm i j h1 h2)
      · exact .inr ⟨ih m hm i k h1 h2.1, h2.2⟩
      · exact .inr ⟨h1.1, ih m hm k j h1.2 h2⟩
      · exact .inr ⟨h1.1, h2.2⟩
theorem ws_in {A : Rl} {n : Nat} : ∀ k, k ≤ n → ∀ i j, j < n → ws A k i j = true → clB A n i j = true
  | 0, _, i, j, hj, h => cl_step hj h
  | k + 1, hk, i, j, hj, h => by
    rw [ws_succ] at h
    rcases h with h | h
    · exact ws_in k (by omega) i j hj h
    · exact cl_trans (ws_in k (by omega) i k (by omega) h.1) (ws_in k (by omega) k j hj h.2)
theorem ws_all {A : Rl} {n i j : Nat} (hi : i < n) (hj : j < n) : ws A n i j = clB A n i j := by
  rw [Bool.eq_iff_iff]
  exact ⟨fun h => ws_in n (Nat.le_refl n) i j hj h, fun h => cl_least (R := A) (T := ws A n) (fun i _ j _ h => ws_mono h n) (fun i _ m hm j _ h1 h2 => ws_thru n m hm i j h1 h2) hi h⟩
/-- In the turn of thing v, those ahead of i have been asked. -/
def wsi (S : Rl) (v i : Nat) : Rl := fun a c => if a < i then S a c || (S a v && S v c) else S a c
theorem wsi_zero (S : Rl) (v : Nat) : wsi S v 0 = S := by funext a c; unfold wsi; rw [if_neg (Nat.not_lt_zero _)]
theorem wsi_row {S : Rl} {v i : Nat} (a : Nat) : wsi S v i v a = S v a := by
  unfold wsi
  by_cases h : v < i
  · rw [if_pos h]
    cases S v a <;> cases S v v <;> rfl
  · rw [if_neg h]
theorem wsi_at {S : Rl} {v i : Nat} (a : Nat) : wsi S v i i a = S i a := by unfold wsi; rw [if_neg (Nat.lt_irrefl i)]
theorem wsi_yes {S : Rl} {v i : Nat} (h : S i v = true) : (fun a c => if a = i then (wsi S v i i c || wsi S v i v c) else wsi S v i a c) = wsi S v (i + 1) := by
  funext a c
  by_cases e : a = i
  · subst e
    rw [if_pos rfl, wsi_at, wsi_row]
    unfold wsi
    rw [if_pos (Nat.lt_succ_self a), h, Bool.true_and]
  · rw [if_neg e]
    unfold wsi
    by_cases h2 : a < i
    · rw [if_pos h2, if_pos (by omega)]
    · rw [if_neg h2, if_neg (by omega)]
theorem wsi_no {S : Rl} {v i : Nat} (h : S i v = false) : wsi S v i = wsi S v (i + 1) := by
  funext a c
  unfold wsi
  by_cases h2 : a < i
  · rw [if_pos h2, if_pos (by omega)]
  · rw [if_neg h2]
    by_cases e : a = i
    · subst e
      rw [if_pos (by omega), h, Bool.false_and, Bool.or_false]
    · rw [if_neg (by omega)]
theorem wsi_end {A : Rl} {k n a c : Nat} (ha : a < n) : wsi (ws A k) k n a c = ws A (k + 1) a c := by unfold wsi; rw [if_pos ha]; rfl
/-- Things that there are not lead nowhere. -/
theorem cl_wide {A : Rl} {n m i j : Nat} (hn : n ≤ m) (h : ∀ i j, A i j = true → i < n ∧ j < n) (hi : i < n) : clB A m i j = clB A n i j := by
  rw [Bool.eq_iff_iff]
  constructor
  · intro h1
    exact cl_least (R := A) (n := m) (T := clB A n) (fun i _ j _ h2 => cl_step (h i j h2).2 h2) (fun _ _ _ _ _ _ h1 h2 => cl_trans h1 h2) (by omega) h1
  · intro h1
    exact cl_least (R := A) (n := n) (T := clB A m) (fun i _ j hj h2 => cl_step (by omega) h2) (fun _ _ _ _ _ _ h1 h2 => cl_trans h1 h2) hi h1
theorem cl_eqv {A B : Rl} {n i j : Nat} (h : ∀ i, i < n → ∀ j, j < n → A i j = B i j) (hi : i < n) : clB A n i j = clB B n i j := by
  rw [Bool.eq_iff_iff]
  exact ⟨fun h1 => cl_least (R := A) (T := clB B n) (fun i hi j hj h2 => cl_step hj (by rw [← h i hi j hj]; exact h2)) (fun _ _ _ _ _ _ h1 h2 => cl_trans h1 h2) hi h1, fun h1 => cl_least (R := B) (T := clB A n) (fun i hi j hj h2 => cl_step hj (by rw [h i hi j hj]; exact h2)) (fun _ _ _ _ _ _ h1 h2 => cl_trans h1 h2) hi h1⟩
end Go.Proofs.YtgaelbgeoobgiabDoor
