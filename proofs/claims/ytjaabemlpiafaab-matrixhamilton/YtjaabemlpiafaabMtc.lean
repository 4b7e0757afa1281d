/-
  Plain mathematics of the characteristic of a matrix: over all sets of rows; what it tells of each number.
-/
import Derived.Test.YtjaabemlpiafaabMtp
namespace Go.Proofs.Ytjaabemlpiafaab
open Go.RowKit
set_option linter.unusedVariables false

theorem sm_app (g : Nat → Int) (a : Nat) : ∀ b, sm (a + b) g = sm a g + sm b fun i => g (a + i)
  | 0 => by rw [Nat.add_zero, sm, Int.add_zero]
  | b + 1 => by rw [← Nat.add_assoc, sm, sm_app g a b, sm]; omega
theorem sm_rev (g : Nat → Int) : ∀ n, sm (n + 1) g = sm (n + 1) fun t => g (n - t)
  | 0 => rfl
  | n + 1 => by
    have e : sm (n + 1) (fun i => g (n + 1 - (i + 1))) = sm (n + 1) g := by
      rw [sm_rev g n]
      exact sm_congr fun i hi => by rw [show n + 1 - (i + 1) = n - i by omega]
    rw [sm_first (fun t => g (n + 1 - t)) (n + 1), e, sm, Nat.sub_zero, Int.add_comm]
/-! ### Sets of rows -/
def bt (s i : Nat) : Bool := s / 2 ^ i % 2 == 1
theorem bt_low {s m : Nat} (h : s < 2 ^ m) : bt s m = false := by unfold bt; rw [Nat.div_eq_of_lt h]; rfl
theorem bt_high {s m : Nat} (h : s < 2 ^ m) : bt (2 ^ m + s) m = true := by
  unfold bt
  rw [Nat.add_div_left _ (Nat.pow_pos (by omega)), Nat.div_eq_of_lt h]
  rfl
theorem bt_lo {s m i : Nat} (h : i < m) : bt (2 ^ m + s) i = bt s i := by
  unfold bt
  have e : 2 ^ m = 2 ^ i * (2 * 2 ^ (m - i - 1)) := by
    rw [← Nat.mul_assoc, ← Nat.pow_succ, ← Nat.pow_add]
    congr 1
    omega
  rw [e, Nat.mul_add_div (Nat.pow_pos (by omega)), Nat.add_comm, Nat.add_mul_mod_self_left]
def cnt (S : Nat → Bool) : Nat → Nat
  | 0 => 0
  | m + 1 => cnt S m + if S m = true then 1 else 0
theorem cnt_le (S : Nat → Bool) : ∀ m, cnt S m ≤ m
  | 0 => Nat.le_refl _
  | m + 1 => by have := cnt_le S m; rw [cnt]; split <;> omega
theorem cnt_congr {S S' : Nat → Bool} : ∀ {m : Nat}, (∀ i, i < m → S i = S' i) → cnt S m = cnt S' m
  | 0, _ => rfl
  | m + 1, h => by rw [cnt, cnt, cnt_congr fun i hi => h i (by omega), h m (by omega)]
/-- The row of a set at a place. -/
def sel (S : Nat → Bool) : Nat → Nat → Nat
  | 0, r => r
  | i + 1, r => if S i = true then sel S i r else skp i (sel S i r)
theorem sel_yes {S : Nat → Bool} {i : Nat} (h : S i = true) (r : Nat) : sel S (i + 1) r = sel S i r := by rw [sel, if_pos h]
theorem sel_no {S : Nat → Bool} {i : Nat} (h : ¬ S i = true) (r : Nat) : sel S (i + 1) r = skp i (sel S i r) := by rw [sel, if_neg h]
theorem sel_top (S : Nat → Bool) : ∀ m d, sel S m (cnt S m + d) = m + d
  | 0, d => rfl
  | m + 1, d => by
    by_cases h : S m = true
    · rw [sel_yes h, cnt, if_pos h, Nat.add_assoc, sel_top S m]; omega
    · rw [sel_no h, cnt, if_neg h, Nat.add_zero, sel_top S m, skp_ge (by omega)]; omega
theorem sel_in {S : Nat → Bool} : ∀ {m r : Nat}, r < cnt S m → sel S m r < m ∧ S (sel S m r) = true
  | 0, r, h => by simp [cnt] at h
  | m + 1, r, h => by
    by_cases hs : S m = true
    · rw [sel_yes hs]
      rw [cnt, if_pos hs] at h
      by_cases h1 : r < cnt S m
      · have := sel_in h1; exact ⟨by omega, this.2⟩
      · have e := sel_top S m 0
        rw [Nat.add_zero] at e
        rw [show r = cnt S m by omega, e]
        exact ⟨by omega, hs⟩
    · rw [cnt, if_neg hs, Nat.add_zero] at h
      have := sel_in h
      rw [sel_no hs, skp_lt this.1]
      exact ⟨by omega, this.2⟩
theorem sel_congr {S S' : Nat → Bool} : ∀ {m : Nat}, (∀ i, i < m → S i = S' i) → ∀ r, sel S m r = sel S' m r
  | 0, _, _ => rfl
  | m + 1, h, r => by rw [sel, sel, sel_congr (fun i hi => h i (by omega)) r, h m (by omega)]
def sub (S : Nat → Bool) (m : Nat) (A : Mx) : Mx := fun r c => A (sel S m r) (sel S m c)
/-! ### Rows that are sums, rows that are multiples -/
section
variable {n : Nat} {F : Mx → Int}
theorem Alt.split (H : Alt n F) (R0 R1 : Mx) : ∀ (m : Nat) (T : Mx), m ≤ n → F (fun i => if i < m then fun j => R0 i j + R1 i j else T i) = sm (2 ^ m) fun s => F fun i => if i < m then (if bt s i = true then R1 i else R0 i) else T i
  | 0, T, _ => by
    show _ = 0 + _
    rw [Int.zero_add]
    rfl
  | m + 1, T, hm => by
    have e0 : ∀ (P : Mx) (v : Nat → Int) (T : Mx), upd (fun i => if i < m then P i else T i) m v = fun i => if i < m then P i else upd T m v i := fun P v T => by
      funext i
      by_cases h : i = m
      · subst h; rw [upd_at, if_neg (by omega), upd_at]
      · rw [upd_ne _ _ h, upd_ne _ _ h]
    have e1 : (fun i => if i < m + 1 then fun j => R0 i j + R1 i j else T i) = upd (fun i => if i < m then fun j => R0 i j + R1 i j else T i) m fun j => R0 m j + R1 m j := by
      rw [e0]
      funext i
      by_cases h : i < m
      · rw [if_pos (by omega), if_pos h]
      · rw [if_neg h]
        by_cases h2 : i = m
        · subst h2; rw [if_pos (by omega), upd_at]
        · rw [if_neg (by omega), upd_ne _ _ h2]
    rw [e1, H.add _ _ _ (by omega), e0, e0, H.split R0 R1 m _ (by omega), H.split R0 R1 m _ (by omega), Nat.pow_succ, Nat.mul_two, sm_app]
    congr 1
    · refine sm_congr fun s hs => ?_
      congr 1
      funext i
      by_cases h : i < m
      · rw [if_pos h, if_pos (show i < m + 1 by omega)]
      · rw [if_neg h]
        by_cases h2 : i = m
        · subst h2; rw [if_pos (show i < i + 1 by omega), upd_at, bt_low hs]; rfl
        · rw [if_neg (by omega), upd_ne _ _ h2]
    · refine sm_congr fun s hs => ?_
      congr 1
      funext i
      by_cases h : i < m
      · rw [if_pos h, if_pos (show i < m + 1 by omega), bt_lo h]
      · rw [if_neg h]
        by_cases h2 : i = m
        · subst h2; rw [if_pos (show i < i + 1 by omega), upd_at, bt_high hs]; rfl
        · rw [if_neg (by omega), upd_ne _ _ h2]
theorem Alt.times (H : Alt n F) (C : Mx) {j : Nat} (hj : j < n) (a : Int) (u : Nat → Int) : F (upd C j fun i => a * u i) = a * F (upd C j u) := by
  have h := H.lin C j a u (fun _ => 0) hj
  rw [H.zero C hj, Int.add_zero] at h
  rw [← h]
  congr 2
  funext i
  rw [Int.add_zero]
def prI (a : Nat → Int) : Nat → Int
  | 0 => 1
  | m + 1 => prI a m * a m
theorem Alt.scale (H : Alt n F) (a : Nat → Int) (U : Mx) : ∀ (m : Nat) (T : Mx), m ≤ n → F (fun i => if i < m then fun j => a i * U i j else T i) = prI a m * F fun i => if i < m then U i else T i
  | 0, T, _ => by rw [prI, Int.one_mul]; rfl
  | m + 1, T, hm => by
    have e0 : ∀ (P : Mx) (v : Nat → Int) (T : Mx), (fun i => if i < m then P i else upd T m v i) = upd (fun i => if i < m then P i else T i) m v := fun P v T => by
      funext i
      by_cases h : i = m
      · subst h; rw [upd_at, if_neg (by omega), upd_at]
      · rw [upd_ne _ _ h, upd_ne _ _ h]
    have e1 : ∀ P : Mx, (fun i => if i < m + 1 then P i else T i) = fun i => if i < m then P i else upd T m (P m) i := fun P => by
      funext i
      by_cases h : i < m
      · rw [if_pos (by omega), if_pos h]
      · rw [if_neg h]
        by_cases h2 : i = m
        · subst h2; rw [if_pos (by omega), upd_at]
        · rw [if_neg (by omega), upd_ne _ _ h2]
    rw [e1 fun i j => a i * U i j, e1 U, H.scale a U m _ (by omega), e0, H.times _ (by omega), prI, e0, Int.mul_assoc]
end
/-- Rows of the unit are left out. -/
theorem unit_rows (S : Nat → Bool) : ∀ (m n : Nat) (M : Mx), m ≤ n → (∀ i, i < m → S i = false → ∀ j, j < n → M i j = one i j) → dt n M = dt (n - m + cnt S m) (sub S m M)
  | 0, n, M, _, _ => rfl
  | m + 1, n, M, hm, h => by
    by_cases hs : S m = true
    · have ih := unit_rows S m n M (by omega) fun i hi => h i (by omega)
      have e : sub S (m + 1) M = sub S m M := by funext r c; unfold sub; rw [sel_yes hs, sel_yes hs]
      rw [e, cnt, if_pos hs, show n - (m + 1) + (cnt S m + 1) = n - m + cnt S m by omega]
      exact ih
    · obtain ⟨k, rfl⟩ : ∃ k, n = k + 1 := ⟨n - 1, by omega⟩
      have hf : S m = false := by simpa using hs
      have h1 : dt (k + 1) M = dt k (mnr m m M) := by
        rw [dt_row k M (i := m) (by omega), sm_at (p := m) (by omega) fun j hj hne => by rw [h m (by omega) hf j hj, one_ne hne, Int.mul_zero, Int.zero_mul], h m (by omega) hf m (by omega), one_at, sg_add, sg_sq, Int.one_mul, Int.one_mul]
      have ih := unit_rows S m k (mnr m m M) (by omega) fun i hi hi2 j hj => by
        unfold mnr
        rw [skp_lt hi, h i (by omega) hi2 _ (skp_bd hj)]
        unfold one skp
        split
        · rfl
        · rw [if_neg (by omega), if_neg (by omega)]
      have e : sub S m (mnr m m M) = sub S (m + 1) M := by
        funext r c
        unfold sub mnr
        rw [sel_no hs, sel_no hs]
      rw [h1, ih, e, cnt, if_neg hs, show k + 1 - (m + 1) + (cnt S m + 0) = k - m + cnt S m by omega]
/-! ### The characteristic -/
/-- The sum of all determinants of k rows with the columns of the same numbers, with its sign. -/
def chc (n : Nat) (A : Mx) (k : Nat) : Int := sm (2 ^ n) fun s => if cnt (bt s) n = k then sg k * dt k (sub (bt s) n A) else 0
def xI (x : Int) (A : Mx) : Mx := fun i j => x * un i j - A i j
theorem prI_set (S : Nat → Bool) (x : Int) : ∀ m, prI (fun i => if S i = true then -1 else x) m = sg (cnt S m) * x ^ (m - cnt S m)
  | 0 => by show (1 : Int) = 1 * x ^ 0; rw [Int.pow_zero]; rfl
  | m + 1 => by
    have hl := cnt_le S m
    rw [prI, prI_set S x m, cnt]
    by_cases h : S m = true
    · rw [if_pos h, if_pos h, sg, show m + 1 - (cnt S m + 1) = m - cnt S m by omega]
      generalize x ^ (m - cnt S m) = p
      generalize sg (cnt S m) = s
      grind
    · rw [if_neg h, if_neg h, Nat.add_zero, show m + 1 - cnt S m = (m - cnt S m) + 1 by omega, Int.pow_succ, Int.mul_assoc]
theorem dt_set (n : Nat) (A : Mx) (x : Int) (S : Nat → Bool) : dt n (fun i => if i < n then (if S i = true then fun j => -1 * A i j else fun j => x * one i j) else A i) = sg (cnt S n) * dt (cnt S n) (sub S n A) * x ^ (n - cnt S n) := by
  have e : (fun i => if i < n then (if S i = true then fun j => -1 * A i j else fun j => x * one i j) else A i) = fun i => if i < n then fun j => (if S i = true then -1 else x) * (if S i = true then A i else one i) j else A i := by
    funext i
    by_cases h : i < n
    · rw [if_pos h, if_pos h]
      by_cases hs : S i = true
      · rw [if_pos hs]; funext j; rw [if_pos hs, if_pos hs]
      · rw [if_neg hs]; funext j; rw [if_neg hs, if_neg hs]
    · rw [if_neg h, if_neg h]
  rw [e, (dt_alt n).scale (fun i => if S i = true then -1 else x) (fun i => if S i = true then A i else one i) n A (Nat.le_refl _), prI_set]
  rw [unit_rows S n n _ (Nat.le_refl _) fun i hi hf j hj => by rw [if_pos hi, if_neg (by rw [hf]; decide)], Nat.sub_self, Nat.zero_add]
  have e2 : dt (cnt S n) (sub S n fun i => if i < n then (if S i = true then A i else one i) else A i) = dt (cnt S n) (sub S n A) := dt_ext fun r hr c hc => by
    have h1 := sel_in hr
    show (if sel S n r < n then (if S (sel S n r) = true then A (sel S n r) else one (sel S n r)) else A (sel S n r)) (sel S n c) = A (sel S n r) (sel S n c)
    rw [if_pos h1.1, if_pos h1.2]
  rw [e2]
  generalize x ^ (n - cnt S n) = p
  generalize sg (cnt S n) = s
  grind
/-- What it tells of each number. -/
theorem dt_char (n : Nat) (A : Mx) (x : Int) : dt n (xI x A) = sm (n + 1) fun t => chc n A (n - t) * x ^ t := by
  have e1 : dt n (xI x A) = dt n fun i => if i < n then fun j => x * one i j + -1 * A i j else A i := dt_ext fun i hi j hj => by
    rw [if_pos hi]
    unfold xI un
    omega
  rw [e1, (dt_alt n).split (fun i j => x * one i j) (fun i j => -1 * A i j) n A (Nat.le_refl _)]
  have e2 : (fun s => dt n fun i => if i < n then (if bt s i = true then (fun j => -1 * A i j) else fun j => x * one i j) else A i) = fun s => sm (n + 1) fun k => if cnt (bt s) n = k then sg k * dt k (sub (bt s) n A) * x ^ (n - k) else 0 := by
    funext s
    rw [dt_set n A x (bt s)]
    have hl := cnt_le (bt s) n
    rw [sm_at (p := cnt (bt s) n) (by omega) fun k _ hne => if_neg (fun e => hne e.symm), if_pos rfl]
  have e3 : (sm (2 ^ n) fun s => dt n fun i => if i < n then (if bt s i = true then (fun j => -1 * A i j) else fun j => x * one i j) else A i) = sm (n + 1) fun k => chc n A k * x ^ (n - k) := by
    rw [e2, sm_swap]
    refine sm_congr fun k hk => ?_
    unfold chc
    rw [← sm_mulr]
    refine sm_congr fun s _ => ?_
    by_cases h : cnt (bt s) n = k
    · rw [if_pos h, if_pos h]
    · rw [if_neg h, if_neg h, Int.zero_mul]
  refine Eq.trans e3 ?_
  rw [sm_rev]
  exact sm_congr fun t ht => by rw [show n - (n - t) = t by omega]
/-- Its last number is 1. -/
theorem cnt_none : ∀ {m s : Nat}, s < 2 ^ m → (cnt (bt s) m = 0 ↔ s = 0)
  | 0, s, h => by
    have : s = 0 := by simpa using h
    subst this
    exact ⟨fun _ => rfl, fun _ => rfl⟩
  | m + 1, s, h => by
    rw [cnt]
    by_cases h1 : s < 2 ^ m
    · rw [bt_low h1, if_neg (by decide), Nat.add_zero]
      exact cnt_none h1
    · obtain ⟨r, rfl⟩ : ∃ r, s = 2 ^ m + r := ⟨s - 2 ^ m, by omega⟩
      have hr : r < 2 ^ m := by rw [Nat.pow_succ] at h; omega
      rw [bt_high hr, if_pos rfl]
      have : 0 < 2 ^ m := Nat.pow_pos (by omega)
      exact ⟨fun e => by omega, fun e => by omega⟩
theorem chc_zero (n : Nat) (A : Mx) : chc n A 0 = 1 := by
  unfold chc
  have hp : 0 < 2 ^ n := Nat.pow_pos (by omega)
  rw [sm_at (p := 0) hp fun s hs hne => if_neg fun e => hne ((cnt_none hs).1 e), if_pos ((cnt_none hp).2 rfl)]
  rfl
end Go.Proofs.Ytjaabemlpiafaab
