/-
  Plain mathematics of determinants: sums, functions of columns that are linear in each and 0 where two are the same; there is one of them for each number that it tells of the unit; rows and columns.
-/
import Derived.Test.YtjaabemlpiafaabBase
namespace Go.Proofs.Ytjaabemlpiafaab
open Go.RowKit
set_option linter.unusedVariables false

/-! ### Sums -/
def sm : Nat → (Nat → Int) → Int
  | 0, _ => 0
  | n + 1, g => sm n g + g n
theorem sm_congr : ∀ {n : Nat} {g h : Nat → Int}, (∀ i, i < n → g i = h i) → sm n g = sm n h
  | 0, _, _, _ => rfl
  | n + 1, g, h, e => by rw [sm, sm, sm_congr fun i hi => e i (by omega), e n (by omega)]
theorem sm_zero : ∀ {n : Nat} {g : Nat → Int}, (∀ i, i < n → g i = 0) → sm n g = 0
  | 0, _, _ => rfl
  | n + 1, g, e => by rw [sm, sm_zero fun i hi => e i (by omega), e n (by omega)]; rfl
theorem sm_add (g h : Nat → Int) : ∀ n, sm n (fun i => g i + h i) = sm n g + sm n h
  | 0 => rfl
  | n + 1 => by rw [sm, sm, sm, sm_add g h n]; omega
theorem sm_mul (a : Int) (g : Nat → Int) : ∀ n, sm n (fun i => a * g i) = a * sm n g
  | 0 => by rw [sm, sm, Int.mul_zero]
  | n + 1 => by rw [sm, sm, sm_mul a g n, Int.mul_add]
theorem sm_mulr (a : Int) (g : Nat → Int) (n : Nat) : sm n (fun i => g i * a) = sm n g * a := by
  rw [Int.mul_comm, ← sm_mul]; exact sm_congr fun i _ => Int.mul_comm _ _
theorem sm_lin (a : Int) (g h : Nat → Int) (n : Nat) : sm n (fun i => a * g i + h i) = a * sm n g + sm n h := by rw [sm_add (fun i => a * g i) h, sm_mul]
theorem sm_neg (g : Nat → Int) : ∀ n, sm n (fun i => -g i) = -sm n g
  | 0 => rfl
  | n + 1 => by rw [sm, sm, sm_neg g n]; omega
theorem sm_first (g : Nat → Int) : ∀ n, sm (n + 1) g = g 0 + sm n fun i => g (i + 1)
  | 0 => by rw [sm, sm, sm]; omega
  | n + 1 => by rw [sm, sm_first g n, sm]; omega
theorem sm_swap (g : Nat → Nat → Int) (m : Nat) : ∀ n, sm n (fun i => sm m (g i)) = sm m fun j => sm n fun i => g i j
  | 0 => (sm_zero fun _ _ => rfl).symm
  | n + 1 => by rw [sm, sm_swap g m n, ← sm_add]; exact sm_congr fun j _ => rfl
theorem sm_at {p : Nat} {g : Nat → Int} : ∀ {n : Nat}, p < n → (∀ i, i < n → i ≠ p → g i = 0) → sm n g = g p
  | 0, h, _ => by omega
  | n + 1, h, e => by
    rw [sm]
    by_cases hp : p = n
    · subst hp; rw [sm_zero fun i hi => e i (by omega) (by omega), Int.zero_add]
    · rw [sm_at (by omega) fun i hi hne => e i (by omega) hne, e n (by omega) (fun h => hp h.symm), Int.add_zero]
theorem sm_at2 {p : Nat} {g : Nat → Int} : ∀ {n : Nat}, p + 1 < n → (∀ i, i < n → i ≠ p → i ≠ p + 1 → g i = 0) → sm n g = g p + g (p + 1)
  | 0, h, _ => by omega
  | n + 1, h, e => by
    rw [sm]
    by_cases hp : p + 1 = n
    · subst hp; rw [sm_at (p := p) (by omega) fun i hi hne => e i (by omega) hne (by omega)]
    · rw [sm_at2 (by omega) fun i hi h1 h2 => e i (by omega) h1 h2, e n (by omega) (by omega) (fun h => hp h.symm), Int.add_zero]
/-! ### Signs, and an index left out -/
def sg : Nat → Int
  | 0 => 1
  | n + 1 => -sg n
theorem sg_sq : ∀ n, sg n * sg n = 1
  | 0 => rfl
  | n + 1 => by rw [sg, Int.neg_mul_neg, sg_sq n]
theorem sg_add (m : Nat) : ∀ n, sg (m + n) = sg m * sg n
  | 0 => by rw [Nat.add_zero, sg, Int.mul_one]
  | n + 1 => by rw [← Nat.add_assoc, sg, sg_add m n, sg, Int.mul_neg]
theorem sg_two (n : Nat) : sg (n + 2) = sg n := by rw [sg, sg, Int.neg_neg]
theorem sg_even : ∀ {n : Nat}, n % 2 = 0 → sg n = 1
  | 0, _ => rfl
  | 1, h => by omega
  | n + 2, h => by rw [sg_two, sg_even (by omega)]
theorem sg_odd : ∀ {n : Nat}, n % 2 = 1 → sg n = -1
  | 0, h => by omega
  | 1, _ => rfl
  | n + 2, h => by rw [sg_two, sg_odd (by omega)]
def skp (j k : Nat) : Nat := if k < j then k else k + 1
theorem skp_lt {j k : Nat} (h : k < j) : skp j k = k := if_pos h
theorem skp_ge {j k : Nat} (h : ¬ k < j) : skp j k = k + 1 := if_neg h
theorem skp_ne (j k : Nat) : skp j k ≠ j := by unfold skp; split <;> omega
theorem skp_bd {j k n : Nat} (h : k < n) : skp j k < n + 1 := by unfold skp; split <;> omega
/-! ### Columns -/
abbrev Mx : Type := Nat → Nat → Int
def upd (C : Mx) (j : Nat) (v : Nat → Int) : Mx := fun k => if k = j then v else C k
theorem upd_at (C : Mx) (j : Nat) (v : Nat → Int) : upd C j v j = v := if_pos rfl
theorem upd_ne (C : Mx) {j k : Nat} (v : Nat → Int) (h : k ≠ j) : upd C j v k = C k := if_neg h
theorem upd_self (C : Mx) (j : Nat) : upd C j (C j) = C := by funext k; unfold upd; split <;> simp_all
theorem upd_upd (C : Mx) (j : Nat) (u v : Nat → Int) : upd (upd C j u) j v = upd C j v := by funext k; unfold upd; split <;> rfl
theorem upd_swap (C : Mx) {j k : Nat} (h : j ≠ k) (u v : Nat → Int) : upd (upd C j u) k v = upd (upd C k v) j u := by
  funext l
  unfold upd
  by_cases h1 : l = k
  · rw [if_pos h1, if_neg (by omega), if_pos h1]
  · rw [if_neg h1]
    by_cases h2 : l = j
    · rw [if_pos h2, if_pos h2]
    · rw [if_neg h2, if_neg h2, if_neg h1]
def one (i : Nat) : Nat → Int := fun r => if r = i then 1 else 0
def un : Mx := fun j => one j
theorem one_at (i : Nat) : one i i = 1 := if_pos rfl
theorem one_ne {i r : Nat} (h : r ≠ i) : one i r = 0 := if_neg h
/-- Linear in each column, 0 where two neighbours are the same; it sees n columns of n numbers. -/
structure Alt (n : Nat) (F : Mx → Int) : Prop where
  ext : ∀ C D : Mx, (∀ j, j < n → ∀ i, i < n → C j i = D j i) → F C = F D
  lin : ∀ (C : Mx) (j : Nat) (a : Int) (u v : Nat → Int), j < n → F (upd C j fun i => a * u i + v i) = a * F (upd C j u) + F (upd C j v)
  nul : ∀ (C : Mx) (j : Nat), j + 1 < n → (∀ i, i < n → C j i = C (j + 1) i) → F C = 0
section
variable {n : Nat} {F : Mx → Int}
theorem Alt.zero (H : Alt n F) (C : Mx) {j : Nat} (hj : j < n) : F (upd C j fun _ => 0) = 0 := by
  have h := H.lin C j 1 (fun _ => 0) (fun _ => 0) hj
  have e : (fun _ : Nat => (1 : Int) * 0 + 0) = fun _ => 0 := by funext _; rfl
  rw [e] at h
  omega
theorem Alt.add (H : Alt n F) (C : Mx) {j : Nat} (u v : Nat → Int) (hj : j < n) : F (upd C j fun i => u i + v i) = F (upd C j u) + F (upd C j v) := by
  have h := H.lin C j 1 u v hj
  have e : (fun i : Nat => 1 * u i + v i) = fun i => u i + v i := by funext _; rw [Int.one_mul]
  rw [e, Int.one_mul] at h
  exact h
/-- Neighbours change places. -/
theorem Alt.swap (H : Alt n F) (C : Mx) {j : Nat} (hj : j + 1 < n) (u v : Nat → Int) : F (upd (upd C j u) (j + 1) v) = -F (upd (upd C j v) (j + 1) u) := by
  have hs : ∀ w : Nat → Int, F (upd (upd C j w) (j + 1) w) = 0 := fun w => H.nul _ j hj fun i _ => by rw [upd_at, upd_ne _ _ (by omega), upd_at]
  have h0 := hs fun i => u i + v i
  rw [H.add _ _ _ hj, upd_swap C (by omega), H.add _ _ _ (by omega), upd_swap C (by omega) (fun i => u i + v i) v, H.add _ _ _ (by omega)] at h0
  rw [← upd_swap C (show j ≠ j + 1 by omega) u u, ← upd_swap C (show j ≠ j + 1 by omega) v u, ← upd_swap C (show j ≠ j + 1 by omega) u v, ← upd_swap C (show j ≠ j + 1 by omega) v v, hs u, hs v] at h0
  omega
theorem Alt.turn (H : Alt n F) (C : Mx) {j : Nat} (hj : j + 1 < n) : F C = -F (upd (upd C j (C (j + 1))) (j + 1) (C j)) := by
  have h := H.swap C hj (C j) (C (j + 1))
  rw [upd_self] at h
  have e : upd C (j + 1) (C (j + 1)) = C := upd_self C (j + 1)
  rw [e] at h
  exact h
/-- Any two that are the same. -/
theorem Alt.same (H : Alt n F) : ∀ (d : Nat) (C : Mx) (p : Nat), p + d + 1 < n → (∀ i, i < n → C p i = C (p + d + 1) i) → F C = 0
  | 0, C, p, hp, h => H.nul C p hp h
  | d + 1, C, p, hp, h => by
    rw [H.turn C (j := p + d + 1) (by omega), H.same d _ p (by omega) fun i hi => ?_, Int.neg_zero]
    rw [upd_ne _ _ (by omega), upd_ne _ _ (by omega), upd_ne _ _ (by omega), upd_at]
    exact h i hi
theorem Alt.twice (H : Alt n F) (C : Mx) {p q : Nat} (hp : p < n) (hq : q < n) (hne : p ≠ q) (h : ∀ i, i < n → C p i = C q i) : F C = 0 := by
  by_cases hl : p < q
  · exact H.same (q - p - 1) C p (by omega) fun i hi => by rw [show p + (q - p - 1) + 1 = q by omega]; exact h i hi
  · exact H.same (p - q - 1) C q (by omega) fun i hi => by rw [show q + (p - q - 1) + 1 = p by omega]; exact (h i hi).symm
/-- A multiple of one column added to another one. -/
theorem Alt.clear (H : Alt n F) (C : Mx) {p q : Nat} (hp : p < n) (hq : q < n) (hne : p ≠ q) (a : Int) : F (upd C q fun i => a * C p i + C q i) = F C := by
  rw [H.lin C q a (C p) (C q) hq, upd_self, H.twice _ hp hq hne fun i _ => by rw [upd_ne _ _ hne, upd_at], Int.mul_zero, Int.zero_add]
/-- A column as a sum. -/
theorem Alt.sum (H : Alt n F) (C : Mx) {j : Nat} (hj : j < n) (a : Nat → Int) (e : Nat → Nat → Int) : ∀ m, F (upd C j fun r => sm m fun i => a i * e i r) = sm m fun i => a i * F (upd C j (e i))
  | 0 => H.zero C hj
  | m + 1 => by
    have ih := H.sum C hj a e m
    have h := H.lin C j (a m) (e m) (fun r => sm m fun i => a i * e i r) hj
    have e1 : (fun r : Nat => sm (m + 1) fun i => a i * e i r) = fun r => a m * e m r + sm m fun i => a i * e i r := by funext r; rw [sm]; omega
    rw [e1, h, ih, sm]
    omega
/-- A column by its numbers. -/
theorem Alt.expand (H : Alt n F) (C : Mx) {j : Nat} (hj : j < n) : F C = sm n fun i => C j i * F (upd C j (one i)) := by
  rw [← H.sum C hj (C j) one n]
  refine H.ext _ _ fun k hk i hi => ?_
  by_cases h : k = j
  · subst h
    rw [upd_at, sm_at (p := i) hi fun l _ hne => by rw [one_ne (fun e => hne e.symm), Int.mul_zero], one_at, Int.mul_one]
  · rw [upd_ne _ _ h]
end
/-! ### The determinant, by the first column -/
def dt : Nat → Mx → Int
  | 0, _ => 1
  | n + 1, C => sm (n + 1) fun i => sg i * C 0 i * dt n fun j k => C (j + 1) (skp i k)
theorem dt_ext : ∀ {n : Nat} {C D : Mx}, (∀ j, j < n → ∀ i, i < n → C j i = D j i) → dt n C = dt n D
  | 0, _, _, _ => rfl
  | n + 1, C, D, h => by
    rw [dt, dt]
    exact sm_congr fun i hi => by rw [h 0 (by omega) i hi, dt_ext fun j hj k hk => h (j + 1) (by omega) _ (skp_bd hk)]
/-- A row put in. -/
def ins (i : Nat) (v : Nat → Int) : Nat → Int := fun r => if r < i then v r else if r = i then 0 else v (r - 1)
theorem ins_skp (i : Nat) (v : Nat → Int) (k : Nat) : ins i v (skp i k) = v k := by
  unfold ins skp
  by_cases h : k < i
  · rw [if_pos h, if_pos h]
  · rw [if_neg h, if_neg (by omega), if_neg (by omega), Nat.add_sub_cancel]
theorem insm_at (i : Nat) (v : Nat → Int) : ins i v i = 0 := by unfold ins; rw [if_neg (by omega), if_pos rfl]
/-- A first column, and the others with a row put in. -/
def frst (i : Nat) (D : Mx) : Mx := fun j => match j with
  | 0 => one i
  | j + 1 => ins i (D j)
theorem frst_zero (i : Nat) (D : Mx) : frst i D 0 = one i := rfl
theorem frst_succ (i : Nat) (D : Mx) (j : Nat) : frst i D (j + 1) = ins i (D j) := rfl
theorem frst_upd (i : Nat) (D : Mx) (j : Nat) (v : Nat → Int) : frst i (upd D j v) = upd (frst i D) (j + 1) (ins i v) := by
  funext k
  cases k with
  | zero => rw [frst_zero, upd_ne _ _ (by omega), frst_zero]
  | succ k =>
    rw [frst_succ]
    by_cases h : k = j
    · subst h; rw [upd_at, upd_at]
    · rw [upd_ne _ _ h, upd_ne _ _ (by omega), frst_succ]
theorem ins_lin (i : Nat) (a : Int) (u v : Nat → Int) : ins i (fun r => a * u r + v r) = fun r => a * ins i u r + ins i v r := by
  funext r
  unfold ins
  split
  · rfl
  · split
    · rw [Int.mul_zero]; rfl
    · rfl
section
variable {n : Nat} {F : Mx → Int}
theorem Alt.first (H : Alt (n + 1) F) {i : Nat} (hi : i < n + 1) : Alt n fun D => F (frst i D) := by
  refine ⟨fun C D h => H.ext _ _ fun j hj r hr => ?_, fun C j a u v hj => ?_, fun C j hj h => ?_⟩
  · cases j with
    | zero => rfl
    | succ j =>
      rw [frst_succ, frst_succ]
      unfold ins
      split
      · exact h j (by omega) r (by omega)
      · split
        · rfl
        · exact h j (by omega) _ (by omega)
  · show F (frst i _) = a * F (frst i _) + F (frst i _)
    rw [frst_upd, frst_upd, frst_upd, ins_lin, H.lin _ _ _ _ _ (by omega)]
  · refine H.nul _ (j + 1) (by omega) fun r hr => ?_
    rw [frst_succ, frst_succ]
    unfold ins
    split
    · exact h r (by omega)
    · split
      · rfl
      · exact h _ (by omega)
/-- The row of a 1 in the first column may be emptied. -/
theorem Alt.empty (H : Alt (n + 1) F) {i : Nat} (hi : i < n + 1) (C : Mx) (hC : ∀ r, r < n + 1 → C 0 r = one i r) : ∀ m, m ≤ n → F C = F fun j => if 0 < j ∧ j ≤ m then fun r => C j r - C j i * one i r else C j
  | 0, _ => by
    congr 1
    funext j
    rw [if_neg (by omega)]
  | m + 1, hm => by
    rw [H.empty hi C hC m (by omega)]
    obtain ⟨D, hD⟩ : ∃ D : Mx, D = fun j => if 0 < j ∧ j ≤ m then fun r => C j r - C j i * one i r else C j := ⟨_, rfl⟩
    rw [← hD, ← H.clear D (p := 0) (q := m + 1) (by omega) (by omega) (by omega) (-C (m + 1) i)]
    refine H.ext _ _ fun j hj r hr => ?_
    by_cases h : j = m + 1
    · subst h
      rw [upd_at, if_pos (by omega), hD]
      show -C (m + 1) i * (if 0 < 0 ∧ 0 ≤ m then fun r => C 0 r - C 0 i * one i r else C 0) r + (if 0 < m + 1 ∧ m + 1 ≤ m then fun r => C (m + 1) r - C (m + 1) i * one i r else C (m + 1)) r = C (m + 1) r - C (m + 1) i * one i r
      rw [if_neg (by omega), if_neg (by omega), hC r hr, Int.neg_mul]
      omega
    · rw [upd_ne _ _ h, hD]
      show (if 0 < j ∧ j ≤ m then (fun r => C j r - C j i * one i r) else C j) r = (if 0 < j ∧ j ≤ m + 1 then (fun r => C j r - C j i * one i r) else C j) r
      by_cases h2 : 0 < j ∧ j ≤ m
      · rw [if_pos h2, if_pos (by omega)]
      · rw [if_neg h2, if_neg (by omega)]
theorem Alt.minor (H : Alt (n + 1) F) {i : Nat} (hi : i < n + 1) (C : Mx) : F (upd C 0 (one i)) = F (frst i fun j k => C (j + 1) (skp i k)) := by
  rw [H.empty hi (upd C 0 (one i)) (fun r _ => by rw [upd_at]) n (Nat.le_refl _)]
  refine H.ext _ _ fun j hj r hr => ?_
  cases j with
  | zero => rw [if_neg (by omega), upd_at, frst_zero]
  | succ j =>
    rw [if_pos (by omega), upd_ne _ _ (by omega), frst_succ]
    by_cases h : r = i
    · subst h; rw [insm_at, one_at]; omega
    · rw [one_ne h, Int.mul_zero, Int.sub_zero]
      by_cases h2 : r < i
      · unfold ins; rw [if_pos h2]; show C (j + 1) r = C (j + 1) (skp i r); rw [skp_lt h2]
      · unfold ins; rw [if_neg h2, if_neg h]; show C (j + 1) r = C (j + 1) (skp i (r - 1)); rw [skp_ge (by omega), show r - 1 + 1 = r by omega]
/-- The columns of the unit, one of them further ahead. -/
def mvd (i t : Nat) : Mx := fun j => if j < t then one j else if j = t then one i else if j ≤ i then one (j - 1) else one j
theorem Alt.moved (H : Alt n F) {i : Nat} (hi : i < n) : ∀ d t, t + d = i → F (mvd i t) = sg d * F un
  | 0, t, h => by
    have e : mvd i t = un := by
      funext j
      unfold mvd un
      split
      · rfl
      · split
        · rename_i h2; rw [h2, show t = i by omega]
        · rw [if_neg (by omega)]
    rw [e, sg, Int.one_mul]
  | d + 1, t, h => by
    have ih := H.moved hi d (t + 1) (by omega)
    rw [H.turn (mvd i t) (j := t) (by omega), sg, Int.neg_mul, ← ih]
    congr 2
    funext j
    by_cases h1 : j = t + 1
    · subst h1
      rw [upd_at]
      unfold mvd
      rw [if_neg (by omega), if_pos rfl, if_neg (by omega), if_pos rfl]
    · rw [upd_ne _ _ h1]
      by_cases h2 : j = t
      · subst h2
        rw [upd_at]
        unfold mvd
        rw [if_neg (by omega), if_neg (by omega), if_pos (by omega), if_pos (by omega), Nat.add_sub_cancel]
      · rw [upd_ne _ _ h2]
        unfold mvd
        by_cases h3 : j < t
        · rw [if_pos h3, if_pos (by omega)]
        · rw [if_neg h3, if_neg h2, if_neg (show ¬ j < t + 1 by omega), if_neg h1]
theorem frst_un (i : Nat) : ∀ j, frst i un j = mvd i 0 j
  | 0 => by rw [frst_zero]; unfold mvd; rw [if_neg (by omega), if_pos rfl]
  | j + 1 => by
    rw [frst_succ]
    unfold mvd
    rw [if_neg (by omega), if_neg (by omega)]
    funext r
    unfold ins un one
    by_cases h : j + 1 ≤ i
    · rw [if_pos h, Nat.add_sub_cancel]
      split
      · rfl
      · rename_i h1
        split
        · rw [if_neg (by omega)]
        · rw [if_neg (by omega), if_neg (by omega)]
    · rw [if_neg h]
      split
      · rename_i h1; rw [if_neg (by omega), if_neg (by omega)]
      · rename_i h1
        split
        · rw [if_neg (by omega)]
        · rename_i h2
          by_cases h3 : r = j + 1
          · rw [if_pos (by omega), if_pos h3]
          · rw [if_neg (by omega), if_neg h3]
end
/-- There is one such function for each number that it tells of the unit. -/
theorem Alt.only : ∀ {n : Nat} {F : Mx → Int}, Alt n F → ∀ C, F C = F un * dt n C
  | 0, F, H, C => by rw [dt, Int.mul_one]; exact H.ext _ _ fun j hj => absurd hj (by omega)
  | n + 1, F, H, C => by
    rw [H.expand C (j := 0) (by omega), dt, ← sm_mul]
    refine sm_congr fun i hi => ?_
    have h1 := (H.first hi).only fun j k => C (j + 1) (skp i k)
    have h2 : F (frst i un) = sg i * F un := by
      have e : frst i un = mvd i 0 := funext (frst_un i)
      rw [e]
      exact H.moved hi i 0 (by omega)
    rw [H.minor hi C]
    show C 0 i * F (frst i _) = _
    rw [h1, h2]
    generalize dt n _ = d
    generalize F un = u
    generalize sg i = s
    generalize C 0 i = c
    grind
end Go.Proofs.Ytjaabemlpiafaab
