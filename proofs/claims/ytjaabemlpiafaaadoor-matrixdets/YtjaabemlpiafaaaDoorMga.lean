/-
  Mtm Mtn Mtp Mtc Mth Mtw Mgr Mga, together.
-/
import Derived.Test.YtjaabemlpiafaaaDoorBase
import Derived.Deep.WholeRow
import Derived.Laws.Rows
import Derived.OrdersHeld
/-! Mtm: Plain mathematics of determinants: sums, functions of columns that are linear in each and 0 where two are the same; there is one of them for each number that it tells of the unit; rows and columns. -/
namespace Go.Proofs.YtjaabemlpiafaaaDoor
open Go.RowKit
set_option linter.unusedVariables false

/-! ### Sums -/
def sm : Nat → (Nat → Int) → Int
  | 0, _ => 0
  | n + 1, g => sm n g + g n
theorem sm_congr : ∀ {n : Nat} {g h : Nat → Int}, (∀ i, i < n → g i = h i) → sm n g = sm n h
  | 0, _, _, _ => rfl
  | n + 1, g, h, e => by rw [sm, sm, sm_congr fun i hi => e i (by omega), e n (by omega)]
theorem sm_zero : ∀ {n : Nat} {g : Nat → Int}, (∀ i, i < n → g i = 0) → sm n g = 0
  | 0, _, _ => rfl
  | n + 1, g, e => by rw [sm, sm_zero fun i hi => e i (by omega), e n (by omega)]; rfl
theorem sm_add (g h : Nat → Int) : ∀ n, sm n (fun i => g i + h i) = sm n g + sm n h
  | 0 => rfl
  | n + 1 => by rw [sm, sm, sm, sm_add g h n]; omega
theorem sm_mul (a : Int) (g : Nat → Int) : ∀ n, sm n (fun i => a * g i) = a * sm n g
  | 0 => by rw [sm, sm, Int.mul_zero]
  | n + 1 => by rw [sm, sm, sm_mul a g n, Int.mul_add]
theorem sm_mulr (a : Int) (g : Nat → Int) (n : Nat) : sm n (fun i => g i * a) = sm n g * a := by
  rw [Int.mul_comm, ← sm_mul]; exact sm_congr fun i _ => Int.mul_comm _ _
theorem sm_lin (a : Int) (g h : Nat → Int) (n : Nat) : sm n (fun i => a * g i + h i) = a * sm n g + sm n h := by rw [sm_add (fun i => a * g i) h, sm_mul]
theorem sm_neg (g : Nat → Int) : ∀ n, sm n (fun i => -g i) = -sm n g
  | 0 => rfl
  | n + 1 => by rw [sm, sm, sm_neg g n]; omega
theorem sm_first (g : Nat → Int) : ∀ n, sm (n + 1) g = g 0 + sm n fun i => g (i + 1)
  | 0 => by rw [sm, sm, sm]; omega
  | n + 1 => by rw [sm, sm_first g n, sm]; omega
theorem sm_swap (g : Nat → Nat → Int) (m : Nat) : ∀ n, sm n (fun i => sm m (g i)) = sm m fun j => sm n fun i => g i j
  | 0 => (sm_zero fun _ _ => rfl).symm
  | n + 1 => by rw [sm, sm_swap g m n, ← sm_add]; exact sm_congr fun j _ => rfl
theorem sm_at {p : Nat} {g : Nat → Int} : ∀ {n : Nat}, p < n → (∀ i, i < n → i ≠ p → g i = 0) → sm n g = g p
  | 0, h, _ => by omega
  | n + 1, h, e => by
    rw [sm]
    by_cases hp : p = n
    · subst hp; rw [sm_zero fun i hi => e i (by omega) (by omega), Int.zero_add]
    · rw [sm_at (by omega) fun i hi hne => e i (by omega) hne, e n (by omega) (fun h => hp h.symm), Int.add_zero]
theorem sm_at2 {p : Nat} {g : Nat → Int} : ∀ {n : Nat}, p + 1 < n → (∀ i, i < n → i ≠ p → i ≠ p + 1 → g i = 0) → sm n g = g p + g (p + 1)
  | 0, h, _ => by omega
  | n + 1, h, e => by
    rw [sm]
    by_cases hp : p + 1 = n
    · subst hp; rw [sm_at (p := p) (by omega) fun i hi hne => e i (by omega) hne (by omega)]
    · rw [sm_at2 (by omega) fun i hi h1 h2 => e i (by omega) h1 h2, e n (by omega) (by omega) (fun h => hp h.symm), Int.add_zero]
/-! ### Signs, and an index left out -/
def sg : Nat → Int
  | 0 => 1
  | n + 1 => -sg n
theorem sg_sq : ∀ n, sg n * sg n = 1
  | 0 => rfl
  | n + 1 => by rw [sg, Int.neg_mul_neg, sg_sq n]
theorem sg_add (m : Nat) : ∀ n, sg (m + n) = sg m * sg n
  | 0 => by rw [Nat.add_zero, sg, Int.mul_one]
  | n + 1 => by rw [← Nat.add_assoc, sg, sg_add m n, sg, Int.mul_neg]
theorem sg_two (n : Nat) : sg (n + 2) = sg n := by rw [sg, sg, Int.neg_neg]
theorem sg_even : ∀ {n : Nat}, n % 2 = 0 → sg n = 1
  | 0, _ => rfl
  | 1, h => by omega
  | n + 2, h => by rw [sg_two, sg_even (by omega)]
theorem sg_odd : ∀ {n : Nat}, n % 2 = 1 → sg n = -1
  | 0, h => by omega
  | 1, _ => rfl
  | n + 2, h => by rw [sg_two, sg_odd (by omega)]
def skp (j k : Nat) : Nat := if k < j then k else k + 1
theorem skp_lt {j k : Nat} (h : k < j) : skp j k = k := if_pos h
theorem skp_ge {j k : Nat} (h : ¬ k < j) : skp j k = k + 1 := if_neg h
theorem skp_ne (j k : Nat) : skp j k ≠ j := by unfold skp; split <;> omega
theorem skp_bd {j k n : Nat} (h : k < n) : skp j k < n + 1 := by unfold skp; split <;> omega
/-! ### Columns -/
abbrev Mx : Type := Nat → Nat → Int
def upd (C : Mx) (j : Nat) (v : Nat → Int) : Mx := fun k => if k = j then v else C k
theorem upd_at (C : Mx) (j : Nat) (v : Nat → Int) : upd C j v j = v := if_pos rfl
theorem upd_ne (C : Mx) {j k : Nat} (v : Nat → Int) (h : k ≠ j) : upd C j v k = C k := if_neg h
theorem upd_self (C : Mx) (j : Nat) : upd C j (C j) = C := by funext k; unfold upd; split <;> simp_all
theorem upd_upd (C : Mx) (j : Nat) (u v : Nat → Int) : upd (upd C j u) j v = upd C j v := by funext k; unfold upd; split <;> rfl
theorem upd_swap (C : Mx) {j k : Nat} (h : j ≠ k) (u v : Nat → Int) : upd (upd C j u) k v = upd (upd C k v) j u := by
  funext l
  unfold upd
  by_cases h1 : l = k
  · rw [if_pos h1, if_neg (by omega), if_pos h1]
  · rw [if_neg h1]
    by_cases h2 : l = j
    · rw [if_pos h2, if_pos h2]
    · rw [if_neg h2, if_neg h2, if_neg h1]
def one (i : Nat) : Nat → Int := fun r => if r = i then 1 else 0
def un : Mx := fun j => one j
theorem one_at (i : Nat) : one i i = 1 := if_pos rfl
theorem one_ne {i r : Nat} (h : r ≠ i) : one i r = 0 := if_neg h
/-- Linear in each column, 0 where two neighbours are the same; it sees n columns of n numbers. -/
structure Alt (n : Nat) (F : Mx → Int) : Prop where
  ext : ∀ C D : Mx, (∀ j, j < n → ∀ i, i < n → C j i = D j i) → F C = F D
  lin : ∀ (C : Mx) (j : Nat) (a : Int) (u v : Nat → Int), j < n → F (upd C j fun i => a * u i + v i) = a * F (upd C j u) + F (upd C j v)
  nul : ∀ (C : Mx) (j : Nat), j + 1 < n → (∀ i, i < n → C j i = C (j + 1) i) → F C = 0
section
variable {n : Nat} {F : Mx → Int}
theorem Alt.zero (H : Alt n F) (C : Mx) {j : Nat} (hj : j < n) : F (upd C j fun _ => 0) = 0 := by
  have h := H.lin C j 1 (fun _ => 0) (fun _ => 0) hj
  have e : (fun _ : Nat => (1 : Int) * 0 + 0) = fun _ => 0 := by funext _; rfl
  rw [e] at h
  omega
theorem Alt.add (H : Alt n F) (C : Mx) {j : Nat} (u v : Nat → Int) (hj : j < n) : F (upd C j fun i => u i + v i) = F (upd C j u) + F (upd C j v) := by
  have h := H.lin C j 1 u v hj
  have e : (fun i : Nat => 1 * u i + v i) = fun i => u i + v i := by funext _; rw [Int.one_mul]
  rw [e, Int.one_mul] at h
  exact h
/-- Neighbours change places. -/
theorem Alt.swap (H : Alt n F) (C : Mx) {j : Nat} (hj : j + 1 < n) (u v : Nat → Int) : F (upd (upd C j u) (j + 1) v) = -F (upd (upd C j v) (j + 1) u) := by
  have hs : ∀ w : Nat → Int, F (upd (upd C j w) (j + 1) w) = 0 := fun w => H.nul _ j hj fun i _ => by rw [upd_at, upd_ne _ _ (by omega), upd_at]
  have h0 := hs fun i => u i + v i
  rw [H.add _ _ _ hj, upd_swap C (by omega), H.add _ _ _ (by omega), upd_swap C (by omega) (fun i => u i + v i) v, H.add _ _ _ (by omega)] at h0
  rw [← upd_swap C (show j ≠ j + 1 by omega) u u, ← upd_swap C (show j ≠ j + 1 by omega) v u, ← upd_swap C (show j ≠ j + 1 by omega) u v, ← upd_swap C (show j ≠ j + 1 by omega) v v, hs u, hs v] at h0
  omega
theorem Alt.turn (H : Alt n F) (C : Mx) {j : Nat} (hj : j + 1 < n) : F C = -F (upd (upd C j (C (j + 1))) (j + 1) (C j)) := by
  have h := H.swap C hj (C j) (C (j + 1))
  rw [upd_self] at h
  have e : upd C (j + 1) (C (j + 1)) = C := upd_self C (j + 1)
  rw [e] at h
  exact h
/-- Any two that are the same. -/
theorem Alt.same (H : Alt n F) : ∀ (d : Nat) (C : Mx) (p : Nat), p + d + 1 < n → (∀ i, i < n → C p i = C (p + d + 1) i) → F C = 0
  | 0, C, p, hp, h => H.nul C p hp h
  | d + 1, C, p, hp, h => by
    rw [H.turn C (j := p + d + 1) (by omega), H.same d _ p (by omega) fun i hi => ?_, Int.neg_zero]
    rw [upd_ne _ _ (by omega), upd_ne _ _ (by omega), upd_ne _ _ (by omega), upd_at]
    exact h i hi
theorem Alt.twice (H : Alt n F) (C : Mx) {p q : Nat} (hp : p < n) (hq : q < n) (hne : p ≠ q) (h : ∀ i, i < n → C p i = C q i) : F C = 0 := by
  by_cases hl : p < q
  · exact H.same (q - p - 1) C p (by omega) fun i hi => by rw [show p + (q - p - 1) + 1 = q by omega]; exact h i hi
  · exact H.same (p - q - 1) C q (by omega) fun i hi => by rw [show q + (p - q - 1) + 1 = p by omega]; exact (h i hi).symm
/-- A multiple of one column added to another one. -/
theorem Alt.clear (H : Alt n F) (C : Mx) {p q : Nat} (hp : p < n) (hq : q < n) (hne : p ≠ q) (a : Int) : F (upd C q fun i => a * C p i + C q i) = F C := by
  rw [H.lin C q a (C p) (C q) hq, upd_self, H.twice _ hp hq hne fun i _ => by rw [upd_ne _ _ hne, upd_at], Int.mul_zero, Int.zero_add]
/-- A column as a sum. -/
theorem Alt.sum (H : Alt n F) (C : Mx) {j : Nat} (hj : j < n) (a : Nat → Int) (e : Nat → Nat → Int) : ∀ m, F (upd C j fun r => sm m fun i => a i * e i r) = sm m fun i => a i * F (upd C j (e i))
  | 0 => H.zero C hj
  | m + 1 => by
    have ih := H.sum C hj a e m
    have h := H.lin C j (a m) (e m) (fun r => sm m fun i => a i * e i r) hj
    have e1 : (fun r : Nat => sm (m + 1) fun i => a i * e i r) = fun r => a m * e m r + sm m fun i => a i * e i r := by funext r; rw [sm]; omega
    rw [e1, h, ih, sm]
    omega
/-- A column by its numbers. -/
theorem Alt.expand (H : Alt n F) (C : Mx) {j : Nat} (hj : j < n) : F C = sm n fun i => C j i * F (upd C j (one i)) := by
  rw [← H.sum C hj (C j) one n]
  refine H.ext _ _ fun k hk i hi => ?_
  by_cases h : k = j
  · subst h
    rw [upd_at, sm_at (p := i) hi fun l _ hne => by rw [one_ne (fun e => hne e.symm), Int.mul_zero], one_at, Int.mul_one]
  · rw [upd_ne _ _ h]
end
/-! ### The determinant, by the first column -/
def dt : Nat → Mx → Int
  | 0, _ => 1
  | n + 1, C => sm (n + 1) fun i => sg i * C 0 i * dt n fun j k => C (j + 1) (skp i k)
theorem dt_ext : ∀ {n : Nat} {C D : Mx}, (∀ j, j < n → ∀ i, i < n → C j i = D j i) → dt n C = dt n D
  | 0, _, _, _ => rfl
  | n + 1, C, D, h => by
    rw [dt, dt]
    exact sm_congr fun i hi => by rw [h 0 (by omega) i hi, dt_ext fun j hj k hk => h (j + 1) (by omega) _ (skp_bd hk)]
/-- A row put in. -/
def ins (i : Nat) (v : Nat → Int) : Nat → Int := fun r => if r < i then v r else if r = i then 0 else v (r - 1)
theorem ins_skp (i : Nat) (v : Nat → Int) (k : Nat) : ins i v (skp i k) = v k := by
  unfold ins skp
  by_cases h : k < i
  · rw [if_pos h, if_pos h]
  · rw [if_neg h, if_neg (by omega), if_neg (by omega), Nat.add_sub_cancel]
theorem insm_at (i : Nat) (v : Nat → Int) : ins i v i = 0 := by unfold ins; rw [if_neg (by omega), if_pos rfl]
/-- A first column, and the others with a row put in. -/
def frst (i : Nat) (D : Mx) : Mx := fun j => match j with
  | 0 => one i
  | j + 1 => ins i (D j)
theorem frst_zero (i : Nat) (D : Mx) : frst i D 0 = one i := rfl
theorem frst_succ (i : Nat) (D : Mx) (j : Nat) : frst i D (j + 1) = ins i (D j) := rfl
theorem frst_upd (i : Nat) (D : Mx) (j : Nat) (v : Nat → Int) : frst i (upd D j v) = upd (frst i D) (j + 1) (ins i v) := by
  funext k
  cases k with
  | zero => rw [frst_zero, upd_ne _ _ (by omega), frst_zero]
  | succ k =>
    rw [frst_succ]
    by_cases h : k = j
    · subst h; rw [upd_at, upd_at]
    · rw [upd_ne _ _ h, upd_ne _ _ (by omega), frst_succ]
theorem ins_lin (i : Nat) (a : Int) (u v : Nat → Int) : ins i (fun r => a * u r + v r) = fun r => a * ins i u r + ins i v r := by
  funext r
  unfold ins
  split
  · rfl
  · split
    · rw [Int.mul_zero]; rfl
    · rfl
section
variable {n : Nat} {F : Mx → Int}
theorem Alt.first (H : Alt (n + 1) F) {i : Nat} (hi : i < n + 1) : Alt n fun D => F (frst i D) := by
  refine ⟨fun C D h => H.ext _ _ fun j hj r hr => ?_, fun C j a u v hj => ?_, fun C j hj h => ?_⟩
  · cases j with
    | zero => rfl
    | succ j =>
      rw [frst_succ, frst_succ]
      unfold ins
      split
      · exact h j (by omega) r (by omega)
      · split
        · rfl
        · exact h j (by omega) _ (by omega)
  · show F (frst i _) = a * F (frst i _) + F (frst i _)
    rw [frst_upd, frst_upd, frst_upd, ins_lin, H.lin _ _ _ _ _ (by omega)]
  · refine H.nul _ (j + 1) (by omega) fun r hr => ?_
    rw [frst_succ, frst_succ]
    unfold ins
    split
    · exact h r (by omega)
    · split
      · rfl
      · exact h _ (by omega)
/-- The row of a 1 in the first column may be emptied. -/
theorem Alt.empty (H : Alt (n + 1) F) {i : Nat} (hi : i < n + 1) (C : Mx) (hC : ∀ r, r < n + 1 → C 0 r = one i r) : ∀ m, m ≤ n → F C = F fun j => if 0 < j ∧ j ≤ m then fun r => C j r - C j i * one i r else C j
  | 0, _ => by
    congr 1
    funext j
    rw [if_neg (by omega)]
  | m + 1, hm => by
    rw [H.empty hi C hC m (by omega)]
    obtain ⟨D, hD⟩ : ∃ D : Mx, D = fun j => if 0 < j ∧ j ≤ m then fun r => C j r - C j i * one i r else C j := ⟨_, rfl⟩
    rw [← hD, ← H.clear D (p := 0) (q := m + 1) (by omega) (by omega) (by omega) (-C (m + 1) i)]
    refine H.ext _ _ fun j hj r hr => ?_
    by_cases h : j = m + 1
    · subst h
      rw [upd_at, if_pos (by omega), hD]
      show -C (m + 1) i * (if 0 < 0 ∧ 0 ≤ m then fun r => C 0 r - C 0 i * one i r else C 0) r + (if 0 < m + 1 ∧ m + 1 ≤ m then fun r => C (m + 1) r - C (m + 1) i * one i r else C (m + 1)) r = C (m + 1) r - C (m + 1) i * one i r
      rw [if_neg (by omega), if_neg (by omega), hC r hr, Int.neg_mul]
      omega
    · rw [upd_ne _ _ h, hD]
      show (if 0 < j ∧ j ≤ m then (fun r => C j r - C j i * one i r) else C j) r = (if 0 < j ∧ j ≤ m + 1 then (fun r => C j r - C j i * one i r) else C j) r
      by_cases h2 : 0 < j ∧ j ≤ m
      · rw [if_pos h2, if_pos (by omega)]
      · rw [if_neg h2, if_neg (by omega)]
theorem Alt.minor (H : Alt (n + 1) F) {i : Nat} (hi : i < n + 1) (C : Mx) : F (upd C 0 (one i)) = F (frst i fun j k => C (j + 1) (skp i k)) := by
  rw [H.empty hi (upd C 0 (one i)) (fun r _ => by rw [upd_at]) n (Nat.le_refl _)]
  refine H.ext _ _ fun j hj r hr => ?_
  cases j with
  | zero => rw [if_neg (by omega), upd_at, frst_zero]
  | succ j =>
    rw [if_pos (by omega), upd_ne _ _ (by omega), frst_succ]
    by_cases h : r = i
    · subst h; rw [insm_at, one_at]; omega
    · rw [one_ne h, Int.mul_zero, Int.sub_zero]
      by_cases h2 : r < i
      · unfold ins; rw [if_pos h2]; show C (j + 1) r = C (j + 1) (skp i r); rw [skp_lt h2]
      · unfold ins; rw [if_neg h2, if_neg h]; show C (j + 1) r = C (j + 1) (skp i (r - 1)); rw [skp_ge (by omega), show r - 1 + 1 = r by omega]
/-- The columns of the unit, one of them further ahead. -/
def mvd (i t : Nat) : Mx := fun j => if j < t then one j else if j = t then one i else if j ≤ i then one (j - 1) else one j
theorem Alt.moved (H : Alt n F) {i : Nat} (hi : i < n) : ∀ d t, t + d = i → F (mvd i t) = sg d * F un
  | 0, t, h => by
    have e : mvd i t = un := by
      funext j
      unfold mvd un
      split
      · rfl
      · split
        · rename_i h2; rw [h2, show t = i by omega]
        · rw [if_neg (by omega)]
    rw [e, sg, Int.one_mul]
  | d + 1, t, h => by
    have ih := H.moved hi d (t + 1) (by omega)
    rw [H.turn (mvd i t) (j := t) (by omega), sg, Int.neg_mul, ← ih]
    congr 2
    funext j
    by_cases h1 : j = t + 1
    · subst h1
      rw [upd_at]
      unfold mvd
      rw [if_neg (by omega), if_pos rfl, if_neg (by omega), if_pos rfl]
    · rw [upd_ne _ _ h1]
      by_cases h2 : j = t
      · subst h2
        rw [upd_at]
        unfold mvd
        rw [if_neg (by omega), if_neg (by omega), if_pos (by omega), if_pos (by omega), Nat.add_sub_cancel]
      · rw [upd_ne _ _ h2]
        unfold mvd
        by_cases h3 : j < t
        · rw [if_pos h3, if_pos (by omega)]
        · rw [if_neg h3, if_neg h2, if_neg (show ¬ j < t + 1 by omega), if_neg h1]
theorem frst_un (i : Nat) : ∀ j, frst i un j = mvd i 0 j
  | 0 => by rw [frst_zero]; unfold mvd; rw [if_neg (by omega), if_pos rfl]
  | j + 1 => by
    rw [frst_succ]
    unfold mvd
    rw [if_neg (by omega), if_neg (by omega)]
    funext r
    unfold ins un one
    by_cases h : j + 1 ≤ i
    · rw [if_pos h, Nat.add_sub_cancel]
      split
      · rfl
      · rename_i h1
        split
        · rw [if_neg (by omega)]
        · rw [if_neg (by omega), if_neg (by omega)]
    · rw [if_neg h]
      split
      · rename_i h1; rw [if_neg (by omega), if_neg (by omega)]
      · rename_i h1
        split
        · rw [if_neg (by omega)]
        · rename_i h2
          by_cases h3 : r = j + 1
          · rw [if_pos (by omega), if_pos h3]
          · rw [if_neg (by omega), if_neg h3]
end
/-- There is one such function for each number that it tells of the unit. -/
theorem Alt.only : ∀ {n : Nat} {F : Mx → Int}, Alt n F → ∀ C, F C = F un * dt n C
  | 0, F, H, C => by rw [dt, Int.mul_one]; exact H.ext _ _ fun j hj => absurd hj (by omega)
  | n + 1, F, H, C => by
    rw [H.expand C (j := 0) (by omega), dt, ← sm_mul]
    refine sm_congr fun i hi => ?_
    have h1 := (H.first hi).only fun j k => C (j + 1) (skp i k)
    have h2 : F (frst i un) = sg i * F un := by
      have e : frst i un = mvd i 0 := funext (frst_un i)
      rw [e]
      exact H.moved hi i 0 (by omega)
    rw [H.minor hi C]
    show C 0 i * F (frst i _) = _
    rw [h1, h2]
    generalize dt n _ = d
    generalize F un = u
    generalize sg i = s
    generalize C 0 i = c
    grind
end Go.Proofs.YtjaabemlpiafaaaDoor
/-! Mtn: Plain mathematics of determinants: rows for columns; products; by any row; the adjugate. -/
namespace Go.Proofs.YtjaabemlpiafaaaDoor
open Go.RowKit
set_option linter.unusedVariables false

def tr (C : Mx) : Mx := fun i j => C j i
theorem tr_tr (C : Mx) : tr (tr C) = C := rfl
theorem tr_un : tr un = un := by
  funext i j
  unfold tr un one
  by_cases h : i = j
  · rw [if_pos h, if_pos h.symm]
  · rw [if_neg h, if_neg (fun e => h e.symm)]
/-- Without a column and the first row. -/
def mn (j : Nat) (C : Mx) : Mx := fun k r => C (skp j k) (r + 1)
theorem dt_tr_step (n : Nat) (C : Mx) : dt (n + 1) (tr C) = sm (n + 1) fun j => sg j * C j 0 * dt n (tr (mn j C)) := rfl
def dnx (j p : Nat) : Nat := if p < j then p else p - 1
theorem skp_dnx {j p : Nat} (h : j ≠ p) (k : Nat) : skp j k = p ↔ k = dnx j p := by unfold skp dnx; split <;> split <;> omega
theorem dnx_bd {j p n : Nat} (h : j ≠ p) (hj : j < n + 1) (hp : p < n + 1) : dnx j p < n := by unfold dnx; split <;> omega
theorem mn_upd_ne {j p : Nat} (h : j ≠ p) (C : Mx) (w : Nat → Int) : mn j (upd C p w) = upd (mn j C) (dnx j p) fun r => w (r + 1) := by
  funext k
  unfold mn
  by_cases e : k = dnx j p
  · rw [e, upd_at, (skp_dnx h (dnx j p)).2 rfl, upd_at]
  · rw [upd_ne _ _ e, upd_ne _ _ (fun e2 => e ((skp_dnx h k).1 e2))]
theorem mn_upd (p : Nat) (C : Mx) (w : Nat → Int) : mn p (upd C p w) = mn p C := by
  funext k
  unfold mn
  rw [upd_ne _ _ (skp_ne p k)]
theorem dtr_alt : ∀ n, Alt n fun C => dt n (tr C)
  | 0 => ⟨fun _ _ _ => rfl, fun _ _ _ _ _ h => absurd h (by omega), fun _ _ h => absurd h (by omega)⟩
  | n + 1 => by
    have ih := dtr_alt n
    refine ⟨fun C D h => dt_ext fun j hj i hi => h i hi j hj, fun C p a u v hp => ?_, fun C p hp h => ?_⟩
    · show dt (n + 1) (tr _) = a * dt (n + 1) (tr _) + dt (n + 1) (tr _)
      rw [dt_tr_step, dt_tr_step, dt_tr_step, ← sm_lin]
      refine sm_congr fun j hj => ?_
      by_cases e : j = p
      · subst e
        rw [upd_at, upd_at, upd_at, mn_upd, mn_upd, mn_upd]
        generalize dt n _ = d
        generalize sg j = s
        generalize u 0 = x
        generalize v 0 = y
        grind
      · rw [upd_ne _ _ e, upd_ne _ _ e, upd_ne _ _ e, mn_upd_ne e, mn_upd_ne e, mn_upd_ne e]
        have h1 := ih.lin (mn j C) (dnx j p) a (fun r => u (r + 1)) (fun r => v (r + 1)) (dnx_bd e hj hp)
        rw [h1]
        generalize dt n _ = d1
        generalize dt n _ = d2
        generalize sg j * C j 0 = s
        grind
    · show dt (n + 1) (tr C) = 0
      rw [dt_tr_step]
      have hpp : sg p * C p 0 * dt n (tr (mn p C)) + sg (p + 1) * C (p + 1) 0 * dt n (tr (mn (p + 1) C)) = 0 := by
        have e1 : dt n (tr (mn (p + 1) C)) = dt n (tr (mn p C)) := ih.ext _ _ fun k hk r hr => by
          unfold mn
          by_cases e : k = p
          · subst e
            rw [skp_lt (by omega), skp_ge (by omega)]
            exact h (r + 1) (by omega)
          · by_cases e2 : k < p
            · rw [skp_lt (by omega), skp_lt e2]
            · rw [skp_ge (by omega), skp_ge (by omega)]
        rw [e1, ← h 0 (by omega), sg]
        generalize dt n _ = d
        generalize sg p = s
        generalize C p 0 = c
        grind
      rw [sm_at2 (p := p) (by omega) fun j hj h1 h2 => ?_]
      · exact hpp
      · have : dt n (tr (mn j C)) = 0 := ih.nul (mn j C) (dnx j p) (by unfold dnx; split <;> omega) fun r hr => by
          have e1 : skp j (dnx j p) = p := (skp_dnx h1 _).2 rfl
          have e2 : skp j (dnx j p + 1) = p + 1 := by unfold skp dnx; split <;> split <;> omega
          unfold mn
          rw [e1, e2]
          exact h (r + 1) (by omega)
        rw [this, Int.mul_zero]
theorem dt_un : ∀ n, dt n un = 1
  | 0 => rfl
  | n + 1 => by
    rw [dt, sm_at (p := 0) (by omega) fun i hi hne => by rw [show un 0 i = 0 from one_ne hne, Int.mul_zero, Int.zero_mul]]
    have e : (fun j k => un (j + 1) (skp 0 k)) = un := by
      funext j k
      rw [skp_ge (by omega)]
      unfold un one
      by_cases h : k = j
      · rw [if_pos h, if_pos (by omega)]
      · rw [if_neg h, if_neg (by omega)]
    rw [e, dt_un n]
    rfl
/-- Rows for columns. -/
theorem dt_tr (n : Nat) (C : Mx) : dt n (tr C) = dt n C := by
  have h := (dtr_alt n).only C
  rw [tr_un, dt_un, Int.one_mul] at h
  exact h
theorem dt_alt (n : Nat) : Alt n (dt n) := by
  have e : (fun C => dt n (tr C)) = dt n := funext fun C => dt_tr n C
  rw [← e]
  exact dtr_alt n
/-! ### Products -/
def mm (n : Nat) (A B : Mx) : Mx := fun i j => sm n fun k => A i k * B k j
theorem mm_un {n : Nat} (B : Mx) {i : Nat} (hi : i < n) (j : Nat) : mm n un B i j = B i j := by
  unfold mm
  rw [sm_at (p := i) hi fun k _ hne => by rw [show un i k = 0 from one_ne hne, Int.zero_mul], show un i i = 1 from one_at i, Int.one_mul]
theorem un_mm {n : Nat} (A : Mx) (i : Nat) {j : Nat} (hj : j < n) : mm n A un i j = A i j := by
  unfold mm
  rw [sm_at (p := j) hj fun k _ hne => by rw [show un k j = 0 from one_ne (fun e => hne e.symm), Int.mul_zero], show un j j = 1 from one_at j, Int.mul_one]
theorem mm_tr (n : Nat) (A B : Mx) : tr (mm n A B) = mm n (tr B) (tr A) := by
  funext i j
  exact sm_congr fun k _ => Int.mul_comm _ _
theorem mm_assoc (n : Nat) (A B C : Mx) : mm n (mm n A B) C = mm n A (mm n B C) := by
  funext i j
  unfold mm
  have e1 : (fun k => (sm n fun l => A i l * B l k) * C k j) = fun k => sm n fun l => A i l * B l k * C k j := funext fun k => (sm_mulr _ _ _).symm
  have e2 : (fun l => A i l * sm n fun k => B l k * C k j) = fun l => sm n fun k => A i l * (B l k * C k j) := funext fun l => (sm_mul _ _ _).symm
  rw [e1, e2, sm_swap]
  exact sm_congr fun l _ => sm_congr fun k _ => Int.mul_assoc _ _ _
theorem mm_upd (n : Nat) (A B : Mx) (p : Nat) (w : Nat → Int) : mm n (upd A p w) B = upd (mm n A B) p fun j => sm n fun k => w k * B k j := by
  funext i
  by_cases h : i = p
  · subst h; rw [upd_at]; funext j; unfold mm; rw [upd_at]
  · rw [upd_ne _ _ h]; funext j; unfold mm; rw [upd_ne _ _ h]
theorem mm_ext {n : Nat} {A A' B B' : Mx} (hA : ∀ i, i < n → ∀ j, j < n → A i j = A' i j) (hB : ∀ i, i < n → ∀ j, j < n → B i j = B' i j) : ∀ i, i < n → ∀ j, j < n → mm n A B i j = mm n A' B' i j := fun i hi j hj => sm_congr fun k hk => by rw [hA i hi k hk, hB k hk j hj]
/-- Determinants are multiplied. -/
theorem dt_mul (n : Nat) (A B : Mx) : dt n (mm n A B) = dt n A * dt n B := by
  have H : Alt n fun A => dt n (mm n A B) := by
    refine ⟨fun C D h => dt_ext (mm_ext h fun _ _ _ _ => rfl), fun C p a u v hp => ?_, fun C p hp h => ?_⟩
    · show dt n (mm n _ B) = a * dt n (mm n _ B) + dt n (mm n _ B)
      rw [mm_upd, mm_upd, mm_upd, ← (dt_alt n).lin _ _ _ _ _ hp]
      congr 2
      funext j
      rw [← sm_lin]
      exact sm_congr fun k _ => by rw [Int.add_mul, Int.mul_assoc]
    · exact (dt_alt n).nul _ p hp fun j hj => sm_congr fun k hk => by rw [h k hk]
  have h := H.only A
  have e : dt n (mm n un B) = dt n B := dt_ext fun i hi j _ => mm_un B hi j
  rw [e] at h
  rw [h, Int.mul_comm]
/-! ### By any row -/
/-- A row further ahead. -/
def mvA (A : Mx) (i t : Nat) : Mx := fun j => if j < t then A j else if j = t then A i else if j ≤ i then A (j - 1) else A j
theorem Alt.move {n : Nat} {F : Mx → Int} (H : Alt n F) (A : Mx) {i : Nat} (hi : i < n) : ∀ d t, t + d = i → F (mvA A i t) = sg d * F A
  | 0, t, h => by
    have e : mvA A i t = A := by
      funext j
      unfold mvA
      split
      · rfl
      · split
        · rename_i h2; rw [h2, show t = i by omega]
        · rw [if_neg (by omega)]
    rw [e, sg, Int.one_mul]
  | d + 1, t, h => by
    have ih := H.move A hi d (t + 1) (by omega)
    rw [H.turn (mvA A i t) (j := t) (by omega), sg, Int.neg_mul, ← ih]
    congr 2
    funext j
    by_cases h1 : j = t + 1
    · subst h1
      rw [upd_at]
      unfold mvA
      rw [if_neg (by omega), if_pos rfl, if_neg (by omega), if_pos rfl]
    · rw [upd_ne _ _ h1]
      by_cases h2 : j = t
      · subst h2
        rw [upd_at]
        unfold mvA
        rw [if_neg (by omega), if_neg (by omega), if_pos (by omega), if_pos (by omega), Nat.add_sub_cancel]
      · rw [upd_ne _ _ h2]
        unfold mvA
        by_cases h3 : j < t
        · rw [if_pos h3, if_pos (by omega)]
        · rw [if_neg h3, if_neg h2, if_neg (show ¬ j < t + 1 by omega), if_neg h1]
def mnr (i j : Nat) (A : Mx) : Mx := fun r c => A (skp i r) (skp j c)
theorem mnr_tr (i j : Nat) (A : Mx) : mnr j i (tr A) = tr (mnr i j A) := rfl
theorem mnr_upd (i j : Nat) (A : Mx) (v : Nat → Int) : mnr i j (upd A i v) = mnr i j A := by
  funext r c
  unfold mnr
  rw [upd_ne _ _ (skp_ne i r)]
theorem dt_row (n : Nat) (A : Mx) {i : Nat} (hi : i < n + 1) : dt (n + 1) A = sm (n + 1) fun j => sg (i + j) * A i j * dt n (mnr i j A) := by
  have h := (dt_alt (n + 1)).move A hi i 0 (by omega)
  have e : dt (n + 1) (mvA A i 0) = sm (n + 1) fun j => sg j * A i j * dt n (mnr i j A) := by
    rw [dt]
    refine sm_congr fun j hj => ?_
    have e1 : mvA A i 0 0 = A i := by unfold mvA; rw [if_neg (by omega), if_pos rfl]
    have e2 : (fun r c => mvA A i 0 (r + 1) (skp j c)) = mnr i j A := by
      funext r c
      unfold mnr mvA
      rw [if_neg (by omega), if_neg (by omega)]
      by_cases h1 : r < i
      · rw [if_pos (by omega), Nat.add_sub_cancel, skp_lt h1]
      · rw [if_neg (by omega), skp_ge h1]
    rw [e1, e2]
  rw [e] at h
  have h2 : dt (n + 1) A = sg i * sm (n + 1) fun j => sg j * A i j * dt n (mnr i j A) := by rw [h, ← Int.mul_assoc, sg_sq, Int.one_mul]
  rw [h2, ← sm_mul]
  refine sm_congr fun j _ => ?_
  rw [sg_add, Int.mul_assoc (sg i), Int.mul_assoc (sg i), Int.mul_assoc (sg j)]
/-- The adjugate, of n + 1 rows. -/
def ad (n : Nat) (A : Mx) : Mx := fun i j => sg (i + j) * dt n (mnr j i A)
theorem ad_tr (n : Nat) (A : Mx) : ad n (tr A) = tr (ad n A) := by
  funext i j
  show sg (i + j) * dt n (mnr j i (tr A)) = sg (j + i) * dt n (mnr i j A)
  rw [Nat.add_comm j i, ← dt_tr n (mnr i j A)]
  rfl
theorem ad_right (n : Nat) (A : Mx) {i k : Nat} (hi : i < n + 1) (hk : k < n + 1) : mm (n + 1) A (ad n A) i k = if i = k then dt (n + 1) A else 0 := by
  have e : mm (n + 1) A (ad n A) i k = dt (n + 1) (upd A k (A i)) := by
    rw [dt_row n _ hk]
    refine sm_congr fun j _ => ?_
    unfold ad
    rw [upd_at, mnr_upd, Nat.add_comm j k, ← Int.mul_assoc, Int.mul_comm (A i j)]
  rw [e]
  by_cases h : i = k
  · rw [if_pos h, h, upd_self]
  · rw [if_neg h]
    exact (dt_alt (n + 1)).twice _ hi hk h fun r _ => by rw [upd_ne _ _ h, upd_at]
theorem ad_left (n : Nat) (A : Mx) {i k : Nat} (hi : i < n + 1) (hk : k < n + 1) : mm (n + 1) (ad n A) A i k = if i = k then dt (n + 1) A else 0 := by
  have h := ad_right n (tr A) hk hi
  rw [ad_tr, ← mm_tr, dt_tr] at h
  show tr (mm (n + 1) (ad n A) A) k i = _
  rw [h]
  by_cases e : i = k
  · rw [if_pos e, if_pos e.symm]
  · rw [if_neg e, if_neg (fun e2 => e e2.symm)]
end Go.Proofs.YtjaabemlpiafaaaDoor
/-! Mtp: Plain mathematics of polynomials in one whole number, by what they tell of each number. -/
namespace Go.Proofs.YtjaabemlpiafaaaDoor
open Go.RowKit
set_option linter.unusedVariables false

def ev : List Int → Int → Int
  | [], _ => 0
  | a :: l, x => a + x * ev l x
def cf (l : List Int) (t : Nat) : Int := l.getD t 0
theorem cf_zero (a : Int) (l : List Int) : cf (a :: l) 0 = a := rfl
theorem cf_succ (a : Int) (l : List Int) (t : Nat) : cf (a :: l) (t + 1) = cf l t := by simp [cf]
theorem cf_nil (t : Nat) : cf [] t = 0 := by simp [cf]
theorem cf_out {l : List Int} {t : Nat} (h : l.length ≤ t) : cf l t = 0 := by simp [cf, List.getElem?_eq_none h]
/-- What is 0 at all great numbers has no numbers. -/
theorem ev_null : ∀ {l : List Int} (X : Int), (∀ x, X ≤ x → ev l x = 0) → ∀ t, cf l t = 0
  | [], _, _, t => cf_nil t
  | a :: l, X, h, t => by
    have h0 : a = 0 := by
      obtain ⟨x, hx⟩ : ∃ x : Int, x = (X.natAbs : Int) + a.natAbs + 1 := ⟨_, rfl⟩
      have h1 := h x (by omega)
      rw [ev] at h1
      have hd : x ∣ a := ⟨-ev l x, by rw [Int.mul_neg]; omega⟩
      exact Classical.byContradiction fun hn => by
        have := Nat.le_of_dvd (by omega) (Int.natAbs_dvd_natAbs.2 hd)
        omega
    have h2 : ∀ t, cf l t = 0 := ev_null (max X 1) fun x hx => by
      have h1 := h x (by omega)
      rw [ev, h0, Int.zero_add] at h1
      rcases Int.mul_eq_zero.1 h1 with e | e
      · omega
      · exact e
    cases t with
    | zero => rw [cf_zero, h0]
    | succ t => rw [cf_succ]; exact h2 t
/-- Sums, products. -/
def pad : List Int → List Int → List Int
  | [], m => m
  | a :: l, [] => a :: l
  | a :: l, b :: m => (a + b) :: pad l m
theorem ev_pad (x : Int) : ∀ l m : List Int, ev (pad l m) x = ev l x + ev m x
  | [], m => by rw [pad, ev, Int.zero_add]
  | a :: l, [] => by rw [pad, ev, ev, Int.add_zero]
  | a :: l, b :: m => by rw [pad, ev, ev, ev, ev_pad x l m, Int.mul_add]; omega
def psc (c : Int) (l : List Int) : List Int := l.map fun a => c * a
theorem ev_psc (c x : Int) : ∀ l : List Int, ev (psc c l) x = c * ev l x
  | [] => by show (0 : Int) = c * 0; rw [Int.mul_zero]
  | a :: l => by
    show c * a + x * ev (psc c l) x = c * (a + x * ev l x)
    rw [ev_psc c x l]
    grind
theorem cf_pad : ∀ (l m : List Int) (t : Nat), cf (pad l m) t = cf l t + cf m t
  | [], m, t => by rw [pad, cf_nil, Int.zero_add]
  | a :: l, [], t => by rw [pad, cf_nil, Int.add_zero]
  | a :: l, b :: m, 0 => rfl
  | a :: l, b :: m, t + 1 => by rw [pad, cf_succ, cf_succ, cf_succ, cf_pad l m t]
theorem cf_psc (c : Int) : ∀ (l : List Int) (t : Nat), cf (psc c l) t = c * cf l t
  | [], t => by show cf [] t = _; rw [cf_nil, Int.mul_zero]
  | a :: l, 0 => rfl
  | a :: l, t + 1 => by show cf (c * a :: psc c l) (t + 1) = _; rw [cf_succ, cf_succ, cf_psc c l t]
/-- Told by the same everywhere, the same numbers. -/
theorem ev_same {l m : List Int} (X : Int) (h : ∀ x, X ≤ x → ev l x = ev m x) (t : Nat) : cf l t = cf m t := by
  have h1 := ev_null (l := pad l (psc (-1) m)) X (fun x hx => by rw [ev_pad, ev_psc, h x hx]; omega) t
  rw [cf_pad, cf_psc] at h1
  omega
def Poly (g : Int → Int) : Prop := ∃ l, ∀ x, g x = ev l x
theorem Poly.const (c : Int) : Poly fun _ => c := ⟨[c], fun x => by show c = c + x * 0; rw [Int.mul_zero, Int.add_zero]⟩
theorem Poly.id : Poly fun x => x := ⟨[0, 1], fun x => by show x = 0 + x * (1 + x * 0); rw [Int.mul_zero, Int.add_zero, Int.mul_one, Int.zero_add]⟩
theorem Poly.add {g h : Int → Int} : Poly g → Poly h → Poly fun x => g x + h x
  | ⟨l, hl⟩, ⟨m, hm⟩ => ⟨pad l m, fun x => by show g x + h x = _; rw [ev_pad, hl x, hm x]⟩
theorem Poly.scale (c : Int) {g : Int → Int} : Poly g → Poly fun x => c * g x
  | ⟨l, hl⟩ => ⟨psc c l, fun x => by show c * g x = _; rw [ev_psc, hl x]⟩
theorem Poly.mulx {g : Int → Int} : Poly g → Poly fun x => x * g x
  | ⟨l, hl⟩ => ⟨0 :: l, fun x => by show x * g x = _; rw [ev, Int.zero_add, hl x]⟩
theorem Poly.mul {g h : Int → Int} (hg : Poly g) : Poly h → Poly fun x => g x * h x
  | ⟨m, hm⟩ => by
    have key : ∀ m : List Int, Poly fun x => g x * ev m x := fun m => by
      induction m with
      | nil =>
        have : (fun x => g x * ev [] x) = fun _ => 0 := funext fun x => Int.mul_zero _
        rw [this]; exact Poly.const 0
      | cons a m ih =>
        have : (fun x => g x * ev (a :: m) x) = fun x => a * g x + x * (g x * ev m x) := funext fun x => by
          rw [ev]
          generalize ev m x = e
          generalize g x = y
          grind
        rw [this]
        exact (hg.scale a).add ih.mulx
    have : (fun x => g x * h x) = fun x => g x * ev m x := funext fun x => by rw [hm x]
    rw [this]
    exact key m
theorem Poly.sum {g : Nat → Int → Int} : ∀ {n : Nat}, (∀ i, i < n → Poly (g i)) → Poly fun x => sm n fun i => g i x
  | 0, _ => Poly.const 0
  | n + 1, h => (Poly.sum fun i hi => h i (by omega)).add (h n (by omega))
theorem Poly.dt {M : Int → Mx} : ∀ {n : Nat}, (∀ i, i < n → ∀ j, j < n → Poly fun x => M x i j) → Poly fun x => Go.Proofs.YtjaabemlpiafaaaDoor.dt n (M x)
  | 0, _ => Poly.const 1
  | n + 1, h => by
    show Poly fun x => sm (n + 1) fun i => sg i * M x 0 i * Go.Proofs.YtjaabemlpiafaaaDoor.dt n fun j k => M x (j + 1) (skp i k)
    exact Poly.sum (g := fun i x => sg i * M x 0 i * Go.Proofs.YtjaabemlpiafaaaDoor.dt n fun j k => M x (j + 1) (skp i k)) fun i hi => ((h 0 (by omega) i hi).scale (sg i)).mul (Poly.dt (M := fun x j k => M x (j + 1) (skp i k)) fun j hj k hk => h (j + 1) (by omega) _ (skp_bd hk))
/-- What begins with 1 is above 0 at great numbers. -/
theorem ev_monic : ∀ (l : List Int), ∃ X : Int, ∀ x, X ≤ x → 0 < ev (l ++ [1]) x
  | [] => ⟨0, fun x _ => by show 0 < 1 + x * 0; omega⟩
  | a :: l => by
    obtain ⟨X, h⟩ := ev_monic l
    refine ⟨max X ((a.natAbs : Int) + 1), fun x hx => ?_⟩
    have h1 := h x (by omega)
    show 0 < a + x * ev (l ++ [1]) x
    have h2 : x * 1 ≤ x * ev (l ++ [1]) x := Int.mul_le_mul_of_nonneg_left (by omega) (by omega)
    omega
/-- A sum of powers is such. -/
theorem ev_sum (c : Nat → Int) (x : Int) : ∀ n, ev ((List.range n).map c) x = sm n fun t => c t * x ^ t
  | 0 => rfl
  | n + 1 => by
    have key : ∀ (l : List Int) (a : Int), ev (l ++ [a]) x = ev l x + a * x ^ l.length := fun l a => by
      induction l with
      | nil => show a + x * 0 = 0 + a * x ^ 0; rw [Int.pow_zero]; omega
      | cons b l ih =>
        show b + x * ev (l ++ [a]) x = b + x * ev l x + a * x ^ (l.length + 1)
        rw [ih, Int.pow_succ]
        generalize x ^ l.length = p
        generalize ev l x = e
        grind
    rw [List.range_succ, List.map_append, List.map_cons, List.map_nil, key, ev_sum c x n, sm]
    simp
theorem cf_sum (c : Nat → Int) (n : Nat) (t : Nat) : cf ((List.range n).map c) t = if t < n then c t else 0 := by
  by_cases h : t < n
  · rw [if_pos h]; simp [cf, h]
  · rw [if_neg h, cf_out (by simp; omega)]
/-- Two sums of powers that are the same everywhere. -/
theorem sum_same {c d : Nat → Int} {n : Nat} (X : Int) (h : ∀ x, X ≤ x → (sm n fun t => c t * x ^ t) = sm n fun t => d t * x ^ t) {t : Nat} (ht : t < n) : c t = d t := by
  have h1 := ev_same (l := (List.range n).map c) (m := (List.range n).map d) X (fun x hx => by rw [ev_sum, ev_sum, h x hx]) t
  rwa [cf_sum, cf_sum, if_pos ht, if_pos ht] at h1
end Go.Proofs.YtjaabemlpiafaaaDoor
/-! Mtc: Plain mathematics of the characteristic of a matrix: over all sets of rows; what it tells of each number. -/
namespace Go.Proofs.YtjaabemlpiafaaaDoor
open Go.RowKit
set_option linter.unusedVariables false

theorem sm_app (g : Nat → Int) (a : Nat) : ∀ b, sm (a + b) g = sm a g + sm b fun i => g (a + i)
  | 0 => by rw [Nat.add_zero, sm, Int.add_zero]
  | b + 1 => by rw [← Nat.add_assoc, sm, sm_app g a b, sm]; omega
theorem sm_rev (g : Nat → Int) : ∀ n, sm (n + 1) g = sm (n + 1) fun t => g (n - t)
  | 0 => rfl
  | n + 1 => by
    have e : sm (n + 1) (fun i => g (n + 1 - (i + 1))) = sm (n + 1) g := by
      rw [sm_rev g n]
      exact sm_congr fun i hi => by rw [show n + 1 - (i + 1) = n - i by omega]
    rw [sm_first (fun t => g (n + 1 - t)) (n + 1), e, sm, Nat.sub_zero, Int.add_comm]
/-! ### Sets of rows -/
def bt (s i : Nat) : Bool := s / 2 ^ i % 2 == 1
theorem bt_low {s m : Nat} (h : s < 2 ^ m) : bt s m = false := by unfold bt; rw [Nat.div_eq_of_lt h]; rfl
theorem bt_high {s m : Nat} (h : s < 2 ^ m) : bt (2 ^ m + s) m = true := by
  unfold bt
  rw [Nat.add_div_left _ (Nat.pow_pos (by omega)), Nat.div_eq_of_lt h]
  rfl
theorem bt_lo {s m i : Nat} (h : i < m) : bt (2 ^ m + s) i = bt s i := by
  unfold bt
  have e : 2 ^ m = 2 ^ i * (2 * 2 ^ (m - i - 1)) := by
    rw [← Nat.mul_assoc, ← Nat.pow_succ, ← Nat.pow_add]
    congr 1
    omega
  rw [e, Nat.mul_add_div (Nat.pow_pos (by omega)), Nat.add_comm, Nat.add_mul_mod_self_left]
def cnt (S : Nat → Bool) : Nat → Nat
  | 0 => 0
  | m + 1 => cnt S m + if S m = true then 1 else 0
theorem cnt_le (S : Nat → Bool) : ∀ m, cnt S m ≤ m
  | 0 => Nat.le_refl _
  | m + 1 => by have := cnt_le S m; rw [cnt]; split <;> omega
theorem cnt_congr {S S' : Nat → Bool} : ∀ {m : Nat}, (∀ i, i < m → S i = S' i) → cnt S m = cnt S' m
  | 0, _ => rfl
  | m + 1, h => by rw [cnt, cnt, cnt_congr fun i hi => h i (by omega), h m (by omega)]
/-- The row of a set at a place. -/
def sel (S : Nat → Bool) : Nat → Nat → Nat
  | 0, r => r
  | i + 1, r => if S i = true then sel S i r else skp i (sel S i r)
theorem sel_yes {S : Nat → Bool} {i : Nat} (h : S i = true) (r : Nat) : sel S (i + 1) r = sel S i r := by rw [sel, if_pos h]
theorem sel_no {S : Nat → Bool} {i : Nat} (h : ¬ S i = true) (r : Nat) : sel S (i + 1) r = skp i (sel S i r) := by rw [sel, if_neg h]
theorem sel_top (S : Nat → Bool) : ∀ m d, sel S m (cnt S m + d) = m + d
  | 0, d => rfl
  | m + 1, d => by
    by_cases h : S m = true
    · rw [sel_yes h, cnt, if_pos h, Nat.add_assoc, sel_top S m]; omega
    · rw [sel_no h, cnt, if_neg h, Nat.add_zero, sel_top S m, skp_ge (by omega)]; omega
theorem sel_in {S : Nat → Bool} : ∀ {m r : Nat}, r < cnt S m → sel S m r < m ∧ S (sel S m r) = true
  | 0, r, h => by simp [cnt] at h
  | m + 1, r, h => by
    by_cases hs : S m = true
    · rw [sel_yes hs]
      rw [cnt, if_pos hs] at h
      by_cases h1 : r < cnt S m
      · have := sel_in h1; exact ⟨by omega, this.2⟩
      · have e := sel_top S m 0
        rw [Nat.add_zero] at e
        rw [show r = cnt S m by omega, e]
        exact ⟨by omega, hs⟩
    · rw [cnt, if_neg hs, Nat.add_zero] at h
      have := sel_in h
      rw [sel_no hs, skp_lt this.1]
      exact ⟨by omega, this.2⟩
theorem sel_congr {S S' : Nat → Bool} : ∀ {m : Nat}, (∀ i, i < m → S i = S' i) → ∀ r, sel S m r = sel S' m r
  | 0, _, _ => rfl
  | m + 1, h, r => by rw [sel, sel, sel_congr (fun i hi => h i (by omega)) r, h m (by omega)]
def sub (S : Nat → Bool) (m : Nat) (A : Mx) : Mx := fun r c => A (sel S m r) (sel S m c)
/-! ### Rows that are sums, rows that are multiples -/
section
variable {n : Nat} {F : Mx → Int}
theorem Alt.split (H : Alt n F) (R0 R1 : Mx) : ∀ (m : Nat) (T : Mx), m ≤ n → F (fun i => if i < m then fun j => R0 i j + R1 i j else T i) = sm (2 ^ m) fun s => F fun i => if i < m then (if bt s i = true then R1 i else R0 i) else T i
  | 0, T, _ => by
    show _ = 0 + _
    rw [Int.zero_add]
    rfl
  | m + 1, T, hm => by
    have e0 : ∀ (P : Mx) (v : Nat → Int) (T : Mx), upd (fun i => if i < m then P i else T i) m v = fun i => if i < m then P i else upd T m v i := fun P v T => by
      funext i
      by_cases h : i = m
      · subst h; rw [upd_at, if_neg (by omega), upd_at]
      · rw [upd_ne _ _ h, upd_ne _ _ h]
    have e1 : (fun i => if i < m + 1 then fun j => R0 i j + R1 i j else T i) = upd (fun i => if i < m then fun j => R0 i j + R1 i j else T i) m fun j => R0 m j + R1 m j := by
      rw [e0]
      funext i
      by_cases h : i < m
      · rw [if_pos (by omega), if_pos h]
      · rw [if_neg h]
        by_cases h2 : i = m
        · subst h2; rw [if_pos (by omega), upd_at]
        · rw [if_neg (by omega), upd_ne _ _ h2]
    rw [e1, H.add _ _ _ (by omega), e0, e0, H.split R0 R1 m _ (by omega), H.split R0 R1 m _ (by omega), Nat.pow_succ, Nat.mul_two, sm_app]
    congr 1
    · refine sm_congr fun s hs => ?_
      congr 1
      funext i
      by_cases h : i < m
      · rw [if_pos h, if_pos (show i < m + 1 by omega)]
      · rw [if_neg h]
        by_cases h2 : i = m
        · subst h2; rw [if_pos (show i < i + 1 by omega), upd_at, bt_low hs]; rfl
        · rw [if_neg (by omega), upd_ne _ _ h2]
    · refine sm_congr fun s hs => ?_
      congr 1
      funext i
      by_cases h : i < m
      · rw [if_pos h, if_pos (show i < m + 1 by omega), bt_lo h]
      · rw [if_neg h]
        by_cases h2 : i = m
        · subst h2; rw [if_pos (show i < i + 1 by omega), upd_at, bt_high hs]; rfl
        · rw [if_neg (by omega), upd_ne _ _ h2]
theorem Alt.times (H : Alt n F) (C : Mx) {j : Nat} (hj : j < n) (a : Int) (u : Nat → Int) : F (upd C j fun i => a * u i) = a * F (upd C j u) := by
  have h := H.lin C j a u (fun _ => 0) hj
  rw [H.zero C hj, Int.add_zero] at h
  rw [← h]
  congr 2
  funext i
  rw [Int.add_zero]
def prI (a : Nat → Int) : Nat → Int
  | 0 => 1
  | m + 1 => prI a m * a m
theorem Alt.scale (H : Alt n F) (a : Nat → Int) (U : Mx) : ∀ (m : Nat) (T : Mx), m ≤ n → F (fun i => if i < m then fun j => a i * U i j else T i) = prI a m * F fun i => if i < m then U i else T i
  | 0, T, _ => by rw [prI, Int.one_mul]; rfl
  | m + 1, T, hm => by
    have e0 : ∀ (P : Mx) (v : Nat → Int) (T : Mx), (fun i => if i < m then P i else upd T m v i) = upd (fun i => if i < m then P i else T i) m v := fun P v T => by
      funext i
      by_cases h : i = m
      · subst h; rw [upd_at, if_neg (by omega), upd_at]
      · rw [upd_ne _ _ h, upd_ne _ _ h]
    have e1 : ∀ P : Mx, (fun i => if i < m + 1 then P i else T i) = fun i => if i < m then P i else upd T m (P m) i := fun P => by
      funext i
      by_cases h : i < m
      · rw [if_pos (by omega), if_pos h]
      · rw [if_neg h]
        by_cases h2 : i = m
        · subst h2; rw [if_pos (by omega), upd_at]
        · rw [if_neg (by omega), upd_ne _ _ h2]
    rw [e1 fun i j => a i * U i j, e1 U, H.scale a U m _ (by omega), e0, H.times _ (by omega), prI, e0, Int.mul_assoc]
end
/-- Rows of the unit are left out. -/
theorem unit_rows (S : Nat → Bool) : ∀ (m n : Nat) (M : Mx), m ≤ n → (∀ i, i < m → S i = false → ∀ j, j < n → M i j = one i j) → dt n M = dt (n - m + cnt S m) (sub S m M)
  | 0, n, M, _, _ => rfl
  | m + 1, n, M, hm, h => by
    by_cases hs : S m = true
    · have ih := unit_rows S m n M (by omega) fun i hi => h i (by omega)
      have e : sub S (m + 1) M = sub S m M := by funext r c; unfold sub; rw [sel_yes hs, sel_yes hs]
      rw [e, cnt, if_pos hs, show n - (m + 1) + (cnt S m + 1) = n - m + cnt S m by omega]
      exact ih
    · obtain ⟨k, rfl⟩ : ∃ k, n = k + 1 := ⟨n - 1, by omega⟩
      have hf : S m = false := by simpa using hs
      have h1 : dt (k + 1) M = dt k (mnr m m M) := by
        rw [dt_row k M (i := m) (by omega), sm_at (p := m) (by omega) fun j hj hne => by rw [h m (by omega) hf j hj, one_ne hne, Int.mul_zero, Int.zero_mul], h m (by omega) hf m (by omega), one_at, sg_add, sg_sq, Int.one_mul, Int.one_mul]
      have ih := unit_rows S m k (mnr m m M) (by omega) fun i hi hi2 j hj => by
        unfold mnr
        rw [skp_lt hi, h i (by omega) hi2 _ (skp_bd hj)]
        unfold one skp
        split
        · rfl
        · rw [if_neg (by omega), if_neg (by omega)]
      have e : sub S m (mnr m m M) = sub S (m + 1) M := by
        funext r c
        unfold sub mnr
        rw [sel_no hs, sel_no hs]
      rw [h1, ih, e, cnt, if_neg hs, show k + 1 - (m + 1) + (cnt S m + 0) = k - m + cnt S m by omega]
/-! ### The characteristic -/
/-- The sum of all determinants of k rows with the columns of the same numbers, with its sign. -/
def chc (n : Nat) (A : Mx) (k : Nat) : Int := sm (2 ^ n) fun s => if cnt (bt s) n = k then sg k * dt k (sub (bt s) n A) else 0
def xI (x : Int) (A : Mx) : Mx := fun i j => x * un i j - A i j
theorem prI_set (S : Nat → Bool) (x : Int) : ∀ m, prI (fun i => if S i = true then -1 else x) m = sg (cnt S m) * x ^ (m - cnt S m)
  | 0 => by show (1 : Int) = 1 * x ^ 0; rw [Int.pow_zero]; rfl
  | m + 1 => by
    have hl := cnt_le S m
    rw [prI, prI_set S x m, cnt]
    by_cases h : S m = true
    · rw [if_pos h, if_pos h, sg, show m + 1 - (cnt S m + 1) = m - cnt S m by omega]
      generalize x ^ (m - cnt S m) = p
      generalize sg (cnt S m) = s
      grind
    · rw [if_neg h, if_neg h, Nat.add_zero, show m + 1 - cnt S m = (m - cnt S m) + 1 by omega, Int.pow_succ, Int.mul_assoc]
theorem dt_set (n : Nat) (A : Mx) (x : Int) (S : Nat → Bool) : dt n (fun i => if i < n then (if S i = true then fun j => -1 * A i j else fun j => x * one i j) else A i) = sg (cnt S n) * dt (cnt S n) (sub S n A) * x ^ (n - cnt S n) := by
  have e : (fun i => if i < n then (if S i = true then fun j => -1 * A i j else fun j => x * one i j) else A i) = fun i => if i < n then fun j => (if S i = true then -1 else x) * (if S i = true then A i else one i) j else A i := by
    funext i
    by_cases h : i < n
    · rw [if_pos h, if_pos h]
      by_cases hs : S i = true
      · rw [if_pos hs]; funext j; rw [if_pos hs, if_pos hs]
      · rw [if_neg hs]; funext j; rw [if_neg hs, if_neg hs]
    · rw [if_neg h, if_neg h]
  rw [e, (dt_alt n).scale (fun i => if S i = true then -1 else x) (fun i => if S i = true then A i else one i) n A (Nat.le_refl _), prI_set]
  rw [unit_rows S n n _ (Nat.le_refl _) fun i hi hf j hj => by rw [if_pos hi, if_neg (by rw [hf]; decide)], Nat.sub_self, Nat.zero_add]
  have e2 : dt (cnt S n) (sub S n fun i => if i < n then (if S i = true then A i else one i) else A i) = dt (cnt S n) (sub S n A) := dt_ext fun r hr c hc => by
    have h1 := sel_in hr
    show (if sel S n r < n then (if S (sel S n r) = true then A (sel S n r) else one (sel S n r)) else A (sel S n r)) (sel S n c) = A (sel S n r) (sel S n c)
    rw [if_pos h1.1, if_pos h1.2]
  rw [e2]
  generalize x ^ (n - cnt S n) = p
  generalize sg (cnt S n) = s
  grind
/-- What it tells of each number. -/
theorem dt_char (n : Nat) (A : Mx) (x : Int) : dt n (xI x A) = sm (n + 1) fun t => chc n A (n - t) * x ^ t := by
  have e1 : dt n (xI x A) = dt n fun i => if i < n then fun j => x * one i j + -1 * A i j else A i := dt_ext fun i hi j hj => by
    rw [if_pos hi]
    unfold xI un
    omega
  rw [e1, (dt_alt n).split (fun i j => x * one i j) (fun i j => -1 * A i j) n A (Nat.le_refl _)]
  have e2 : (fun s => dt n fun i => if i < n then (if bt s i = true then (fun j => -1 * A i j) else fun j => x * one i j) else A i) = fun s => sm (n + 1) fun k => if cnt (bt s) n = k then sg k * dt k (sub (bt s) n A) * x ^ (n - k) else 0 := by
    funext s
    rw [dt_set n A x (bt s)]
    have hl := cnt_le (bt s) n
    rw [sm_at (p := cnt (bt s) n) (by omega) fun k _ hne => if_neg (fun e => hne e.symm), if_pos rfl]
  have e3 : (sm (2 ^ n) fun s => dt n fun i => if i < n then (if bt s i = true then (fun j => -1 * A i j) else fun j => x * one i j) else A i) = sm (n + 1) fun k => chc n A k * x ^ (n - k) := by
    rw [e2, sm_swap]
    refine sm_congr fun k hk => ?_
    unfold chc
    rw [← sm_mulr]
    refine sm_congr fun s _ => ?_
    by_cases h : cnt (bt s) n = k
    · rw [if_pos h, if_pos h]
    · rw [if_neg h, if_neg h, Int.zero_mul]
  refine Eq.trans e3 ?_
  rw [sm_rev]
  exact sm_congr fun t ht => by rw [show n - (n - t) = t by omega]
/-- Its last number is 1. -/
theorem cnt_none : ∀ {m s : Nat}, s < 2 ^ m → (cnt (bt s) m = 0 ↔ s = 0)
  | 0, s, h => by
    have : s = 0 := by simpa using h
    subst this
    exact ⟨fun _ => rfl, fun _ => rfl⟩
  | m + 1, s, h => by
    rw [cnt]
    by_cases h1 : s < 2 ^ m
    · rw [bt_low h1, if_neg (by decide), Nat.add_zero]
      exact cnt_none h1
    · obtain ⟨r, rfl⟩ : ∃ r, s = 2 ^ m + r := ⟨s - 2 ^ m, by omega⟩
      have hr : r < 2 ^ m := by rw [Nat.pow_succ] at h; omega
      rw [bt_high hr, if_pos rfl]
      have : 0 < 2 ^ m := Nat.pow_pos (by omega)
      exact ⟨fun e => by omega, fun e => by omega⟩
theorem chc_zero (n : Nat) (A : Mx) : chc n A 0 = 1 := by
  unfold chc
  have hp : 0 < 2 ^ n := Nat.pow_pos (by omega)
  rw [sm_at (p := 0) hp fun s hs hne => if_neg fun e => hne ((cnt_none hs).1 e), if_pos ((cnt_none hp).2 rfl)]
  rfl
end Go.Proofs.YtjaabemlpiafaaaDoor
/-! Mth: Plain mathematics of the characteristic: Cayley and Hamilton; Sylvester; the diagonal's sum; the determinant. -/
namespace Go.Proofs.YtjaabemlpiafaaaDoor
open Go.RowKit
set_option linter.unusedVariables false

/-- A matrix so many times. -/
def pwM (n : Nat) (A : Mx) : Nat → Mx
  | 0 => un
  | k + 1 => mm n (pwM n A k) A
theorem pwM_add (n : Nat) (A : Mx) (j : Nat) : ∀ k, ∀ i, i < n → ∀ l, l < n → mm n (pwM n A j) (pwM n A k) i l = pwM n A (j + k) i l
  | 0, i, hi, l, hl => un_mm _ i hl
  | k + 1, i, hi, l, hl => by
    have ih := pwM_add n A j k
    show mm n (pwM n A j) (mm n (pwM n A k) A) i l = mm n (pwM n A (j + k)) A i l
    rw [← mm_assoc]
    exact mm_ext ih (fun _ _ _ _ => rfl) i hi l hl
theorem pwM_one (n : Nat) (A : Mx) {i l : Nat} (hi : i < n) : pwM n A 1 i l = A i l := mm_un A hi l
/-- Sums of polynomials, as lists. -/
def psm : Nat → (Nat → List Int) → List Int
  | 0, _ => []
  | n + 1, g => pad (psm n g) (g n)
theorem ev_psm (g : Nat → List Int) (x : Int) : ∀ n, ev (psm n g) x = sm n fun i => ev (g i) x
  | 0 => rfl
  | n + 1 => by rw [psm, ev_pad, ev_psm g x n, sm]
theorem cf_psm (g : Nat → List Int) (t : Nat) : ∀ n, cf (psm n g) t = sm n fun i => cf (g i) t
  | 0 => cf_nil t
  | n + 1 => by rw [psm, cf_pad, cf_psm g t n, sm]
theorem bnd (f : Nat → Nat) : ∀ n, ∃ T, ∀ i, i < n → f i ≤ T
  | 0 => ⟨0, fun i hi => by omega⟩
  | n + 1 => by
    obtain ⟨T, h⟩ := bnd f n
    exact ⟨T + f n, fun i hi => by
      by_cases e : i = n
      · subst e; omega
      · have := h i (by omega); omega⟩
theorem bnd2 (f : Nat → Nat → Nat) (n : Nat) : ∃ T, ∀ i, i < n → ∀ j, j < n → f i j ≤ T := by
  have h : ∀ i, ∃ T, ∀ j, j < n → f i j ≤ T := fun i => bnd (f i) n
  obtain ⟨T, hT⟩ := bnd (fun i => Classical.choose (h i)) n
  exact ⟨T, fun i hi j hj => Nat.le_trans (Classical.choose_spec (h i) j hj) (hT i hi)⟩
theorem poly_xI (A : Mx) (i j : Nat) : Poly fun x => xI x A i j := by
  have e : (fun x => xI x A i j) = fun x => un i j * x + -A i j := funext fun x => by unfold xI; rw [Int.mul_comm]; omega
  rw [e]
  exact (Poly.id.scale (un i j)).add (Poly.const _)
theorem poly_ad (m : Nat) (A : Mx) (i j : Nat) : Poly fun x => ad m (xI x A) i j := by
  have h : Poly fun x => dt m (mnr j i (xI x A)) := Poly.dt (M := fun x => mnr j i (xI x A)) fun r _ c _ => poly_xI A _ _
  exact h.scale (sg (i + j))
/-- Cayley and Hamilton. -/
theorem hamilton (n : Nat) (A : Mx) {i k : Nat} (hi : i < n) (hk : k < n) : (sm (n + 1) fun t => chc n A (n - t) * pwM n A t i k) = 0 := by
  obtain ⟨m, rfl⟩ : ∃ m, n = m + 1 := ⟨n - 1, by omega⟩
  obtain ⟨N, hN⟩ : ∃ N, N = m + 1 := ⟨_, rfl⟩
  rw [← hN] at hi hk ⊢
  obtain ⟨l, hl⟩ : ∃ l : Nat → Nat → List Int, ∀ i j x, ad m (xI x A) i j = ev (l i j) x := ⟨fun i j => Classical.choose (poly_ad m A i j), fun i j x => Classical.choose_spec (poly_ad m A i j) x⟩
  obtain ⟨c, hc⟩ : ∃ c : Nat → Int, ∀ t, c t = if t < N + 1 then chc N A (N - t) else 0 := ⟨_, fun t => rfl⟩
  obtain ⟨b, hb⟩ : ∃ b : Nat → Mx, ∀ t i k, b t i k = cf (l i k) t := ⟨fun t i k => cf (l i k) t, fun _ _ _ => rfl⟩
  obtain ⟨b', hb'⟩ : ∃ b' : Nat → Mx, ∀ t i k, b' t i k = cf (0 :: l i k) t := ⟨fun t i k => cf (0 :: l i k) t, fun _ _ _ => rfl⟩
  have key : ∀ i, i < N → ∀ k, k < N → ∀ t, b' t i k - mm N A (b t) i k = c t * un i k := fun i hi k hk t => by
    have h1 : ∀ x, ev (pad (0 :: l i k) (psm N fun j => psc (-A i j) (l j k))) x = ev (psc (un i k) ((List.range (N + 1)).map fun t => chc N A (N - t))) x := fun x => by
      rw [ev_pad, ev_psm, ev_psc, ev_sum, ← dt_char]
      have h2 := ad_right m (xI x A) (i := i) (k := k) (by omega) (by omega)
      rw [← hN] at h2
      have h3 : mm N (xI x A) (ad m (xI x A)) i k = x * ev (l i k) x + sm N fun j => ev (psc (-A i j) (l j k)) x := by
        have e : (fun j => xI x A i j * ad m (xI x A) j k) = fun j => x * (un i j * ev (l j k) x) + ev (psc (-A i j) (l j k)) x := funext fun j => by
          rw [hl, ev_psc]
          unfold xI
          generalize ev (l j k) x = y
          generalize un i j = z
          generalize A i j = w
          grind
        show (sm N fun j => xI x A i j * ad m (xI x A) j k) = _
        rw [e, sm_lin, sm_at (p := i) hi fun j _ hne => by rw [show un i j = 0 from one_ne hne, Int.zero_mul], show un i i = 1 from one_at i, Int.one_mul]
      rw [h3] at h2
      rw [ev, Int.zero_add, h2]
      by_cases e : i = k
      · subst e; rw [if_pos rfl, show un i i = 1 from one_at i, Int.one_mul]
      · rw [if_neg e, show un i k = 0 from one_ne (fun e2 => e e2.symm), Int.zero_mul]
    have h2 := ev_same 0 (fun x _ => h1 x) t
    rw [cf_pad, cf_psm, cf_psc, cf_sum, ← hb', ← hc] at h2
    have e : (fun j => cf (psc (-A i j) (l j k)) t) = fun j => -(A i j * b t j k) := funext fun j => by rw [cf_psc, hb, Int.neg_mul]
    rw [e, sm_neg, Int.mul_comm] at h2
    unfold mm
    omega
  have step : ∀ t, c t * pwM N A t i k = mm N (pwM N A t) (b' t) i k - mm N (pwM N A (t + 1)) (b' (t + 1)) i k := fun t => by
    have e1 : mm N (pwM N A (t + 1)) (b' (t + 1)) i k = mm N (pwM N A t) (mm N A (b t)) i k := by
      rw [← mm_assoc]
      exact sm_congr fun j hj => by rw [hb', cf_succ, hb]; rfl
    rw [e1]
    unfold mm
    have e2 : (sm N fun j => pwM N A t i j * b' t j k) - (sm N fun j => pwM N A t i j * mm N A (b t) j k) = sm N fun j => pwM N A t i j * (c t * un j k) := by
      have : (fun j => pwM N A t i j * b' t j k) = fun j => pwM N A t i j * (b' t j k - mm N A (b t) j k) + pwM N A t i j * mm N A (b t) j k := funext fun j => by rw [← Int.mul_add]; congr 1; omega
      rw [this, sm_add (fun j => pwM N A t i j * (b' t j k - mm N A (b t) j k))]
      have h3 : (sm N fun j => pwM N A t i j * (b' t j k - mm N A (b t) j k)) = sm N fun j => pwM N A t i j * (c t * un j k) := sm_congr fun j hj => by rw [key j hj k hk t]
      omega
    have e3 : (sm N fun j => pwM N A t i j * (c t * un j k)) = c t * pwM N A t i k := by
      rw [sm_at (p := k) hk fun j _ hne => by rw [show un j k = 0 from one_ne (fun e => hne e.symm), Int.mul_zero, Int.mul_zero], show un k k = 1 from one_at k, Int.mul_one, Int.mul_comm]
    exact (e2.trans e3).symm
  have tele : ∀ T, (sm T fun t => c t * pwM N A t i k) = -mm N (pwM N A T) (b' T) i k := fun T => by
    induction T with
    | zero =>
      have : mm N (pwM N A 0) (b' 0) i k = 0 := sm_zero fun j _ => by rw [hb', cf_zero, Int.mul_zero]
      rw [this]; rfl
    | succ T ih => rw [sm, ih, step T]; omega
  obtain ⟨T, hT⟩ := bnd2 (fun i j => (l i j).length) N
  have h0 : (sm (N + 1 + (T + 1)) fun t => c t * pwM N A t i k) = 0 := by
    rw [tele]
    have : mm N (pwM N A (N + 1 + (T + 1))) (b' (N + 1 + (T + 1))) i k = 0 := sm_zero fun j hj => by
      have := hT j hj k hk
      rw [hb', show N + 1 + (T + 1) = (N + 1 + T) + 1 by omega, cf_succ, cf_out (by omega), Int.mul_zero]
    rw [this]; rfl
  rw [sm_app] at h0
  have h4 : (sm (T + 1) fun t => c (N + 1 + t) * pwM N A (N + 1 + t) i k) = 0 := sm_zero fun t _ => by rw [hc, if_neg (by omega), Int.zero_mul]
  rw [h4, Int.add_zero] at h0
  rw [← h0]
  exact sm_congr fun t ht => by rw [hc, if_pos ht]
/-! ### Sylvester -/
def adI (y : Int) (A : Mx) : Mx := fun i j => A i j + y * un i j
theorem syl_mul (n : Nat) (A B : Mx) (x : Int) : ∀ i, i < n → ∀ j, j < n → mm n A (xI x (mm n B A)) i j = mm n (xI x (mm n A B)) A i j := fun i hi j hj => by
  have e1 : mm n A (xI x (mm n B A)) i j = x * A i j - mm n A (mm n B A) i j := by
    have e : (fun k => A i k * xI x (mm n B A) k j) = fun k => x * (A i k * un k j) + -(A i k * mm n B A k j) := funext fun k => by
      unfold xI
      generalize mm n B A k j = m
      grind
    show (sm n fun k => A i k * xI x (mm n B A) k j) = _
    rw [e, sm_lin, sm_neg]
    have := un_mm (n := n) A i hj
    unfold mm at this ⊢
    rw [this]
    omega
  have e2 : mm n (xI x (mm n A B)) A i j = x * A i j - mm n (mm n A B) A i j := by
    have e : (fun k => xI x (mm n A B) i k * A k j) = fun k => x * (un i k * A k j) + -(mm n A B i k * A k j) := funext fun k => by
      unfold xI
      generalize mm n A B i k = m
      grind
    show (sm n fun k => xI x (mm n A B) i k * A k j) = _
    rw [e, sm_lin, sm_neg]
    have := mm_un (n := n) A hi j
    unfold mm at this ⊢
    rw [this]
    omega
  rw [e1, e2, mm_assoc]
theorem syl_dt (n : Nat) (A B : Mx) (x : Int) : dt n A * (dt n (xI x (mm n B A)) - dt n (xI x (mm n A B))) = 0 := by
  have h : dt n (mm n A (xI x (mm n B A))) = dt n (mm n (xI x (mm n A B)) A) := dt_ext (syl_mul n A B x)
  rw [dt_mul, dt_mul, Int.mul_comm (dt n (xI x (mm n A B)))] at h
  rw [Int.mul_sub, h]
  omega
theorem poly_adI (A : Mx) (i j : Nat) : Poly fun y => adI y A i j := by
  have e : (fun y => adI y A i j) = fun y => un i j * y + A i j := funext fun y => by unfold adI; rw [Int.mul_comm]; omega
  rw [e]
  exact (Poly.id.scale (un i j)).add (Poly.const _)
theorem poly_mm (n : Nat) {P Q : Int → Mx} {i j : Nat} (hP : ∀ k, Poly fun y => P y i k) (hQ : ∀ k, Poly fun y => Q y k j) : Poly fun y => mm n (P y) (Q y) i j :=
  Poly.sum (g := fun k y => P y i k * Q y k j) fun k _ => (hP k).mul (hQ k)
theorem poly_xI2 (x : Int) {P : Int → Mx} {i j : Nat} (hP : Poly fun y => P y i j) : Poly fun y => xI x (P y) i j := by
  have e : (fun y => xI x (P y) i j) = fun y => -1 * P y i j + x * un i j := funext fun y => by unfold xI; omega
  rw [e]
  exact (hP.scale (-1)).add (Poly.const _)
theorem adI_great (n : Nat) (A : Mx) : ∃ Y : Int, ∀ y, Y ≤ y → 0 < dt n (adI y A) := by
  obtain ⟨l, hl⟩ : ∃ l : List Int, l = (List.range n).map fun t => chc n (fun i j => -A i j) (n - t) := ⟨_, rfl⟩
  obtain ⟨Y, hY⟩ := ev_monic l
  refine ⟨Y, fun y hy => ?_⟩
  have h := hY y hy
  have e : dt n (adI y A) = dt n (xI y fun i j => -A i j) := dt_ext fun i _ j _ => by show A i j + y * un i j = y * un i j - -A i j; omega
  rw [e, dt_char, ← ev_sum (fun t => chc n (fun i j => -A i j) (n - t)) y (n + 1), List.range_succ, List.map_append, List.map_cons, List.map_nil, Nat.sub_self, chc_zero, ← hl]
  exact h
/-- Products in either order have one characteristic. -/
theorem syl (n : Nat) (A B : Mx) (x : Int) : dt n (xI x (mm n B A)) = dt n (xI x (mm n A B)) := by
  have hP : Poly fun y => dt n (xI x (mm n B (adI y A))) := Poly.dt (M := fun y => xI x (mm n B (adI y A))) fun i _ j _ => poly_xI2 x (P := fun y => mm n B (adI y A)) (poly_mm n (P := fun _ => B) (fun k => Poly.const _) fun k => poly_adI A k j)
  have hQ : Poly fun y => dt n (xI x (mm n (adI y A) B)) := Poly.dt (M := fun y => xI x (mm n (adI y A) B)) fun i _ j _ => poly_xI2 x (P := fun y => mm n (adI y A) B) (poly_mm n (Q := fun _ => B) (fun k => poly_adI A i k) fun k => Poly.const _)
  obtain ⟨p, hp0⟩ := hP
  obtain ⟨q, hq0⟩ := hQ
  have hp : ∀ y, dt n (xI x (mm n B (adI y A))) = ev p y := hp0
  have hq : ∀ y, dt n (xI x (mm n (adI y A) B)) = ev q y := hq0
  obtain ⟨Y, hY⟩ := adI_great n A
  have h := ev_same (l := p) (m := q) Y fun y hy => by
    rw [← hp, ← hq]
    have h1 := syl_dt n (adI y A) B x
    have h2 := hY y hy
    rcases Int.mul_eq_zero.1 h1 with e | e <;> omega
  have ev0 : ∀ l : List Int, ev l 0 = cf l 0 := fun l => by
    cases l with
    | nil => rfl
    | cons a l => rw [ev, Int.zero_mul, Int.add_zero, cf_zero]
  have e0 : adI 0 A = A := by funext i j; unfold adI; rw [Int.zero_mul, Int.add_zero]
  have h0 := hp 0
  have h1 := hq 0
  rw [e0] at h0 h1
  rw [h0, h1, ev0, ev0, h 0]
theorem sylvester (n : Nat) (A B : Mx) {k : Nat} (hk : k ≤ n) : chc n (mm n A B) k = chc n (mm n B A) k := by
  have h := sum_same (c := fun t => chc n (mm n A B) (n - t)) (d := fun t => chc n (mm n B A) (n - t)) (n := n + 1) 0 (fun x _ => by
    rw [← dt_char, ← dt_char, syl]) (t := n - k) (by omega)
  have h2 : chc n (mm n A B) (n - (n - k)) = chc n (mm n B A) (n - (n - k)) := h
  rwa [show n - (n - k) = k by omega] at h2
/-! ### Its first number, and the last but one -/
theorem dt_neg (n : Nat) (A : Mx) : dt n (fun i j => -A i j) = sg n * dt n A := by
  have h := (dt_alt n).scale (fun _ => -1) A n A (Nat.le_refl _)
  have e1 : dt n (fun i j => -A i j) = dt n fun i => if i < n then fun j => -1 * A i j else A i := dt_ext fun i hi j _ => by rw [if_pos hi]; omega
  have e2 : (dt n fun i => if i < n then A i else A i) = dt n A := dt_ext fun i hi j _ => by rw [if_pos hi]
  have e3 : ∀ m, prI (fun _ => -1) m = sg m := fun m => by
    induction m with
    | zero => rfl
    | succ m ih => rw [prI, ih, sg]; omega
  rw [e1, h, e2, e3]
theorem chc_all (n : Nat) (A : Mx) : chc n A n = sg n * dt n A := by
  have h := dt_char n A 0
  have e1 : dt n (xI 0 A) = dt n fun i j => -A i j := dt_ext fun i _ j _ => by unfold xI; rw [Int.zero_mul]; omega
  rw [e1, dt_neg, sm_first] at h
  have e2 : (sm n fun i => chc n A (n - (i + 1)) * 0 ^ (i + 1)) = 0 := sm_zero fun i _ => by rw [Int.pow_succ, Int.mul_zero, Int.mul_zero]
  rw [e2, Int.add_zero, Int.pow_zero, Int.mul_one, Nat.sub_zero] at h
  exact h.symm
theorem sel_none {S : Nat → Bool} : ∀ {m : Nat}, (∀ i, i < m → S i = false) → ∀ r, sel S m r = m + r
  | 0, _, r => by rw [sel, Nat.zero_add]
  | m + 1, h, r => by rw [sel_no (by rw [h m (by omega)]; decide), sel_none (fun i hi => h i (by omega)) r, skp_ge (by omega)]; omega
theorem bt_zero (i : Nat) : bt 0 i = false := by unfold bt; rw [Nat.zero_div]; rfl
theorem one_sets (A : Mx) (N : Nat) : ∀ m, (sm (2 ^ m) fun s => if cnt (bt s) m = 1 then A (sel (bt s) m 0) (sel (bt s) m 0) else 0) = sm m fun i => A i i
  | 0 => by
    show 0 + (if cnt (bt 0) 0 = 1 then _ else 0) = 0
    rw [if_neg (by rw [cnt]; omega)]; rfl
  | m + 1 => by
    have ih := one_sets A N m
    have hp : 0 < 2 ^ m := Nat.pow_pos (by omega)
    rw [Nat.pow_succ, Nat.mul_two, sm_app, sm, ← ih]
    congr 1
    · refine sm_congr fun s hs => ?_
      have hb := bt_low hs
      have e : ∀ r, sel (bt s) (m + 1) r = skp m (sel (bt s) m r) := fun r => sel_no (by rw [hb]; decide) r
      rw [cnt, hb, if_neg (show ¬ false = true by decide), Nat.add_zero]
      by_cases h : cnt (bt s) m = 1
      · rw [if_pos h, if_pos h, e, skp_lt (sel_in (by omega)).1]
      · rw [if_neg h, if_neg h]
    · rw [sm_at (p := 0) hp fun s hs hne => ?_]
      · have hb : bt (2 ^ m + 0) m = true := bt_high hp
        have h0 : ∀ i, i < m → bt (2 ^ m + 0) i = false := fun i hi => by rw [bt_lo hi, bt_zero]
        have hc : cnt (bt (2 ^ m + 0)) m = 0 := by rw [cnt_congr (S' := bt 0) fun i hi => bt_lo hi]; exact (cnt_none hp).2 rfl
        rw [cnt, hb, if_pos rfl, hc, if_pos rfl, sel_yes hb, sel_none h0, Nat.add_zero]
      · refine if_neg fun e => hne ?_
        rw [cnt, bt_high hs, if_pos rfl, cnt_congr (S' := bt s) fun i hi => bt_lo hi] at e
        exact (cnt_none hs).1 (by omega)
theorem chc_one (n : Nat) (A : Mx) : chc n A 1 = -sm n fun i => A i i := by
  unfold chc
  rw [← one_sets A 0 n, ← sm_neg]
  refine sm_congr fun s _ => ?_
  by_cases h : cnt (bt s) n = 1
  · rw [if_pos h, if_pos h]
    show -1 * (0 + 1 * sub (bt s) n A 0 0 * 1) = _
    unfold sub
    omega
  · rw [if_neg h, if_neg h]; rfl
/-- Rows for columns. -/
theorem chc_tr (n : Nat) (A : Mx) (k : Nat) : chc n (tr A) k = chc n A k := by
  unfold chc
  refine sm_congr fun s _ => ?_
  by_cases h : cnt (bt s) n = k
  · rw [if_pos h, if_pos h, ← dt_tr k (sub (bt s) n A)]; rfl
  · rw [if_neg h, if_neg h]
end Go.Proofs.YtjaabemlpiafaaaDoor
/-! Mtw: Plain mathematics of matrices of numbers that run round. -/
namespace Go.Proofs.YtjaabemlpiafaaaDoor
open Go.RowKit
set_option linter.unusedVariables false

/-- The same but for what runs round. -/
def cg (a b : Int) : Prop := wrap64 a = wrap64 b
section
variable {a b c d : Int}
theorem cg.rfl' (a : Int) : cg a a := rfl
theorem cg.symm (h : cg a b) : cg b a := Eq.symm h
theorem cg.trans (h : cg a b) (h' : cg b c) : cg a c := Eq.trans h h'
theorem cg_w (a : Int) : cg (wrap64 a) a := w_w a
theorem cg.add (h : cg a b) (h' : cg c d) : cg (a + c) (b + d) := by unfold cg at *; rw [← w_addl, h, w_addl, ← w_addr, h', w_addr]
theorem cg.sub (h : cg a b) (h' : cg c d) : cg (a - c) (b - d) := by unfold cg at *; rw [← w_subl, h, w_subl, ← w_subr, h', w_subr]
theorem cg.mul (h : cg a b) (h' : cg c d) : cg (a * c) (b * d) := by unfold cg at *; rw [← w_mull, h, w_mull, ← w_mulr, h', w_mulr]
theorem cg.neg (h : cg a b) : cg (-a) (-b) := by unfold cg at *; rw [← w_neg, h, w_neg]
theorem cg.in (h : cg a b) (ha : In64 a) (hb : In64 b) : a = b := by unfold cg at h; rwa [ha.same, hb.same] at h
theorem cg.sm : ∀ {n : Nat} {g h : Nat → Int}, (∀ i, i < n → cg (g i) (h i)) → cg (sm n g) (Go.Proofs.YtjaabemlpiafaaaDoor.sm n h)
  | 0, _, _, _ => rfl
  | n + 1, _, _, h => (cg.sm fun i hi => h i (by omega)).add (h n (by omega))
theorem cg.dt : ∀ {n : Nat} {A B : Mx}, (∀ i, i < n → ∀ j, j < n → cg (A i j) (B i j)) → cg (dt n A) (Go.Proofs.YtjaabemlpiafaaaDoor.dt n B)
  | 0, _, _, _ => rfl
  | n + 1, A, B, h => cg.sm fun i hi => ((cg.rfl' (sg i)).mul (h 0 (by omega) i hi)).mul (cg.dt fun j hj k hk => h (j + 1) (by omega) _ (skp_bd hk))
theorem cg.mm {n : Nat} {A A' B B' : Mx} (hA : ∀ i, i < n → ∀ j, j < n → cg (A i j) (A' i j)) (hB : ∀ i, i < n → ∀ j, j < n → cg (B i j) (B' i j)) : ∀ i, i < n → ∀ j, j < n → cg (mm n A B i j) (Go.Proofs.YtjaabemlpiafaaaDoor.mm n A' B' i j) := fun i hi j hj => cg.sm fun k hk => (hA i hi k hk).mul (hB k hk j hj)
theorem cg.ad {n : Nat} {A B : Mx} (h : ∀ i, i < n + 1 → ∀ j, j < n + 1 → cg (A i j) (B i j)) {i j : Nat} (hi : i < n + 1) (hj : j < n + 1) : cg (ad n A i j) (Go.Proofs.YtjaabemlpiafaaaDoor.ad n B i j) :=
  (cg.rfl' _).mul (cg.dt fun r hr c hc => h _ (skp_bd hr) _ (skp_bd hc))
theorem cg.chc {n : Nat} {A B : Mx} (h : ∀ i, i < n → ∀ j, j < n → cg (A i j) (B i j)) (k : Nat) : cg (chc n A k) (Go.Proofs.YtjaabemlpiafaaaDoor.chc n B k) := cg.sm fun s _ => by
  by_cases e : cnt (bt s) n = k
  · rw [if_pos e, if_pos e]
    exact (cg.rfl' _).mul (cg.dt fun r hr c hc => h _ (sel_in (by omega)).1 _ (sel_in (by omega)).1)
  · rw [if_neg e, if_neg e]; exact cg.rfl' 0
theorem cg.pw {n : Nat} {A B : Mx} (h : ∀ i, i < n → ∀ j, j < n → cg (A i j) (B i j)) : ∀ k, ∀ i, i < n → ∀ j, j < n → cg (pwM n A k i j) (pwM n B k i j)
  | 0, i, _, j, _ => cg.rfl' _
  | k + 1, i, hi, j, hj => cg.mm (cg.pw h k) h i hi j hj
end
/-- What goes with an odd number to 1. -/
theorem odd_step {x d : Int} {i : Nat} (hd : d % 2 = 1) (h : ∃ q, x * d - 1 = 2 ^ i * q) : ∃ e : Int, (e = 0 ∨ e = 2 ^ i) ∧ ∃ q, (x + e) * d - 1 = 2 ^ (i + 1) * q := by
  obtain ⟨q, hq⟩ := h
  obtain ⟨r, hr⟩ : ∃ r, d = 2 * r + 1 := ⟨d / 2, by omega⟩
  by_cases h2 : q % 2 = 0
  · obtain ⟨p, hp⟩ : ∃ p, q = 2 * p := ⟨q / 2, by omega⟩
    exact ⟨0, .inl rfl, p, by rw [Int.add_zero, hq, hp, Int.pow_succ, Int.mul_assoc]⟩
  · obtain ⟨p, hp⟩ : ∃ p, q = 2 * p + 1 := ⟨q / 2, by omega⟩
    refine ⟨2 ^ i, .inr rfl, p + r + 1, ?_⟩
    rw [Int.pow_succ, Int.add_mul, show x * d + 2 ^ i * d - 1 = (x * d - 1) + 2 ^ i * d by omega, hq, hp, hr]
    generalize (2 : Int) ^ i = t
    grind
theorem odd_inv {d : Int} (hd : d % 2 = 1) : ∀ i : Nat, ∃ x q : Int, x * d - 1 = 2 ^ i * q
  | 0 => ⟨0, -1, by rw [Int.zero_mul, Int.pow_zero]; omega⟩
  | i + 1 => by
    obtain ⟨x, h⟩ := odd_inv hd i
    obtain ⟨e, _, h'⟩ := odd_step hd h
    exact ⟨x + e, h'⟩
theorem cg_one {x d : Int} (h : ∃ q, x * d - 1 = 2 ^ 64 * q) : cg (x * d) 1 := by
  obtain ⟨q, hq⟩ := h
  exact w_cg q (by rw [hq]; rfl)
theorem cg_even {a b : Int} (h : cg a b) : a % 2 = b % 2 := by
  obtain ⟨k, hk⟩ := w_gc h
  omega
theorem odd_only {x y d : Int} (hx : cg (x * d) 1) (hy : cg (y * d) 1) : cg x y := by
  have h1 : cg (x * (y * d)) (x * 1) := (cg.rfl' x).mul hy
  have h2 : cg (y * (x * d)) (y * 1) := (cg.rfl' y).mul hx
  rw [Int.mul_one] at h1 h2
  rw [show y * (x * d) = x * (y * d) by rw [Int.mul_left_comm]] at h2
  exact h1.symm.trans h2
/-- Of odd determinants: the inverse, and no other. -/
theorem inv_right {n : Nat} {A : Mx} {o : Int} (ho : cg (o * dt (n + 1) A) 1) {i k : Nat} (hi : i < n + 1) (hk : k < n + 1) : cg (mm (n + 1) A (fun i j => ad n A i j * o) i k) (un i k) := by
  have e : mm (n + 1) A (fun i j => ad n A i j * o) i k = mm (n + 1) A (ad n A) i k * o := by
    show (sm (n + 1) fun j => A i j * (ad n A j k * o)) = _
    rw [show mm (n + 1) A (ad n A) i k = sm (n + 1) fun j => A i j * ad n A j k from rfl, ← sm_mulr]
    exact sm_congr fun j _ => (Int.mul_assoc _ _ _).symm
  rw [e, ad_right n A hi hk]
  by_cases h : i = k
  · subst h
    rw [if_pos rfl, show un i i = 1 from one_at i, Int.mul_comm]
    exact ho
  · rw [if_neg h, Int.zero_mul, show un i k = 0 from one_ne (fun e => h e.symm)]
    exact cg.rfl' 0
theorem inv_left {n : Nat} {A : Mx} {o : Int} (ho : cg (o * dt (n + 1) A) 1) {i k : Nat} (hi : i < n + 1) (hk : k < n + 1) : cg (mm (n + 1) (fun i j => ad n A i j * o) A i k) (un i k) := by
  have e : mm (n + 1) (fun i j => ad n A i j * o) A i k = mm (n + 1) (ad n A) A i k * o := by
    show (sm (n + 1) fun j => ad n A i j * o * A j k) = _
    rw [show mm (n + 1) (ad n A) A i k = sm (n + 1) fun j => ad n A i j * A j k from rfl, ← sm_mulr]
    exact sm_congr fun j _ => by rw [Int.mul_assoc, Int.mul_comm o, Int.mul_assoc]
  rw [e, ad_left n A hi hk]
  by_cases h : i = k
  · subst h
    rw [if_pos rfl, show un i i = 1 from one_at i, Int.mul_comm]
    exact ho
  · rw [if_neg h, Int.zero_mul, show un i k = 0 from one_ne (fun e => h e.symm)]
    exact cg.rfl' 0
theorem inv_only {n : Nat} {A B C : Mx} (hB : ∀ i, i < n → ∀ k, k < n → cg (mm n B A i k) (un i k)) (hC : ∀ i, i < n → ∀ k, k < n → cg (mm n A C i k) (un i k)) : ∀ i, i < n → ∀ k, k < n → cg (B i k) (C i k) := fun i hi k hk => by
  have h1 : cg (mm n (mm n B A) C i k) (mm n un C i k) := cg.mm hB (fun _ _ _ _ => cg.rfl' _) i hi k hk
  have h2 : cg (mm n B (mm n A C) i k) (mm n B un i k) := cg.mm (fun _ _ _ _ => cg.rfl' _) hC i hi k hk
  rw [mm_un C hi k] at h1
  rw [un_mm B i hk, ← mm_assoc] at h2
  exact h2.symm.trans h1
end Go.Proofs.YtjaabemlpiafaaaDoor
/-! Mgr: Matrices of six rows of six numbers: as a value, in a block, read and stored whole. -/
namespace Go.Proofs.YtjaabemlpiafaaaDoor
open Go.RowKit
set_option linter.unusedVariables false

/-- The cells of such a matrix, row by row. -/
def ofg (A : Mx) : Array Value := ((List.range 36).map fun p => Value.int .i64 (A (p / 6) (p % 6))).toArray
theorem ofg_size (A : Mx) : (ofg A).size = 36 := by simp [ofg]
theorem ofg_at (A : Mx) {p : Nat} (h : p < 36) : (ofg A)[p]? = some (.int .i64 (A (p / 6) (p % 6))) := by
  unfold ofg
  rw [List.getElem?_toArray, List.getElem?_map, List.getElem?_range h]
  rfl
theorem ofg_out (A : Mx) {p : Nat} (h : ¬ p < 36) : (ofg A)[p]? = none := Array.getElem?_eq_none (by rw [ofg_size]; omega)
theorem ofg_congr {A B : Mx} (h : ∀ i, i < 6 → ∀ j, j < 6 → A i j = B i j) : ofg A = ofg B := by
  refine Array.ext_getElem? fun p => ?_
  by_cases hp : p < 36
  · rw [ofg_at A hp, ofg_at B hp, h _ (by omega) _ (by omega)]
  · rw [ofg_out A hp, ofg_out B hp]
theorem ofg_one (A : Mx) : (ofg A).all (·.oneCell') = true := by
  refine Array.all_eq_true_iff_forall_mem.2 fun v hv => ?_
  unfold ofg at hv
  simp only [List.mem_toArray, List.mem_map] at hv
  obtain ⟨p, _, rfl⟩ := hv
  rfl
/-- One number of it is another one. -/
def ptg (A : Mx) (i j : Nat) (x : Int) : Mx := fun a b => if a = i ∧ b = j then x else A a b
theorem ptg_at (A : Mx) (i j : Nat) (x : Int) : ptg A i j x i j = x := if_pos ⟨rfl, rfl⟩
theorem ptg_ne (A : Mx) {i j a b : Nat} (x : Int) (h : ¬ (a = i ∧ b = j)) : ptg A i j x a b = A a b := if_neg h
theorem ofg_put (A : Mx) {i j : Nat} (hi : i < 6) (hj : j < 6) (x : Int) : (ofg A).setIfInBounds (i * 6 + j) (.int .i64 x) = ofg (ptg A i j x) := by
  refine Array.ext_getElem? fun p => ?_
  rw [Array.getElem?_setIfInBounds]
  by_cases hp : p < 36
  · rw [ofg_at A hp, ofg_at (ptg A i j x) hp]
    by_cases he : i * 6 + j = p
    · rw [if_pos he, if_pos (by rw [ofg_size]; omega)]
      subst he
      rw [show (i * 6 + j) / 6 = i by omega, show (i * 6 + j) % 6 = j by omega, ptg_at]
    · rw [if_neg he, ptg_ne]
      omega
  · rw [if_neg (by omega), ofg_out A hp, ofg_out _ hp]
theorem ofg_zero : (#[.int .i64 0, .int .i64 0, .int .i64 0, .int .i64 0, .int .i64 0, .int .i64 0, .int .i64 0, .int .i64 0, .int .i64 0, .int .i64 0, .int .i64 0, .int .i64 0, .int .i64 0, .int .i64 0, .int .i64 0, .int .i64 0, .int .i64 0, .int .i64 0, .int .i64 0, .int .i64 0, .int .i64 0, .int .i64 0, .int .i64 0, .int .i64 0, .int .i64 0, .int .i64 0, .int .i64 0, .int .i64 0, .int .i64 0, .int .i64 0, .int .i64 0, .int .i64 0, .int .i64 0, .int .i64 0, .int .i64 0, .int .i64 0] : Array Value) = ofg fun _ _ => 0 := rfl
/-- A block that holds such a matrix. -/
def Gb (W : World) (b : Nat) (A : Mx) : Prop := W.heap[b]? = some (.cells (ofg A) 52 (0, 0))
section
variable {W : World} {b : Nat} {A : Mx}
theorem Gb.cell (h : Gb W b A) {i j : Nat} (hi : i < 6) (hj : j < 6) : W.cell? ⟨b, i * 6 + j, none⟩ = some (.int .i64 (A i j)) := by
  unfold Gb at h
  simp [World.cell?, h]
  rw [ofg_at A (by omega), show (i * 6 + j) / 6 = i by omega, show (i * 6 + j) % 6 = j by omega]
theorem Gb.fr (h : Gb W b A) (p : Nat) : W.frozen? ⟨b, p, none⟩ = false := by unfold Gb at h; simp [World.frozen?, h]
theorem Gb.lt (h : Gb W b A) : b < W.heap.size := (Array.getElem?_eq_some_iff.1 h).1
theorem Gb.of {W' : World} (h : Gb W b A) (e : W'.heap[b]? = W.heap[b]?) : Gb W' b A := e.trans h
theorem Gb.bel {W' : World} {n : Nat} (h : Gb W b A) (hB : Below n W W') (hb : b < n) : Gb W' b A := h.of (hB.block b hb)
theorem Gb.go {W' : World} (h : Gb W b A) (hB : Below W.heap.size W W') : Gb W' b A := h.bel hB h.lt
theorem Gb.al (h : Gb W b A) (o : Obj) : Gb (W.alloc o) b A := h.of (Below.heap_alloc W o b h.lt)
theorem Gb.new (W : World) (A : Mx) : Gb (W.alloc (.cells (ofg A) 52)) W.heap.size A := (MapKept.heap_alloc W _).1
theorem Gb.new0 (W : World) : Gb (W.alloc (.cells #[.int .i64 0, .int .i64 0, .int .i64 0, .int .i64 0, .int .i64 0, .int .i64 0, .int .i64 0, .int .i64 0, .int .i64 0, .int .i64 0, .int .i64 0, .int .i64 0, .int .i64 0, .int .i64 0, .int .i64 0, .int .i64 0, .int .i64 0, .int .i64 0, .int .i64 0, .int .i64 0, .int .i64 0, .int .i64 0, .int .i64 0, .int .i64 0, .int .i64 0, .int .i64 0, .int .i64 0, .int .i64 0, .int .i64 0, .int .i64 0, .int .i64 0, .int .i64 0, .int .i64 0, .int .i64 0, .int .i64 0, .int .i64 0] 52)) W.heap.size fun _ _ => 0 := by rw [ofg_zero]; exact Gb.new W _
theorem Gb.dr (h : Gb W b A) : Gb W.drew b A := h
theorem Gb.ot (h : Gb W b A) {a : Addr} (ha : b ≠ a.block) (v : Value) : Gb (W.setCell a v) b A := h.of (Below.heap_setCell W a v b ha)
theorem Gb.congr {B : Mx} (h : Gb W b A) (e : ∀ i, i < 6 → ∀ j, j < 6 → A i j = B i j) : Gb W b B := by unfold Gb at *; rw [h, ofg_congr e]
theorem Gb.put (h : Gb W b A) {i j : Nat} (hi : i < 6) (hj : j < 6) (x : Int) : Gb (W.setCell ⟨b, i * 6 + j, none⟩ (.int .i64 x)) b (ptg A i j x) := by
  unfold Gb at *
  rw [← ofg_put A hi hj x]
  simp [World.setCell, Array.getElem?_modify, h]
theorem Gb.row {B : Mx} (h : Gb W b A) : Gb (W.setRow b (ofg B)) b B := setRow_heap W b _ _ _ _ h
theorem Gb.oth {b' : Nat} {c : Array Value} (h : Gb W b A) (hb : b ≠ b') : Gb (W.setRow b' c) b A := by
  unfold Gb at *
  rw [← h]
  simp [World.setRow, Array.getElem?_modify, Ne.symm hb]
end
theorem bel_row {n b : Nat} {w W : World} {c : Array Value} (h : Below n w W) (hb : n ≤ b) : Below n w (W.setRow b c) :=
  ⟨h.os, h.tape, h.output, by simp [World.setRow]; exact h.size, fun k hk => by rw [← h.block k hk]; simp [World.setRow, Array.getElem?_modify]; intro e; omega⟩
theorem Tryd.infoG : (Tryd.prog.info? 52).map (·.size) = some 36 := by kernel_rfl
theorem ldg {W : World} {b : Nat} {A : Mx} (h : Gb W b A) : (loadVar 52 ⟨b, 0, none⟩).run Tryd.prog W = .ok (.agg (ofg A)) W :=
  run_loadVar_row _ _ _ _ _ _ _ h Tryd.underlying52 rfl (by rw [ofg_size]; exact Tryd.infoG)
theorem stg {W : World} {b : Nat} {A B : Mx} (h : Gb W b A) : (storeVar 52 ⟨b, 0, none⟩ (.agg (ofg B))).run Tryd.prog W = .ok () (W.setRow b (ofg B)) :=
  run_storeVar_row _ _ _ _ _ _ h (by rw [ofg_size]; exact Tryd.infoG) (by rw [ofg_size, ofg_size]) (ofg_one B)
/-- A whole matrix is read, in a plain region. -/
theorem wpl_ldg {ops : Array Oper} {rest : List Oper} {op : Oper} {a : Act} {w : World} {Q : Exit → Act → World → Prop} (b : Nat) (A : Mx) (x : Operand) (h : Gb w b A) (hgd : op.guard = none) (ho : op.op = .load 52 x) (hx : a.eval x = .pointer (some ⟨b, 0, none⟩))
    (hk : wpList Tryd.prog ops Q rest (a.put op.dst (.agg (ofg A))) w) : wpList Tryd.prog ops Q (op :: rest) a w :=
  wpList_plain hgd fun _ hK => by
    unfold Oper.wp execOp
    simp only [ho, hx, Instr.loadAt, Instr.sureAddr, Sem.run_bind, Sem.run_pure, Result.andThen_ok, ldg h]
    exact hK _ _ hk
/-- A whole matrix is stored, in a plain region. -/
theorem wpl_stg {ops : Array Oper} {rest : List Oper} {op : Oper} {a : Act} {w : World} {Q : Exit → Act → World → Prop} (b : Nat) (A B : Mx) (x y : Operand) (h : Gb w b A) (hgd : op.guard = none) (ho : op.op = .store 52 x y) (hx : a.eval x = .pointer (some ⟨b, 0, none⟩)) (hy : a.eval y = .agg (ofg B)) (hd : a.put op.dst undef = a)
    (hk : wpList Tryd.prog ops Q rest a (w.setRow b (ofg B))) : wpList Tryd.prog ops Q (op :: rest) a w :=
  wpList_plain hgd fun _ hK => by
    unfold Oper.wp execOp
    simp only [ho, hx, hy, Instr.storeAt, Instr.sureAddr, Sem.run_bind, Sem.run_pure, Result.andThen_ok, stg h]
    refine hK _ _ ?_
    rw [hd]
    exact hk
/-- A whole matrix is read, in a region that draws its order. -/
theorem yld {ops : Array Oper} {C : World → Prop} {op : Oper} {a : Act} (b : Nat) (A : Mx) (x : Operand) (hw : Region.wanted op (yielded ops a.tmps) = true) (ho : op.op = .load 52 x) (hx : a.eval x = .pointer (some ⟨b, 0, none⟩)) (hC : ∀ w, C w → Gb w b A) :
    YieldsIf Tryd.prog ops C op (.agg (ofg A)) a :=
  .inl ⟨hw, fun w hw' => by
    unfold execOp
    simp only [ho, hx, Instr.loadAt, Instr.sureAddr, Sem.run_bind, Sem.run_pure, Result.andThen_ok, ldg (hC w hw')]⟩
end Go.Proofs.YtjaabemlpiafaaaDoor
/-! Mga: The program's small steps on matrices: which row is meant where one is left out; the sign of a number. -/
namespace Go.Proofs.YtjaabemlpiafaaaDoor
open Go.RowKit
set_option linter.unusedVariables false

set_option maxHeartbeats 1000000 in
theorem past_any (i g : Nat) (hi : i ≤ 64) (w : World) : Calls Tryd.prog 48 #[.int .i64 (i : Nat), .int .i64 (g : Nat)] w fun e w' => e = .returned (.int .i64 (skp g i : Nat)) ∧ w' = w := by
  by_cases h : i < g
  · rw [skp_lt h]
    go_enter Tryd.func48, Tryd.ntmps48
    go_wp2_with fail
    go_ret
    exact ⟨rfl, rfl⟩
  · rw [skp_ge h]
    go_enter Tryd.func48, Tryd.ntmps48
    go_wp2_with fail
    go_ret
    exact ⟨ret1 (by go_num), rfl⟩
set_option maxHeartbeats 1000000 in
theorem sign_any (k : Nat) (hk : k ≤ 64) (w : World) : Calls Tryd.prog 29 #[.int .i64 (k : Nat)] w fun e w' => e = .returned (.int .i64 (sg k)) ∧ w' = w := by
  have hm : k % 2 = 0 ∨ k % 2 = 1 := by omega
  rcases hm with h | h
  · rw [sg_even h]
    have h2 : (k : Int) % 2 = 0 := by omega
    go_enter Tryd.func29, Tryd.ntmps29
    go_wp2_with fail
    go_ret
    exact ⟨rfl, rfl⟩
  · rw [sg_odd h]
    have h2 : (k : Int) % 2 = 1 := by omega
    go_enter Tryd.func29, Tryd.ntmps29
    go_wp2_with fail
    go_ret
    exact ⟨rfl, rfl⟩
theorem band1 (d : Int) : Go.bits .and .i64 d 1 = d % 2 := by
  unfold Go.bits
  simp only [IntWalk.i64_left]
  have e : (BitVec.ofInt (IntKind.i64.bits) d &&& BitVec.ofInt (IntKind.i64.bits) 1).toNat = (d % 2).toNat := by
    show (BitVec.ofInt 64 d &&& BitVec.ofInt 64 1).toNat = (d % 2).toNat
    rw [BitVec.toNat_and, BitVec.toNat_ofInt]
    show (d % ((2 ^ 64 : Nat) : Int)).toNat &&& 1 = (d % 2).toNat
    rw [Nat.and_one_is_mod]
    omega
  rw [e, w_small (by omega) (by omega)]
  omega
theorem w_acc (S x y : Int) : wrap64 (wrap64 S + wrap64 (x * y)) = wrap64 (S + x * y) := by rw [w_addl, w_addr]
theorem w_acc2 (S x y : Int) : wrap64 (wrap64 S + wrap64 (wrap64 x * wrap64 y)) = wrap64 (S + x * y) := by rw [w_mull, w_mulr, w_addl, w_addr]
theorem ptg_same {A : Mx} {i j : Nat} {x : Int} (h : A i j = x) : ptg A i j x = A := by
  funext a b
  unfold ptg
  by_cases e : a = i ∧ b = j
  · rw [if_pos e, e.1, e.2, h]
  · rw [if_neg e]
theorem ptg_ptg (A : Mx) (i j : Nat) (x y : Int) : ptg (ptg A i j x) i j y = ptg A i j y := by
  funext a b
  unfold ptg
  by_cases e : a = i ∧ b = j
  · rw [if_pos e, if_pos e]
  · rw [if_neg e, if_neg e, if_neg e]
/-- So far: the rows ahead of i, and of row i the columns ahead of j. -/
def sof (m : Nat) (F : Mx) (i j : Nat) : Mx := fun a b => if a < m ∧ b < m ∧ (a < i ∨ (a = i ∧ b < j)) then F a b else 0
section
variable {m i j : Nat} {F : Mx}
theorem sof_next (hi : i < m) (hj : j < m) : ptg (sof m F i j) i j (F i j) = sof m F i (j + 1) := by
  funext a b
  unfold ptg sof
  by_cases h : a = i ∧ b = j
  · obtain ⟨rfl, rfl⟩ := h
    rw [if_pos ⟨rfl, rfl⟩, if_pos ⟨hi, hj, by omega⟩]
  · rw [if_neg h]
    by_cases h2 : a < m ∧ b < m ∧ (a < i ∨ (a = i ∧ b < j))
    · rw [if_pos h2, if_pos ⟨h2.1, h2.2.1, by omega⟩]
    · rw [if_neg h2, if_neg (by omega)]
theorem sof_row : sof m F i m = sof m F (i + 1) 0 := by
  funext a b
  unfold sof
  by_cases h : a < m ∧ b < m ∧ (a < i ∨ (a = i ∧ b < m))
  · rw [if_pos h, if_pos (by omega)]
  · rw [if_neg h, if_neg (by omega)]
theorem sof_all : sof m F m 0 = fun a b => if a < m ∧ b < m then F a b else 0 := by
  funext a b
  unfold sof
  by_cases h : a < m ∧ b < m
  · rw [if_pos h, if_pos (by omega)]
  · rw [if_neg h, if_neg (by omega)]
theorem sof_none : sof m F 0 0 = fun _ _ => 0 := by
  funext a b
  unfold sof
  rw [if_neg (by omega)]
theorem sof_at : sof m F i j i j = 0 := by unfold sof; rw [if_neg (by omega)]
end
/-- Without a row and a column. -/
def wog (r c : Nat) (A : Mx) : Mx := fun i j => if i < 5 ∧ j < 5 then A (skp r i) (skp c j) else 0
/-- So far: the rows ahead of i, and of row i the columns ahead of j. -/
def wot (r c i j : Nat) (A : Mx) : Mx := fun a b => if a < 5 ∧ b < 5 ∧ (a < i ∨ (a = i ∧ b < j)) then A (skp r a) (skp c b) else 0
theorem wot_next {r c i j : Nat} (hi : i < 5) (hj : j < 5) (A : Mx) : ptg (wot r c i j A) i j (A (skp r i) (skp c j)) = wot r c i (j + 1) A := by
  funext a b
  unfold ptg wot
  by_cases h : a = i ∧ b = j
  · obtain ⟨rfl, rfl⟩ := h
    rw [if_pos ⟨rfl, rfl⟩, if_pos ⟨hi, hj, by omega⟩]
  · rw [if_neg h]
    by_cases h2 : a < 5 ∧ b < 5 ∧ (a < i ∨ (a = i ∧ b < j))
    · rw [if_pos h2, if_pos ⟨h2.1, h2.2.1, by omega⟩]
    · rw [if_neg h2, if_neg (by omega)]
theorem wot_row {r c i : Nat} (A : Mx) : wot r c i 5 A = wot r c (i + 1) 0 A := by
  funext a b
  unfold wot
  by_cases h : a < 5 ∧ b < 5 ∧ (a < i ∨ (a = i ∧ b < 5))
  · rw [if_pos h, if_pos (by omega)]
  · rw [if_neg h, if_neg (by omega)]
theorem wot_all (r c : Nat) (A : Mx) : wot r c 5 0 A = wog r c A := by
  funext a b
  unfold wot wog
  by_cases h : a < 5 ∧ b < 5
  · rw [if_pos h, if_pos (by omega)]
  · rw [if_neg h, if_neg (by omega)]
theorem wot_none (r c : Nat) (A : Mx) : wot r c 0 0 A = fun _ _ => 0 := by
  funext a b
  unfold wot
  rw [if_neg (by omega)]
end Go.Proofs.YtjaabemlpiafaaaDoor
