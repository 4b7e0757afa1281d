/-
  Plain mathematics of orders: sums over numbers below a bound, wrong pairs, and that signs are multiplied; nothing of the program.
-/
import Derived.Test.YtigichhcoflaiaaOrdr
namespace Go.Proofs.Ytigichhcoflaiaa
open Go.RowKit
set_option linter.unusedVariables false

/-- The sum over the numbers below a bound. -/
def su (g : Nat → Nat) : Nat → Nat
  | 0 => 0
  | k + 1 => su g k + g k
theorem su_congr {g h : Nat → Nat} : ∀ {n : Nat}, (∀ i, i < n → g i = h i) → su g n = su h n
  | 0, _ => rfl
  | n + 1, e => by simp only [su]; rw [su_congr (fun i hi => e i (by omega)), e n (by omega)]
theorem su_add (g h : Nat → Nat) : ∀ n, su (fun i => g i + h i) n = su g n + su h n
  | 0 => rfl
  | n + 1 => by simp only [su]; rw [su_add g h n]; omega
theorem su_mul (c : Nat) (g : Nat → Nat) : ∀ n, su (fun i => c * g i) n = c * su g n
  | 0 => rfl
  | n + 1 => by simp only [su]; rw [su_mul c g n, Nat.mul_add]
theorem su_zero : ∀ {g : Nat → Nat} {n : Nat}, (∀ i, i < n → g i = 0) → su g n = 0
  | _, 0, _ => rfl
  | g, n + 1, h => by simp only [su]; rw [su_zero (fun i hi => h i (by omega)), h n (by omega)]
theorem su_list (g : Nat → Nat) : ∀ n, su g n = ((List.range n).map g).foldr (· + ·) 0
  | 0 => rfl
  | n + 1 => by
    have hf : ∀ (l : List Nat) (x : Nat), (l ++ [x]).foldr (· + ·) 0 = l.foldr (· + ·) 0 + x := fun l x => by
      induction l with
      | nil => simp
      | cons a l ih => simp only [List.cons_append, List.foldr_cons, ih]; omega
    rw [List.range_succ, List.map_append, List.map_cons, List.map_nil, hf, ← su_list g n]; rfl
theorem fold_perm {a b : List Nat} (h : a.Perm b) : a.foldr (· + ·) 0 = b.foldr (· + ·) 0 := by
  induction h with
  | nil => rfl
  | cons x _ ih => simp only [List.foldr_cons, ih]
  | swap x y l => simp only [List.foldr_cons]; omega
  | trans _ _ h1 h2 => exact h1.trans h2
/-- In whatever order. -/
theorem su_perm {g q : Nat → Nat} {n : Nat} (h : ((List.range n).map q).Perm (List.range n)) : su (fun i => g (q i)) n = su g n := by
  rw [su_list, su_list]
  have := fold_perm (h.map g)
  rw [List.map_map] at this
  exact this
/-- Over all pairs. -/
def du (f : Nat → Nat → Nat) (n : Nat) : Nat := su (fun i => su (fun j => f i j) n) n
def tu (f : Nat → Nat → Nat) (n : Nat) : Nat := su (fun i => su (fun j => f i j) i) n
theorem du_add (f g : Nat → Nat → Nat) (n : Nat) : du (fun i j => f i j + g i j) n = du f n + du g n := by
  unfold du
  rw [← su_add]
  exact su_congr fun i _ => su_add _ _ _
theorem du_mul (c : Nat) (f : Nat → Nat → Nat) (n : Nat) : du (fun i j => c * f i j) n = c * du f n := by
  unfold du
  rw [← su_mul]
  exact su_congr fun i _ => su_mul _ _ _
theorem du_congr {f g : Nat → Nat → Nat} {n : Nat} (h : ∀ i j, i < n → j < n → f i j = g i j) : du f n = du g n := su_congr fun i hi => su_congr fun j hj => h i j hi hj
theorem du_sym {f : Nat → Nat → Nat} : ∀ {n : Nat}, (∀ i j, i < n → j < n → f i j = f j i) → (∀ i, i < n → f i i = 0) → du f n = 2 * tu f n
  | 0, _, _ => rfl
  | n + 1, hs, hd => by
    have ih := du_sym (f := f) (n := n) (fun i j hi hj => hs i j (by omega) (by omega)) (fun i hi => hd i (by omega))
    have e1 : du f (n + 1) = du f n + su (fun i => f i n) n + (su (fun j => f n j) n + f n n) := by
      show su (fun i => su (fun j => f i j) (n + 1)) n + su (fun j => f n j) (n + 1) = _
      have : su (fun i => su (fun j => f i j) (n + 1)) n = su (fun i => su (fun j => f i j) n + f i n) n := rfl
      rw [this, su_add]
      rfl
    have e2 : su (fun i => f i n) n = su (fun j => f n j) n := su_congr fun i hi => hs i n (by omega) (by omega)
    have e3 : tu f (n + 1) = tu f n + su (fun j => f n j) n := rfl
    rw [e1, e2, e3, ih, hd n (by omega)]; omega
theorem du_perm {f : Nat → Nat → Nat} {q : Nat → Nat} {n : Nat} (h : ((List.range n).map q).Perm (List.range n)) : du (fun i j => f (q i) (q j)) n = du f n := by
  unfold du
  rw [← su_perm (g := fun i => su (fun j => f i j) n) h]
  exact su_congr fun i _ => su_perm (g := fun j => f (q i) j) h
/-! ### Wrong pairs -/
def wrg (u : Nat → Int) (i j : Nat) : Nat := if decide (i < j) = decide (u i < u j) then 0 else 1
/-- How many pairs stand in the wrong order. -/
def wrn (u : Nat → Int) (n : Nat) : Nat := tu (wrg u) n
def Inj (u : Nat → Int) (n : Nat) : Prop := ∀ i j, i < n → j < n → i ≠ j → u i ≠ u j
theorem wrg_low {u : Nat → Int} {i j : Nat} (h : j < i) : wrg u i j = if u i < u j then 1 else 0 := by
  unfold wrg
  rw [decide_eq_false (show ¬ i < j by omega)]
  by_cases e : u i < u j
  · rw [decide_eq_true e, if_neg (by decide), if_pos e]
  · rw [decide_eq_false e, if_pos rfl, if_neg e]
theorem wrg_self (u : Nat → Int) (i : Nat) : wrg u i i = 0 := by
  unfold wrg
  rw [decide_eq_false (Nat.lt_irrefl i), decide_eq_false (Int.lt_irrefl _)]; rfl
theorem wrg_sym {u : Nat → Int} {n : Nat} (h : Inj u n) {i j : Nat} (hi : i < n) (hj : j < n) : wrg u i j = wrg u j i := by
  by_cases e : i = j
  · rw [e]
  · have hu := h i j hi hj e
    unfold wrg
    by_cases h1 : i < j <;> by_cases h2 : u i < u j
    · rw [decide_eq_true h1, decide_eq_true h2, decide_eq_false (show ¬ j < i by omega), decide_eq_false (show ¬ u j < u i by omega)]; rfl
    · rw [decide_eq_true h1, decide_eq_false h2, decide_eq_false (show ¬ j < i by omega), decide_eq_true (show u j < u i by omega)]; rfl
    · rw [decide_eq_false h1, decide_eq_true h2, decide_eq_true (show j < i by omega), decide_eq_false (show ¬ u j < u i by omega)]; rfl
    · rw [decide_eq_false h1, decide_eq_false h2, decide_eq_true (show j < i by omega), decide_eq_true (show u j < u i by omega)]; rfl
theorem wrn_twice {u : Nat → Int} {n : Nat} (h : Inj u n) : du (wrg u) n = 2 * wrn u n := du_sym (fun i j hi hj => wrg_sym h hi hj) fun i _ => wrg_self u i
/-- One order by another one: the wrong pairs are those of both, but for an even number of them. -/
theorem wrn_after {p : Nat → Int} {q : Nat → Nat} {n : Nat} (hp : Inj p n) (hq : ((List.range n).map q).Perm (List.range n)) (hl : ∀ i, i < n → q i < n) (hi : Inj (fun i => (q i : Int)) n) :
    ∃ m, wrn (fun i => p (q i)) n + 2 * m = wrn p n + wrn (fun i => (q i : Int)) n := by
  have hpq : Inj (fun i => p (q i)) n := fun i j h1 h2 h3 => hp _ _ (hl i h1) (hl j h2) fun e => hi i j h1 h2 h3 (by simp only [e])
  refine ⟨tu (fun i j => wrg (fun i => (q i : Int)) i j * wrg p (q i) (q j)) n, ?_⟩
  have e1 := wrn_twice hpq
  have e2 := wrn_twice hp
  have e3 := wrn_twice hi
  have e4 : du (fun i j => wrg p (q i) (q j)) n = du (wrg p) n := du_perm (f := wrg p) hq
  have e5 : du (fun i j => wrg (fun i => (q i : Int)) i j * wrg p (q i) (q j)) n = 2 * tu (fun i j => wrg (fun i => (q i : Int)) i j * wrg p (q i) (q j)) n :=
    du_sym (fun i j h1 h2 => by rw [wrg_sym hi h1 h2, wrg_sym hp (hl i h1) (hl j h2)]) fun i _ => by rw [wrg_self, Nat.zero_mul]
  have e6 : du (wrg (fun i => p (q i))) n + 2 * du (fun i j => wrg (fun i => (q i : Int)) i j * wrg p (q i) (q j)) n = du (wrg (fun i => (q i : Int))) n + du (fun i j => wrg p (q i) (q j)) n := by
    rw [← du_mul, ← du_add, ← du_add]
    refine du_congr fun i j _ _ => ?_
    unfold wrg
    have hc : decide ((q i : Int) < (q j : Int)) = decide (q i < q j) := by simp
    simp only [hc]
    rcases Bool.eq_false_or_eq_true (decide (i < j)) with a | a <;> rcases Bool.eq_false_or_eq_true (decide (q i < q j)) with b | b <;> rcases Bool.eq_false_or_eq_true (decide (p (q i) < p (q j))) with c | c <;> (rw [a, b, c]; rfl)
  omega
theorem wrn_id (n : Nat) : wrn (fun i => (i : Int)) n = 0 := by
  refine su_zero fun i _ => su_zero fun j hj => ?_
  rw [wrg_low hj, if_neg (by omega)]
/-! ### Two numbers change places -/
def swp (a b i : Nat) : Nat := if i = a then b else if i = b then a else i
theorem su_in (a b : Nat) : ∀ n, su (fun i => if a < i ∧ i < b then 1 else 0) n = min n b - (a + 1)
  | 0 => by simp [su]
  | n + 1 => by
    simp only [su]
    rw [su_in a b n]
    by_cases h : a < n ∧ n < b
    · rw [if_pos h]; omega
    · rw [if_neg h]; omega
theorem su_from (a : Nat) : ∀ n, su (fun i => if a ≤ i then 1 else 0) n = n - a
  | 0 => by simp [su]
  | n + 1 => by
    simp only [su]
    rw [su_from a n]
    by_cases h : a ≤ n
    · rw [if_pos h]; omega
    · rw [if_neg h]; omega
theorem su_at (a : Nat) (c : Nat) : ∀ n, su (fun i => if i = a then c else 0) n = if a < n then c else 0
  | 0 => by simp [su]
  | n + 1 => by
    simp only [su]
    rw [su_at a c n]
    by_cases h : n = a
    · rw [if_pos h, if_neg (by omega), if_pos (by omega)]; omega
    · rw [if_neg h]
      by_cases h2 : a < n
      · rw [if_pos h2, if_pos (by omega)]; omega
      · rw [if_neg h2, if_neg (by omega)]
/-- Of two that change places the wrong pairs are odd in number. -/
theorem wrn_swp {a b n : Nat} (h : a < b) (hb : b < n) : ∃ m, wrn (fun i => (swp a b i : Int)) n = 2 * m + 1 := by
  have hr : ∀ i, i < n → su (fun j => wrg (fun i => (swp a b i : Int)) i j) i = (if a < i ∧ i < b then 1 else 0) + (if i = b then b - a else 0) := by
    intro i hi
    have h0 : su (fun j => wrg (fun i => (swp a b i : Int)) i j) i = su (fun j => if swp a b i < swp a b j then 1 else 0) i := su_congr fun j hj => by
      rw [wrg_low hj]
      by_cases e : swp a b i < swp a b j
      · rw [if_pos e, if_pos (by omega)]
      · rw [if_neg e, if_neg (by omega)]
    rw [h0]
    by_cases h1 : a < i ∧ i < b
    · rw [if_pos h1, if_neg (by omega)]
      have : su (fun j => if swp a b i < swp a b j then 1 else 0) i = su (fun j => if j = a then 1 else 0) i := su_congr fun j hj => by
        unfold swp
        rw [if_neg (show ¬ i = a by omega), if_neg (show ¬ i = b by omega)]
        by_cases e : j = a
        · rw [if_pos e, if_pos e, if_pos (by omega)]
        · rw [if_neg e, if_neg (show ¬ j = b by omega), if_neg (by omega), if_neg e]
      rw [this, su_at, if_pos h1.1]
    · rw [if_neg h1]
      by_cases h2 : i = b
      · rw [if_pos h2]
        have : su (fun j => if swp a b i < swp a b j then 1 else 0) i = su (fun j => if a ≤ j then 1 else 0) i := su_congr fun j hj => by
          unfold swp
          rw [if_neg (show ¬ i = a by omega), if_pos h2]
          by_cases e : j = a
          · rw [if_pos e, if_pos (by omega), if_pos (by omega)]
          · rw [if_neg e, if_neg (show ¬ j = b by omega)]
            by_cases e2 : a ≤ j
            · rw [if_pos (by omega), if_pos e2]
            · rw [if_neg (by omega), if_neg e2]
        rw [this, su_from]; omega
      · rw [if_neg h2]
        refine su_zero fun j hj => if_neg ?_
        unfold swp
        by_cases e : i = a
        · rw [if_pos e, if_neg (show ¬ j = a by omega), if_neg (show ¬ j = b by omega)]; omega
        · rw [if_neg e, if_neg h2]
          by_cases e2 : j = a
          · rw [if_pos e2]; omega
          · rw [if_neg e2]
            by_cases e3 : j = b
            · rw [if_pos e3]; omega
            · rw [if_neg e3]; omega
  refine ⟨b - a - 1, ?_⟩
  show su (fun i => su (fun j => wrg (fun i => (swp a b i : Int)) i j) i) n = _
  rw [su_congr hr, su_add, su_in, su_at, if_pos hb]
  omega
end Go.Proofs.Ytigichhcoflaiaa
