/-
  Plain mathematics of arrays folded along an axis: an axis taken out of a shape and put in; lines; what Reduce, Scan and Windows tell.
-/
import Derived.Test.YtgaelbgeoobgiaaCutn
import Derived.Test.YtgaelbgeoobgiaaPrdm
namespace Go.Proofs.Ytgaelbgeoobgiaa
open Go.RowKit
set_option linter.unusedVariables false

/-! ### An axis out, an axis in -/
def xout (x : Nat) (s : List Int) : List Int := s.take x ++ s.drop (x + 1)
def xin (x : Nat) (v : Int) (t : List Int) : List Int := t.take x ++ v :: t.drop x
theorem xin_zero (v : Int) (t : List Int) : xin 0 v t = v :: t := rfl
theorem xin_succ (x : Nat) (v a : Int) (t : List Int) : xin (x + 1) v (a :: t) = a :: xin x v t := by simp [xin]
theorem xout_zero (a : Int) (s : List Int) : xout 0 (a :: s) = s := by simp [xout]
theorem xout_succ (x : Nat) (a : Int) (s : List Int) : xout (x + 1) (a :: s) = a :: xout x s := by simp [xout]
theorem xin_length {x : Nat} {v : Int} {t : List Int} (h : x ≤ t.length) : (xin x v t).length = t.length + 1 := by simp [xin]; omega
theorem xout_length {x : Nat} {s : List Int} (h : x < s.length) : (xout x s).length + 1 = s.length := by simp [xout]; omega
theorem xin_nth : ∀ {x : Nat} {v : Int} {t : List Int} (k : Nat), x ≤ t.length → nth (xin x v t) k = if k < x then nth t k else if k = x then v else nth t (k - 1)
  | 0, v, t, k, _ => by
    rw [xin_zero, if_neg (by omega)]
    cases k with
    | zero => rw [if_pos rfl]; rfl
    | succ k => rw [if_neg (by omega), nth_succ]; rfl
  | x + 1, v, [], k, h => by simp at h
  | x + 1, v, a :: t, k, h => by
    rw [xin_succ]
    cases k with
    | zero => rw [if_pos (by omega)]; rfl
    | succ k =>
      rw [nth_succ, xin_nth k (by simpa using h)]
      by_cases h1 : k < x
      · rw [if_pos h1, if_pos (by omega), nth_succ]
      · rw [if_neg h1, if_neg (show ¬ k + 1 < x + 1 by omega)]
        by_cases h2 : k = x
        · rw [if_pos h2, if_pos (show k + 1 = x + 1 by omega)]
        · rw [if_neg h2, if_neg (show ¬ k + 1 = x + 1 by omega), Nat.add_sub_cancel]
          obtain ⟨m, rfl⟩ : ∃ m, k = m + 1 := ⟨k - 1, by omega⟩
          rw [nth_succ, Nat.add_sub_cancel]
theorem xout_nth : ∀ {x : Nat} {s : List Int} (k : Nat), x < s.length → nth (xout x s) k = if k < x then nth s k else nth s (k + 1)
  | 0, [], k, h => by simp at h
  | 0, a :: s, k, h => by rw [xout_zero, if_neg (by omega), nth_succ]
  | x + 1, [], k, h => by simp at h
  | x + 1, a :: s, k, h => by
    rw [xout_succ]
    cases k with
    | zero => rw [if_pos (by omega)]; rfl
    | succ k =>
      rw [nth_succ, xout_nth k (by simpa using h)]
      by_cases h1 : k < x
      · rw [if_pos h1, if_pos (by omega), nth_succ]
      · rw [if_neg h1, if_neg (by omega), nth_succ]
theorem xin_set : ∀ {x : Nat} {v u : Int} {t : List Int}, x ≤ t.length → (xin x v t).set x u = xin x u t
  | 0, v, u, t, _ => by rw [xin_zero, xin_zero]; rfl
  | x + 1, v, u, [], h => by simp at h
  | x + 1, v, u, a :: t, h => by rw [xin_succ, xin_succ, List.set_cons_succ, xin_set (by simpa using h)]
theorem xin_at {x : Nat} {v : Int} {t : List Int} (h : x ≤ t.length) : nth (xin x v t) x = v := by rw [xin_nth x h, if_neg (by omega), if_pos rfl]
theorem xin_xout : ∀ {x : Nat} {s : List Int} (v : Int), x < s.length → xin x v (xout x s) = s.set x v
  | 0, [], _, h => by simp at h
  | 0, a :: s, v, h => by rw [xout_zero, xin_zero]; rfl
  | x + 1, [], _, h => by simp at h
  | x + 1, a :: s, v, h => by rw [xout_succ, xin_succ, List.set_cons_succ, xin_xout v (by simpa using h)]
theorem xout_set : ∀ {x : Nat} {s : List Int} (v : Int), xout x (s.set x v) = xout x s
  | 0, [], _ => rfl
  | 0, a :: s, v => by rw [List.set_cons_zero, xout_zero, xout_zero]
  | x + 1, [], _ => rfl
  | x + 1, a :: s, v => by rw [List.set_cons_succ, xout_succ, xout_succ, xout_set v]
theorem xout_xin : ∀ {x : Nat} {v : Int} {t : List Int}, x ≤ t.length → xout x (xin x v t) = t
  | 0, v, t, _ => by rw [xin_zero, xout_zero]
  | x + 1, v, [], h => by simp at h
  | x + 1, v, a :: t, h => by rw [xin_succ, xout_succ, xout_xin (by simpa using h)]
theorem xout_prod : ∀ {x : Nat} {s : List Int}, x < s.length → prod s = nth s x * prod (xout x s)
  | 0, [], h => by simp at h
  | 0, a :: s, h => by rw [xout_zero]; rfl
  | x + 1, [], h => by simp at h
  | x + 1, a :: s, h => by
    rw [xout_succ, nth_succ, prod, prod, xout_prod (x := x) (s := s) (by simpa using h), ← Int.mul_assoc, Int.mul_comm a, Int.mul_assoc]
theorem xin_ins : ∀ {x : Nat} {L v : Int} {s t : List Int}, x ≤ s.length → (insB (xin x L s) (xin x v t) = true ↔ (0 ≤ v ∧ v < L) ∧ insB s t = true) ∨ t.length < x
  | 0, L, v, s, t, _ => .inl (by rw [xin_zero, xin_zero]; exact ins_cons)
  | x + 1, L, v, [], t, h => by simp at h
  | x + 1, L, v, a :: s, [], h => .inr (by simp)
  | x + 1, L, v, a :: s, b :: t, h => by
    rcases xin_ins (x := x) (L := L) (v := v) (s := s) (t := t) (by simpa using h) with ih | ih
    · refine .inl ?_
      rw [xin_succ, xin_succ, ins_cons, ins_cons, ih]
      exact ⟨fun ⟨h1, h2, h3⟩ => ⟨h2, h1, h3⟩, fun ⟨h1, h2, h3⟩ => ⟨h2, h1, h3⟩⟩
    · exact .inr (by simp; omega)
theorem ins_xin {x : Nat} {v : Int} {s t : List Int} (hx : x < s.length) (ht : insB (xout x s) t = true) (hv : 0 ≤ v ∧ v < nth s x) : insB s (xin x v t) = true := by
  have hl := xout_length hx
  have hl2 := insB_len ht
  rcases xin_ins (x := x) (L := nth s x) (v := v) (s := xout x s) (t := t) (by omega) with h | h
  · have := h.2 ⟨hv, ht⟩
    rw [xin_xout _ hx] at this
    rwa [show s.set x (nth s x) = s from set_get hx rfl] at this
  · omega
theorem ins_xout : ∀ {x : Nat} {s t : List Int}, insB s t = true → insB (xout x s) (xout x t) = true
  | 0, [], [], _ => rfl
  | 0, [], _ :: _, h => by simp [insB] at h
  | 0, _ :: _, [], h => by simp [insB] at h
  | 0, a :: s, b :: t, h => by rw [xout_zero, xout_zero]; exact (ins_cons.1 h).2
  | x + 1, [], [], _ => rfl
  | x + 1, [], _ :: _, h => by simp [insB] at h
  | x + 1, _ :: _, [], h => by simp [insB] at h
  | x + 1, a :: s, b :: t, h => by rw [xout_succ, xout_succ]; exact ins_cons.2 ⟨(ins_cons.1 h).1, ins_xout (ins_cons.1 h).2⟩
theorem xin_self {x : Nat} {t : List Int} (hx : x < t.length) : xin x (nth t x) (xout x t) = t := by rw [xin_xout _ hx, set_get hx rfl]
/-- An axis of length 1 does not count. -/
theorem place_one : ∀ {x : Nat} {s t : List Int}, x ≤ s.length → t.length = s.length → place (xin x 1 s) (xin x 0 t) = place s t
  | 0, s, t, _, _ => by rw [xin_zero, xin_zero, place, Int.zero_mul, Int.zero_add]
  | x + 1, [], t, h, _ => by simp at h
  | x + 1, a :: s, [], _, h => by simp at h
  | x + 1, a :: s, b :: t, h, hl => by
    have e : prod (xin x 1 s) = prod s := by
      have := xout_prod (x := x) (s := xin x 1 s) (by rw [xin_length (by simpa using h)]; simp at h; omega)
      rw [this, xin_at (by simpa using h), xout_xin (by simpa using h), Int.one_mul]
    rw [xin_succ, xin_succ, place, place, e, place_one (by simpa using h) (by simpa using hl)]
theorem err_xout {x : Nat} {s : List Int} (hx : x < s.length) (he : errOf s = 0) (h1 : 1 ≤ nth s x) : errOf (xout x s) = 0 := by
  obtain ⟨h2, h3, h4⟩ := errOf_zero.1 he
  have hl := xout_length hx
  have ha : AllIn (xout x s) := fun y hy => by
    unfold xout at hy
    rcases List.mem_append.1 hy with h | h
    · exact h3 y (List.mem_of_mem_take h)
    · exact h3 y (List.mem_of_mem_drop h)
  have hp := xout_prod hx
  have hn := prod_nonneg ha
  have : 1 * prod (xout x s) ≤ nth s x * prod (xout x s) := Int.mul_le_mul_of_nonneg_right h1 hn
  exact errOf_zero.2 ⟨by omega, ha, by omega⟩
theorem xout_all {x : Nat} {s : List Int} (h3 : AllIn s) : AllIn (xout x s) := fun y hy => by
  unfold xout at hy
  rcases List.mem_append.1 hy with h | h
  · exact h3 y (List.mem_of_mem_take h)
  · exact h3 y (List.mem_of_mem_drop h)
/-- Without an axis there may be too many cells, and nothing else is wrong. -/
theorem err_xout7 {x : Nat} {s : List Int} (hx : x < s.length) (he : errOf s = 0) : errOf (xout x s) = 0 ∨ errOf (xout x s) = 7 := by
  obtain ⟨h2, h3, h4⟩ := errOf_zero.1 he
  have hl := xout_length hx
  unfold errOf
  rw [if_neg (by omega), if_neg (by simpa using (bad_iff _).2 (xout_all h3))]
  split <;> simp
theorem xout_swap : ∀ {i j : Nat} {s : List Int}, i < j → j < s.length → xout i (xout j s) = xout (j - 1) (xout i s)
  | _, 0, _, h, _ => by omega
  | _, _ + 1, [], _, h => by simp at h
  | 0, j + 1, a :: s, _, _ => by rw [xout_succ, xout_zero, xout_zero, Nat.add_sub_cancel]
  | i + 1, j + 1, a :: s, h, hj => by
    obtain ⟨m, rfl⟩ : ∃ m, j = m + 1 := ⟨j - 1, by omega⟩
    have ih := xout_swap (i := i) (j := m + 1) (s := s) (by omega) (by simpa using hj)
    rw [Nat.add_sub_cancel] at ih
    rw [xout_succ, xout_succ, xout_succ, Nat.add_sub_cancel, xout_succ, ih]
theorem xin_swap : ∀ {i j : Nat} {k m : Int} {t : List Int}, i < j → j ≤ t.length + 1 → xin j m (xin i k t) = xin i k (xin (j - 1) m t)
  | _, 0, _, _, _, h, _ => by omega
  | 0, j + 1, k, m, t, _, _ => by rw [xin_zero, xin_succ, xin_zero, Nat.add_sub_cancel]
  | i + 1, j + 1, k, m, [], h, hj => by simp at hj; omega
  | i + 1, j + 1, k, m, a :: t, h, hj => by
    obtain ⟨q, rfl⟩ : ∃ q, j = q + 1 := ⟨j - 1, by omega⟩
    have ih := xin_swap (i := i) (j := q + 1) (k := k) (m := m) (t := t) (by omega) (by simpa using hj)
    rw [Nat.add_sub_cancel] at ih
    rw [xin_succ, xin_succ, Nat.add_sub_cancel, xin_succ, xin_succ, ih]

/-! ### Lines -/
/-- The cells along an axis, through indices, from one place on so many. -/
def lnL (s dz : List Int) (x : Nat) (t : List Int) (a : Int) (n : Nat) : List Int := (List.range n).map fun j : Nat => cel s dz (t.set x (a + j))
theorem lnL_length (s dz : List Int) (x : Nat) (t : List Int) (a : Int) (n : Nat) : (lnL s dz x t a n).length = n := by simp [lnL]
theorem lnL_nth {s dz : List Int} {x : Nat} {t : List Int} {a : Int} {n j : Nat} (h : j < n) : nth (lnL s dz x t a n) j = cel s dz (t.set x (a + j)) := by simp [lnL, nth, h]
theorem lnL_snoc (s dz : List Int) (x : Nat) (t : List Int) (a : Int) (n : Nat) : lnL s dz x t a (n + 1) = lnL s dz x t a n ++ [cel s dz (t.set x (a + n))] := by
  unfold lnL; rw [List.range_succ, List.map_append]; rfl
theorem lnL_64 {s dz : List Int} (T : ∀ j, In64 (nth dz j)) (x : Nat) (t : List Int) (a : Int) (n : Nat) : L64 (lnL s dz x t a n) := L64.map fun j _ => cel_64 T _
theorem lnL_cons (s dz : List Int) (x : Nat) (t : List Int) (a : Int) (n : Nat) : lnL s dz x t a (n + 1) = cel s dz (t.set x a) :: lnL s dz x t (a + 1) n := by
  unfold lnL
  rw [List.range_succ_eq_map, List.map_cons, List.map_map]
  have e1 : a + ((0 : Nat) : Int) = a := by omega
  rw [e1]
  congr 1
  refine List.map_congr_left fun j _ => ?_
  show cel s dz (t.set x (a + ((j + 1 : Nat) : Int))) = cel s dz (t.set x (a + 1 + j))
  congr 2
  omega
theorem lnL_set (s dz : List Int) (x : Nat) (t : List Int) (v a : Int) (n : Nat) : lnL s dz x (t.set x v) a n = lnL s dz x t a n := by
  unfold lnL
  refine List.map_congr_left fun j _ => ?_
  rw [set_set]

/-! ### What Reduce, Scan and Windows tell -/
/-- Is it so at all indices of a shape? -/
def okT (s : List Int) (g : List Int → Int) : Bool := (List.range (prod s).toNat).all fun i => g (cr s i) == 0
theorem okT_iff {s : List Int} {g : List Int → Int} (he : errOf s = 0) : okT s g = true ↔ ∀ t, insB s t = true → g t = 0 := by
  unfold okT
  rw [List.all_eq_true]
  constructor
  · intro h t ht
    have hc := cr_place he ht
    have := h (place s t).toNat (List.mem_range.2 hc.2)
    rw [hc.1] at this
    exact beq_iff_eq.1 this
  · intro h i hi
    exact beq_iff_eq.2 (h _ (cr_in he (List.mem_range.1 hi)).1)
theorem okT_not {s : List Int} {g : List Int → Int} (h : okT s g ≠ true) : ∃ i, i < (prod s).toNat ∧ g (cr s i) ≠ 0 := by
  unfold okT at h
  rw [ne_eq, List.all_eq_true] at h
  exact Classical.byContradiction fun hn => h fun i hi => beq_iff_eq.2 (Classical.byContradiction fun h0 => hn ⟨i, List.mem_range.1 hi, h0⟩)
def lnE (f x : Int) (c : Bool) (s dz : List Int) : Int := if f < 1 ∨ 16 < f then 1 else if axE x c s dz ≠ 0 then axE x c s dz else if c = true then 6 else 0
theorem lnE_zero {f x : Int} {c : Bool} {s dz : List Int} : lnE f x c s dz = 0 ↔ (1 ≤ f ∧ f ≤ 16) ∧ flawE c s dz = 0 ∧ (0 ≤ x ∧ x.toNat < s.length) ∧ c = false := by
  unfold lnE
  by_cases h : f < 1 ∨ 16 < f
  · rw [if_pos h]; exact ⟨fun e => absurd e (by decide), fun e => by omega⟩
  · rw [if_neg h]
    by_cases h1 : axE x c s dz = 0
    · rw [if_neg (not_not_intro h1)]
      have h2 := axE_zero.1 h1
      cases c
      · exact ⟨fun _ => ⟨by omega, h2.1, h2.2, rfl⟩, fun _ => rfl⟩
      · exact ⟨fun e => absurd e (by decide), fun e => absurd e.2.2.2 (by decide)⟩
    · rw [if_pos h1]; exact ⟨fun e => absurd e h1, fun e => absurd (axE_zero.2 ⟨e.2.1, e.2.2.1⟩) h1⟩
def rdL (s dz : List Int) (x : Nat) (t : List Int) : List Int := lnL s dz x (xin x 0 t) 0 (nth s x).toNat
def scL (s dz : List Int) (x : Nat) (t : List Int) : List Int := lnL s dz x t 0 (nth t x + 1).toNat
def wdL (n : Int) (s dz : List Int) (x : Nat) (t : List Int) : List Int := lnL s dz x t (nth t x) n.toNat
def wdS (n : Int) (x : Nat) (s : List Int) : List Int := s.set x (nth s x - n + 1)
def rdD (f : Int) (s dz : List Int) (x : Nat) : List Int := TA (xout x s) fun t => fdV f (rdL s dz x t)
def scD (f : Int) (s dz : List Int) (x : Nat) : List Int := TA s fun t => fdV f (scL s dz x t)
def wdD (f n : Int) (s dz : List Int) (x : Nat) : List Int := TA (wdS n x s) fun t => fdV f (wdL n s dz x t)
def rdE (f x : Int) (c : Bool) (s dz : List Int) : Int :=
  if lnE f x c s dz ≠ 0 then lnE f x c s dz else if nth s x.toNat = 0 ∧ neutE f ≠ 0 then neutE f else if errOf (xout x.toNat s) ≠ 0 then errOf (xout x.toNat s)
  else if okT (xout x.toNat s) (fun t => fdE f (rdL s dz x.toNat t)) = true then 0 else 6
def scE (f x : Int) (c : Bool) (s dz : List Int) : Int := if lnE f x c s dz ≠ 0 then lnE f x c s dz else if okT s (fun t => fdE f (scL s dz x.toNat t)) = true then 0 else 6
def wdE (f n x : Int) (c : Bool) (s dz : List Int) : Int :=
  if lnE f x c s dz ≠ 0 then lnE f x c s dz else if n < 1 ∨ nth s x.toNat < n then 4 else if okT (wdS n x.toNat s) (fun t => fdE f (wdL n s dz x.toNat t)) = true then 0 else 6
section
variable {f x n : Int} {c : Bool} {s dz : List Int}
theorem rdE_zero : rdE f x c s dz = 0 ↔ lnE f x c s dz = 0 ∧ ¬ (nth s x.toNat = 0 ∧ neutE f ≠ 0) ∧ errOf (xout x.toNat s) = 0 ∧ ∀ t, insB (xout x.toNat s) t = true → fdE f (rdL s dz x.toNat t) = 0 := by
  unfold rdE
  by_cases h : lnE f x c s dz = 0
  · rw [if_neg (not_not_intro h)]
    by_cases h1 : nth s x.toNat = 0 ∧ neutE f ≠ 0
    · rw [if_pos h1]; exact ⟨fun e => absurd e h1.2, fun e => absurd h1 e.2.1⟩
    · rw [if_neg h1]
      by_cases h2 : errOf (xout x.toNat s) = 0
      · rw [if_neg (not_not_intro h2)]
        by_cases h3 : okT (xout x.toNat s) (fun t => fdE f (rdL s dz x.toNat t)) = true
        · rw [if_pos h3]; exact ⟨fun _ => ⟨h, h1, h2, (okT_iff h2).1 h3⟩, fun _ => rfl⟩
        · rw [if_neg h3]; exact ⟨fun e => absurd e (by decide), fun e => absurd ((okT_iff h2).2 e.2.2.2) h3⟩
      · rw [if_pos h2]; exact ⟨fun e => absurd e h2, fun e => absurd e.2.2.1 h2⟩
  · rw [if_pos h]; exact ⟨fun e => absurd e h, fun e => absurd e.1 h⟩
theorem scE_zero : scE f x c s dz = 0 ↔ lnE f x c s dz = 0 ∧ ∀ t, insB s t = true → fdE f (scL s dz x.toNat t) = 0 := by
  unfold scE
  by_cases h : lnE f x c s dz = 0
  · rw [if_neg (not_not_intro h)]
    have he := (flawE_zero (lnE_zero.1 h).2.1).1
    by_cases h3 : okT s (fun t => fdE f (scL s dz x.toNat t)) = true
    · rw [if_pos h3]; exact ⟨fun _ => ⟨h, (okT_iff he).1 h3⟩, fun _ => rfl⟩
    · rw [if_neg h3]; exact ⟨fun e => absurd e (by decide), fun e => absurd ((okT_iff he).2 e.2) h3⟩
  · rw [if_pos h]; exact ⟨fun e => absurd e h, fun e => absurd e.1 h⟩
theorem wd_err (h : lnE f x c s dz = 0) (hn : ¬ (n < 1 ∨ nth s x.toNat < n)) : errOf (wdS n x.toNat s) = 0 := by
  obtain ⟨_, h1, h2, _⟩ := lnE_zero.1 h
  exact err_set (flawE_zero h1).1 h2.2 (by omega) (by omega)
theorem wdE_zero : wdE f n x c s dz = 0 ↔ lnE f x c s dz = 0 ∧ (1 ≤ n ∧ n ≤ nth s x.toNat) ∧ ∀ t, insB (wdS n x.toNat s) t = true → fdE f (wdL n s dz x.toNat t) = 0 := by
  unfold wdE
  by_cases h : lnE f x c s dz = 0
  · rw [if_neg (not_not_intro h)]
    by_cases hn : n < 1 ∨ nth s x.toNat < n
    · rw [if_pos hn]; exact ⟨fun e => absurd e (by decide), fun e => by omega⟩
    · rw [if_neg hn]
      have he := wd_err h hn
      by_cases h3 : okT (wdS n x.toNat s) (fun t => fdE f (wdL n s dz x.toNat t)) = true
      · rw [if_pos h3]; exact ⟨fun _ => ⟨h, by omega, (okT_iff he).1 h3⟩, fun _ => rfl⟩
      · rw [if_neg h3]; exact ⟨fun e => absurd e (by decide), fun e => absurd ((okT_iff he).2 e.2.2) h3⟩
  · rw [if_pos h]; exact ⟨fun e => absurd e h, fun e => absurd e.1 h⟩
theorem rd_flaw (h : rdE f x c s dz = 0) : flawE false (xout x.toNat s) (rdD f s dz x.toNat) = 0 := TA_flaw (rdE_zero.1 h).2.2.1 (fun e => absurd e (by decide))
theorem sc_flaw (h : scE f x c s dz = 0) : flawE false s (scD f s dz x.toNat) = 0 := TA_flaw (flawE_zero (lnE_zero.1 (scE_zero.1 h).1).2.1).1 (fun e => absurd e (by decide))
theorem wd_flaw (h : wdE f n x c s dz = 0) : flawE false (wdS n x.toNat s) (wdD f n s dz x.toNat) = 0 := TA_flaw (wd_err (wdE_zero.1 h).1 (by have := (wdE_zero.1 h).2.1; omega)) (fun e => absurd e (by decide))
theorem rd_64 (h : errOf (xout x.toNat s) = 0) (T : ∀ j, In64 (nth dz j)) : ∀ j, In64 (nth (rdD f s dz x.toNat) j) := TA_64 h fun t _ => fdV_in (lnL_64 T _ _ _ _)
theorem sc_64 (h : errOf s = 0) (T : ∀ j, In64 (nth dz j)) : ∀ j, In64 (nth (scD f s dz x.toNat) j) := TA_64 h fun t _ => fdV_in (lnL_64 T _ _ _ _)
theorem wd_64 (h : errOf (wdS n x.toNat s) = 0) (T : ∀ j, In64 (nth dz j)) : ∀ j, In64 (nth (wdD f n s dz x.toNat) j) := TA_64 h fun t _ => fdV_in (lnL_64 T _ _ _ _)
/-- By a function that is the same whichever two come first nothing is wrong with the cells. -/
theorem mon_rdE (hm : Mon f) (T : ∀ j, In64 (nth dz j)) : rdE f x c s dz = if lnE f x c s dz ≠ 0 then lnE f x c s dz else errOf (xout x.toNat s) := by
  unfold rdE
  by_cases h : lnE f x c s dz = 0
  · rw [if_neg (not_not_intro h), if_neg (not_not_intro h), if_neg (fun e => e.2 hm.ne)]
    by_cases h2 : errOf (xout x.toNat s) = 0
    · have h3 : okT (xout x.toNat s) (fun t => fdE f (rdL s dz x.toNat t)) = true := (okT_iff h2).2 fun t _ => hm.ok (lnL_64 T _ _ _ _)
      rw [if_neg (not_not_intro h2), if_pos h3, h2]
    · rw [if_pos h2]
  · rw [if_pos h, if_pos h]
end
/-- An axis of length 1, taken out. -/
theorem TA_one {x : Nat} {s : List Int} {g : List Int → Int} (hx : x < s.length) (he : errOf (s.set x 1) = 0) (ho : errOf (xout x s) = 0) : TA (s.set x 1) g = TA (xout x s) fun t => g (xin x 0 t) := by
  have hl := xout_length hx
  have hp : prod (s.set x 1) = prod (xout x s) := by
    have := xout_prod (x := x) (s := s.set x 1) (by rw [List.length_set]; exact hx)
    rw [this, xout_set, nth_set_self hx, Int.one_mul]
  refine TA_ext ho (by rw [TA_length, hp]) fun t ht => ?_
  have hlt := insB_len ht
  have hin : insB (s.set x 1) (xin x 0 t) = true := by
    refine ins_xin (by rw [List.length_set]; exact hx) (by rw [xout_set]; exact ht) ?_
    rw [nth_set_self hx]; omega
  have h1 := TA_at (f := g) he hin
  unfold cel at h1 ⊢
  have e : place (s.set x 1) (xin x 0 t) = place (xout x s) t := by
    rw [← xin_xout 1 hx]; exact place_one (by omega) hlt
  rwa [e] at h1
end Go.Proofs.Ytgaelbgeoobgiaa
