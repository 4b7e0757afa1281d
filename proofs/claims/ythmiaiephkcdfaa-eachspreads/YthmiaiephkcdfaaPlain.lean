/-
  Plain mathematics of shapes: lengths, their product, places and indices, an order of axes; nothing of the program.
-/
import Derived.WalkKit
namespace Go.Proofs.Ythmiaiephkcdfaa
open Go.RowKit

/-- The number at a place of a list; 0 behind its end. -/
def nth (zs : List Int) (j : Nat) : Int := zs.getD j 0
theorem nth_zero (x : Int) (r : List Int) : nth (x :: r) 0 = x := rfl
theorem nth_succ (x : Int) (r : List Int) (j : Nat) : nth (x :: r) (j + 1) = nth r j := by simp [nth]
theorem nth_nil (j : Nat) : nth [] j = 0 := by simp [nth]
theorem nth_get (zs : List Int) (j : Nat) (h : j < zs.length) : nth zs j = zs[j] := by simp [nth, h]
theorem nth_mem (zs : List Int) (j : Nat) (h : j < zs.length) : nth zs j ∈ zs := by rw [nth_get zs j h]; exact List.getElem_mem h
theorem drop_nth (zs : List Int) (j : Nat) (h : j < zs.length) : zs.drop j = nth zs j :: zs.drop (j + 1) := by
  rw [nth_get zs j h]; exact List.drop_eq_getElem_cons h
theorem nth_ext {a b : List Int} (hl : a.length = b.length) (h : ∀ j, j < a.length → nth a j = nth b j) : a = b := by
  apply List.ext_getElem hl
  intro i h1 h2
  have := h i h1
  rwa [nth_get a i h1, nth_get b i h2] at this
theorem nth_set (zs : List Int) (i j : Nat) (v : Int) (h : i < zs.length) : nth (zs.set i v) j = if j = i then v else nth zs j := by
  by_cases e : j = i
  · subst e; simp [nth, h]
  · simp [nth, e, Ne.symm e]
theorem nth_append_left (a b : List Int) (j : Nat) (h : j < a.length) : nth (a ++ b) j = nth a j := by simp [nth, List.getElem?_append, h]
theorem nth_take (zs : List Int) (n j : Nat) (h : j < n) : nth (zs.take n) j = nth zs j := by simp [nth, h]

/-- The fault of the first axis that has one: 0: none. -/
def bad : List Int → Int
  | [] => 0
  | x :: r => if x < 0 then 4 else if 4096 < x then 7 else bad r
/-- The product of all lengths. -/
def prod : List Int → Int
  | [] => 1
  | x :: r => x * prod r
/-- The product as it is reckoned from the last axis on, held at 4097. -/
def clp : List Int → Int
  | [] => 1
  | x :: r => min (clp r * x) 4097
/-- The error of a shape: 0: none. -/
def errOf (s : List Int) : Int := if 6 < s.length then 3 else if bad s ≠ 0 then bad s else if 4096 < prod s then 7 else 0
def cntOf (s : List Int) : Int := if errOf s = 0 then prod s else 0

def AllIn (s : List Int) : Prop := ∀ x ∈ s, 0 ≤ x ∧ x ≤ 4096
theorem AllIn.nth {s : List Int} (h : AllIn s) (j : Nat) : 0 ≤ nth s j ∧ nth s j ≤ 4096 := by
  by_cases hj : j < s.length
  · exact h _ (nth_mem s j hj)
  · have : Go.Proofs.Ythmiaiephkcdfaa.nth s j = 0 := by simp [Go.Proofs.Ythmiaiephkcdfaa.nth, Nat.le_of_not_lt hj]
    omega
theorem bad_iff (s : List Int) : bad s = 0 ↔ AllIn s := by
  induction s with
  | nil => simp [bad, AllIn]
  | cons x r ih =>
    simp only [bad, AllIn, List.mem_cons, forall_eq_or_imp]
    by_cases h1 : x < 0
    · simp [h1]; omega
    · by_cases h2 : 4096 < x
      · simp [h1, h2]; omega
      · simp only [h1, h2, if_false, ih]
        exact ⟨fun h => ⟨⟨by omega, by omega⟩, h⟩, fun h => h.2⟩
theorem AllIn.tail {x : Int} {r : List Int} (h : AllIn (x :: r)) : AllIn r := fun y hy => h y (List.mem_cons_of_mem _ hy)
theorem AllIn.drop {s : List Int} (h : AllIn s) (j : Nat) : AllIn (s.drop j) := fun y hy => h y (List.mem_of_mem_drop hy)
theorem prod_nonneg {s : List Int} (h : AllIn s) : 0 ≤ prod s := by
  induction s with
  | nil => simp [prod]
  | cons x r ih => exact Int.mul_nonneg (h x List.mem_cons_self).1 (ih h.tail)
theorem clp_eq {s : List Int} (h : AllIn s) : clp s = min (prod s) 4097 := by
  induction s with
  | nil => simp only [clp, prod]; omega
  | cons x r ih =>
    have hx := h x List.mem_cons_self
    have hp := prod_nonneg h.tail
    simp only [clp, prod, ih h.tail]
    by_cases hc : prod r ≤ 4097
    · rw [Int.min_eq_left hc, Int.mul_comm]
    · rw [show min (prod r) 4097 = 4097 from by omega]
      by_cases h0 : x = 0
      · subst h0; simp only [Int.mul_zero, Int.zero_mul]
      · have e1 : 4097 * 1 ≤ 4097 * x := Int.mul_le_mul_of_nonneg_left (by omega) (by omega)
        have e2 : 4097 * 1 ≤ prod r * x := Int.mul_le_mul (by omega) (by omega) (by omega) (by omega)
        have e3 : 4097 ≤ x * prod r := by rw [Int.mul_comm]; omega
        omega
theorem clp_bd {s : List Int} (h : AllIn s) : 0 ≤ clp s ∧ clp s ≤ 4097 := by
  rw [clp_eq h]; have := prod_nonneg h; omega
theorem errOf_zero {s : List Int} : errOf s = 0 ↔ s.length ≤ 6 ∧ AllIn s ∧ prod s ≤ 4096 := by
  unfold errOf
  by_cases h1 : 6 < s.length
  · rw [if_pos h1]; exact ⟨fun h => absurd h (by decide), fun h => by omega⟩
  · rw [if_neg h1]
    by_cases h2 : bad s = 0
    · rw [if_neg (by simpa using h2)]
      have := (bad_iff s).1 h2
      by_cases h3 : 4096 < prod s
      · rw [if_pos h3]; exact ⟨fun h => absurd h (by decide), fun h => by omega⟩
      · rw [if_neg h3]; exact ⟨fun _ => ⟨by omega, this, by omega⟩, fun _ => rfl⟩
    · rw [if_pos h2]
      exact ⟨fun h => absurd h h2, fun h => absurd ((bad_iff s).2 h.2.1) h2⟩
theorem cntOf_ok {s : List Int} (h : errOf s = 0) : cntOf s = prod s := by simp [cntOf, h]
theorem bad_cases (s : List Int) : bad s = 0 ∨ bad s = 4 ∨ bad s = 7 := by
  induction s with
  | nil => simp [bad]
  | cons x r ih => simp only [bad]; split; · simp
                   split; · simp
                   exact ih
theorem errOf_cases (s : List Int) : errOf s = 0 ∨ errOf s = 3 ∨ errOf s = 4 ∨ errOf s = 7 := by
  unfold errOf
  have := bad_cases s
  split; · simp
  split; · omega
  split <;> simp

/-! ### Places -/
def place : List Int → List Int → Int
  | _ :: s, a :: t => a * prod s + place s t
  | _, _ => 0
def insB : List Int → List Int → Bool
  | x :: s, a :: t => decide (0 ≤ a ∧ a < x) && insB s t
  | [], [] => true
  | _, _ => false
def plErr (s t : List Int) : Int := if errOf s ≠ 0 then errOf s else if t.length ≠ s.length then 3 else if insB s t = true then 0 else 5
def plVal (s t : List Int) : Int := if plErr s t = 0 then place s t else 0
theorem insB_len : ∀ {s t : List Int}, insB s t = true → t.length = s.length
  | [], [], _ => rfl
  | [], _ :: _, h => by simp [insB] at h
  | _ :: _, [], h => by simp [insB] at h
  | _ :: s, _ :: t, h => by simp only [insB, Bool.and_eq_true] at h; simp [insB_len h.2]
theorem insB_iff : ∀ {s t : List Int}, t.length = s.length → (insB s t = true ↔ ∀ k, k < s.length → 0 ≤ nth t k ∧ nth t k < nth s k)
  | [], [], _ => by simp [insB]
  | [], _ :: _, h => by simp at h
  | _ :: _, [], h => by simp at h
  | x :: s, a :: t, h => by
    simp only [insB, Bool.and_eq_true, decide_eq_true_eq]
    rw [insB_iff (s := s) (t := t) (by simpa using h)]
    constructor
    · rintro ⟨h1, h2⟩ k hk
      cases k with
      | zero => exact h1
      | succ k => rw [nth_succ, nth_succ]; exact h2 k (by simpa using hk)
    · intro h3
      exact ⟨h3 0 (by simp), fun k hk => by have := h3 (k + 1) (by simpa using hk); rwa [nth_succ, nth_succ] at this⟩
theorem place_bd : ∀ {s t : List Int}, insB s t = true → 0 ≤ place s t ∧ place s t < prod s
  | [], [], _ => by simp [place, prod]
  | [], _ :: _, h => by simp [insB] at h
  | _ :: _, [], h => by simp [insB] at h
  | x :: s, a :: t, h => by
    simp only [insB, Bool.and_eq_true, decide_eq_true_eq] at h
    have ih := place_bd h.2
    simp only [place, prod]
    have h1 : 0 ≤ a * prod s := Int.mul_nonneg h.1.1 (by omega)
    have h2 : (a + 1) * prod s ≤ x * prod s := Int.mul_le_mul_of_nonneg_right (by omega) (by omega)
    rw [Int.add_mul] at h2
    omega
/-- The indices of a place, from the last axis on; and what is left of it. -/
def crd : List Int → Int → List Int × Int
  | [], p => ([], p)
  | x :: s, p => (((crd s p).2.tmod x) :: (crd s p).1, (crd s p).2.tdiv x)
theorem crd_len : ∀ (s : List Int) (p : Int), (crd s p).1.length = s.length
  | [], _ => rfl
  | _ :: s, p => by simp [crd, crd_len s p]
def AllPos (s : List Int) : Prop := ∀ x ∈ s, 0 < x
theorem AllPos.tail {x : Int} {r : List Int} (h : AllPos (x :: r)) : AllPos r := fun y hy => h y (List.mem_cons_of_mem _ hy)
theorem crd_fact : ∀ {s : List Int} {p : Int}, AllPos s → 0 ≤ p → 0 ≤ (crd s p).2 ∧ (crd s p).2 ≤ p ∧ insB s (crd s p).1 = true ∧ p = (crd s p).2 * prod s + place s (crd s p).1
  | [], p, _, h => by simp [crd, insB, prod, place]; omega
  | x :: s, p, hs, h => by
    obtain ⟨h1, h2, h3, h4⟩ := crd_fact hs.tail h
    have hx := hs x List.mem_cons_self
    simp only [crd, insB, prod, place, Bool.and_eq_true, decide_eq_true_eq]
    have em := Int.tmod_nonneg x h1
    have el := Int.tmod_lt_of_pos (crd s p).2 hx
    have ed := Int.tmod_add_mul_tdiv (crd s p).2 x
    have eq : 0 ≤ (crd s p).2.tdiv x := Int.tdiv_nonneg h1 (by omega)
    refine ⟨eq, ?_, ⟨⟨em, el⟩, h3⟩, ?_⟩
    · have : 1 * (crd s p).2.tdiv x ≤ x * (crd s p).2.tdiv x := Int.mul_le_mul_of_nonneg_right (by omega) eq
      omega
    · have e5 : (crd s p).2.tdiv x * (x * prod s) + (crd s p).2.tmod x * prod s = (crd s p).2 * prod s := by
        rw [← Int.mul_assoc, ← Int.add_mul, Int.mul_comm ((crd s p).2.tdiv x) x, Int.add_comm, ed]
      rw [← Int.add_assoc, e5]; exact h4
theorem allPos_of_prod {s : List Int} (h : AllIn s) (hp : 0 < prod s) : AllPos s := by
  induction s with
  | nil => intro x hx; cases hx
  | cons x r ih =>
    have hx := h x List.mem_cons_self
    have hr := prod_nonneg h.tail
    simp only [prod] at hp
    have h0 : x ≠ 0 := by rintro rfl; simp at hp
    have h1 : prod r ≠ 0 := by intro e; rw [e] at hp; simp at hp
    intro y hy
    rcases List.mem_cons.1 hy with rfl | hy
    · omega
    · exact ih h.tail (by omega) y hy
def atErr (s : List Int) (p : Int) : Int := if errOf s ≠ 0 then errOf s else if p < 0 ∨ prod s ≤ p then 5 else 0
def atVal (s : List Int) (p : Int) : List Int := if atErr s p = 0 then (crd s p).1 else []
theorem atErr_zero {s : List Int} {p : Int} : atErr s p = 0 ↔ errOf s = 0 ∧ 0 ≤ p ∧ p < prod s := by
  unfold atErr
  by_cases h : errOf s = 0
  · rw [if_neg (by simpa using h)]
    by_cases h2 : p < 0 ∨ prod s ≤ p
    · rw [if_pos h2]; exact ⟨fun h => absurd h (by decide), fun h => by omega⟩
    · rw [if_neg h2]; exact ⟨fun _ => ⟨h, by omega, by omega⟩, fun _ => rfl⟩
  · rw [if_pos h]; exact ⟨fun e => absurd e h, fun e => absurd e.1 h⟩
theorem plErr_zero {s t : List Int} : plErr s t = 0 ↔ errOf s = 0 ∧ insB s t = true := by
  unfold plErr
  by_cases h : errOf s = 0
  · rw [if_neg (by simpa using h)]
    by_cases h1 : t.length = s.length
    · rw [if_neg (by simpa using h1)]
      cases h2 : insB s t <;> simp [h]
    · rw [if_pos h1]; exact ⟨fun e => absurd e (by decide), fun e => absurd (insB_len e.2) h1⟩
  · rw [if_pos h]; exact ⟨fun e => absurd e h, fun e => absurd e.1 h⟩
theorem plVal_ok {s t : List Int} (h : plErr s t = 0) : plVal s t = place s t := by simp [plVal, h]
theorem atVal_ok {s : List Int} {p : Int} (h : atErr s p = 0) : atVal s p = (crd s p).1 := by simp [atVal, h]
theorem atVal_len {s : List Int} {p : Int} (h : atErr s p = 0) : (atVal s p).length = s.length := by rw [atVal_ok h, crd_len]
/-- A place's indices lie on their axes, and their place is it. -/
theorem at_back {s : List Int} {p : Int} (h : atErr s p = 0) : plErr s (atVal s p) = 0 ∧ place s (atVal s p) = p := by
  have h' := atErr_zero.1 h
  have he := errOf_zero.1 h'.1
  obtain ⟨h1, h2, h3, h4⟩ := crd_fact (allPos_of_prod he.2.1 (by omega)) h'.2.1
  rw [atVal_ok h]
  refine ⟨plErr_zero.2 ⟨h'.1, h3⟩, ?_⟩
  have hb := place_bd h3
  by_cases e : (crd s p).2 = 0
  · rw [e] at h4; omega
  · have : 1 * prod s ≤ (crd s p).2 * prod s := Int.mul_le_mul_of_nonneg_right (by omega) (by omega)
    omega
/-- Two lists of indices of one place are one. -/
theorem place_inj : ∀ {s t u : List Int}, insB s t = true → insB s u = true → place s t = place s u → t = u
  | [], [], [], _, _, _ => rfl
  | [], _ :: _, _, h, _, _ => by simp [insB] at h
  | [], _, _ :: _, _, h, _ => by simp [insB] at h
  | _ :: _, [], _, h, _, _ => by simp [insB] at h
  | _ :: _, _, [], _, h, _ => by simp [insB] at h
  | x :: s, a :: t, b :: u, h1, h2, h3 => by
    simp only [insB, Bool.and_eq_true, decide_eq_true_eq] at h1 h2
    have e1 := place_bd h1.2
    have e2 := place_bd h2.2
    simp only [place] at h3
    have hab : a = b := by
      by_cases hl : a < b
      · have : (a + 1) * prod s ≤ b * prod s := Int.mul_le_mul_of_nonneg_right (by omega) (by omega)
        rw [Int.add_mul] at this; omega
      · by_cases hg : b < a
        · have : (b + 1) * prod s ≤ a * prod s := Int.mul_le_mul_of_nonneg_right (by omega) (by omega)
          rw [Int.add_mul] at this; omega
        · omega
    subst hab
    rw [place_inj h1.2 h2.2 (by omega)]
theorem pl_back {s t : List Int} (h : plErr s t = 0) : atErr s (place s t) = 0 ∧ atVal s (place s t) = t ∧ 0 ≤ place s t ∧ place s t < prod s := by
  have h' := plErr_zero.1 h
  have hb := place_bd h'.2
  have ha : atErr s (place s t) = 0 := atErr_zero.2 ⟨h'.1, hb.1, hb.2⟩
  refine ⟨ha, ?_, hb⟩
  have hk := at_back ha
  exact place_inj (plErr_zero.1 hk.1).2 h'.2 hk.2
theorem place_small {s t : List Int} (h : plErr s t = 0) : 0 ≤ place s t ∧ place s t < 4096 := by
  have h' := plErr_zero.1 h
  have hb := place_bd h'.2
  have he := errOf_zero.1 h'.1
  omega
/-- Row by row. -/
theorem place_order : ∀ {s t u : List Int} (k : Nat), insB s t = true → insB s u = true → k < s.length → (∀ j, j < k → nth t j = nth u j) → nth t k ≠ nth u k → (place s t < place s u ↔ nth t k < nth u k)
  | [], _, _, _, _, _, h, _, _ => by simp at h
  | _ :: _, [], _, _, h, _, _, _, _ => by simp [insB] at h
  | _ :: _, _, [], _, _, h, _, _, _ => by simp [insB] at h
  | x :: s, a :: t, b :: u, 0, h1, h2, _, _, hne => by
    simp only [insB, Bool.and_eq_true, decide_eq_true_eq] at h1 h2
    have e1 := place_bd h1.2
    have e2 := place_bd h2.2
    rw [nth_zero, nth_zero] at hne ⊢
    simp only [place]
    by_cases hl : a < b
    · have : (a + 1) * prod s ≤ b * prod s := Int.mul_le_mul_of_nonneg_right (by omega) (by omega)
      rw [Int.add_mul] at this; omega
    · have : (b + 1) * prod s ≤ a * prod s := Int.mul_le_mul_of_nonneg_right (by omega) (by omega)
      rw [Int.add_mul] at this; omega
  | x :: s, a :: t, b :: u, k + 1, h1, h2, hk, hj, hne => by
    simp only [insB, Bool.and_eq_true, decide_eq_true_eq] at h1 h2
    have e0 := hj 0 (by omega)
    rw [nth_zero, nth_zero] at e0
    subst e0
    rw [nth_succ, nth_succ] at hne ⊢
    have ih := place_order (s := s) (t := t) (u := u) k h1.2 h2.2 (by simpa using hk) (fun j hj' => by have := hj (j + 1) (by omega); rwa [nth_succ, nth_succ] at this) hne
    simp only [place]
    omega

/-! ### Two shapes joined -/
theorem prod_append (s t : List Int) : prod (s ++ t) = prod s * prod t := by
  induction s with
  | nil => simp [prod]
  | cons x r ih => simp [prod, ih, Int.mul_assoc]
theorem insB_append : ∀ {s a : List Int} {t b : List Int}, a.length = s.length → insB (s ++ t) (a ++ b) = true → insB s a = true ∧ insB t b = true
  | [], [], _, _, _, h => ⟨by simp [insB], by simpa using h⟩
  | [], _ :: _, _, _, h, _ => by simp at h
  | _ :: _, [], _, _, h, _ => by simp at h
  | x :: s, y :: a, t, b, h, h2 => by
    simp only [List.cons_append, insB, Bool.and_eq_true, decide_eq_true_eq] at h2 ⊢
    have ih := insB_append (s := s) (a := a) (by simpa using h) h2.2
    exact ⟨⟨h2.1, ih.1⟩, ih.2⟩
theorem place_append : ∀ {s a : List Int} (t b : List Int), a.length = s.length → place (s ++ t) (a ++ b) = place s a * prod t + place t b
  | [], [], _, _, _ => by simp [place]
  | [], _ :: _, _, _, h => by simp at h
  | _ :: _, [], _, _, h => by simp at h
  | x :: s, y :: a, t, b, h => by
    simp only [List.cons_append, place, prod_append, place_append (s := s) (a := a) t b (by simpa using h), Int.add_mul, Int.mul_assoc, Int.add_assoc]
theorem join_fact {s t a b : List Int} (hs : s.length ≤ 6) (ht : t.length ≤ 6) (ha : a.length = s.length) (h : plErr (s ++ t) (a ++ b) = 0) :
    plErr s a = 0 ∧ plErr t b = 0 ∧ errOf s = 0 ∧ errOf t = 0 ∧ errOf (s ++ t) = 0 ∧ prod (s ++ t) = prod s * prod t ∧ place (s ++ t) (a ++ b) = place s a * prod t + place t b := by
  have h' := plErr_zero.1 h
  have he := errOf_zero.1 h'.1
  obtain ⟨i1, i2⟩ := insB_append ha h'.2
  have b1 := place_bd i1
  have b2 := place_bd i2
  have hp := prod_append s t
  have q1 : prod s * 1 ≤ prod s * prod t := Int.mul_le_mul_of_nonneg_left (by omega) (by omega)
  have q2 : 1 * prod t ≤ prod s * prod t := Int.mul_le_mul_of_nonneg_right (by omega) (by omega)
  have e1 : errOf s = 0 := errOf_zero.2 ⟨hs, fun x hx => he.2.1 x (List.mem_append_left _ hx), by omega⟩
  have e2 : errOf t = 0 := errOf_zero.2 ⟨ht, fun x hx => he.2.1 x (List.mem_append_right _ hx), by omega⟩
  exact ⟨plErr_zero.2 ⟨e1, i1⟩, plErr_zero.2 ⟨e2, i2⟩, e1, e2, h'.1, hp, place_append t b ha⟩

/-! ### Axes from the last one on -/
abbrev Ax (len : Nat) : Type := { j : Nat // j < len }
def dn (len : Nat) : Nat → List (Ax len)
  | 0 => []
  | k + 1 => if h : len - 1 - k < len then dn len k ++ [⟨len - 1 - k, h⟩] else dn len k
theorem dn_succ (len k : Nat) (h : k < len) : dn len (k + 1) = dn len k ++ [⟨len - 1 - k, by omega⟩] := by
  have : len - 1 - k < len := by omega
  simp [dn, this]
theorem dn_length (len : Nat) : ∀ k, k ≤ len → (dn len k).length = k
  | 0, _ => rfl
  | k + 1, h => by rw [dn_succ len k (by omega), List.length_append, dn_length len k (by omega)]; rfl
theorem dn_mem (len : Nat) (j : Ax len) : ∀ k, k ≤ len → len - k ≤ j.1 → j ∈ dn len k
  | 0, _, h => by have := j.2; omega
  | k + 1, h, hj => by
    rw [dn_succ len k (by omega)]
    by_cases e : j.1 = len - 1 - k
    · exact List.mem_append_right _ (by rw [List.mem_singleton]; exact Subtype.ext e)
    · exact List.mem_append_left _ (dn_mem len j k (by omega) (by omega))
theorem fold_dn {σ : Type} (len : Nat) (step : σ → Ax len → σ) (G : Nat → σ) (h : ∀ k (hk : k < len), step (G (k + 1)) ⟨k, hk⟩ = G k) :
    ∀ k, k ≤ len → (dn len k).foldl step (G len) = G (len - k)
  | 0, _ => by simp [dn]
  | k + 1, hk => by
    rw [dn_succ len k (by omega), List.foldl_append, fold_dn len step G h k (by omega)]
    simp only [List.foldl_cons, List.foldl_nil]
    have e : len - k = (len - 1 - k) + 1 := by omega
    rw [e, h (len - 1 - k) (by omega)]
    congr 1
    omega
end Go.Proofs.Ythmiaiephkcdfaa
