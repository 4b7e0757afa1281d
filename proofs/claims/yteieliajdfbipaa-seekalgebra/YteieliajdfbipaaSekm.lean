/-
  Plain mathematics of where cells are: an index, is it there, each once, sets; nothing of the program.
-/
import Derived.Test.YteieliajdfbipaaTurnq
import Derived.Test.YteieliajdfbipaaArrb
namespace Go.Proofs.Yteieliajdfbipaa
open Go.RowKit
set_option linter.unusedVariables false

/-- Has an array this cell? -/
def hsB (c : Bool) (dz : List Int) (ch : Bool) (v : Int) : Bool := decide (c = ch ∧ v ∈ dz)
theorem hsB_iff {c : Bool} {dz : List Int} {ch : Bool} {v : Int} : hsB c dz ch v = true ↔ c = ch ∧ v ∈ dz := by unfold hsB; exact decide_eq_true_iff
theorem hsB_no {c : Bool} {dz : List Int} {ch : Bool} {v : Int} : hsB c dz ch v = false ↔ ¬ (c = ch ∧ v ∈ dz) := by unfold hsB; exact decide_eq_false_iff_not
theorem mem_nth {dz : List Int} {v : Int} (h : v ∈ dz) : ∃ j, j < dz.length ∧ nth dz j = v := by
  obtain ⟨j, hj, e⟩ := List.mem_iff_getElem.1 h
  exact ⟨j, hj, by rw [nth_get _ _ hj]; exact e⟩
/-- The first index of a cell, or the length. -/
def fdN (c ch : Bool) (v : Int) : List Int → Nat
  | [] => 0
  | x :: r => if c = ch ∧ x = v then 0 else fdN c ch v r + 1
theorem nth_cons7 (x : Int) (r : List Int) (j : Nat) : nth (x :: r) (j + 1) = nth r j := by simp [nth]
section
variable {c ch : Bool} {v : Int}
theorem fdN_le : ∀ dz : List Int, fdN c ch v dz ≤ dz.length
  | [] => Nat.le_refl _
  | x :: r => by
    have := fdN_le r
    simp only [fdN, List.length_cons]
    split <;> omega
theorem fdN_at : ∀ dz : List Int, fdN c ch v dz < dz.length → c = ch ∧ nth dz (fdN c ch v dz) = v
  | [], h => by simp at h
  | x :: r, h => by
    simp only [fdN] at h ⊢
    by_cases e : c = ch ∧ x = v
    · rw [if_pos e]; exact ⟨e.1, e.2⟩
    · rw [if_neg e] at h ⊢
      rw [nth_cons7]
      exact fdN_at r (by simp only [List.length_cons] at h; omega)
theorem fdN_before : ∀ (dz : List Int) (j : Nat), j < fdN c ch v dz → ¬ (c = ch ∧ nth dz j = v)
  | [], j, h => by simp [fdN] at h
  | x :: r, j, h => by
    simp only [fdN] at h
    by_cases e : c = ch ∧ x = v
    · rw [if_pos e] at h; omega
    · rw [if_neg e] at h
      cases j with
      | zero => exact fun q => e ⟨q.1, q.2⟩
      | succ j => rw [nth_cons7]; exact fdN_before r j (by omega)
/-- Whoever comes to a place with all that is ahead looked at has it. -/
theorem fdN_is {dz : List Int} {k : Nat} (hk : k ≤ dz.length) (hb : ∀ j, j < k → ¬ (c = ch ∧ nth dz j = v)) (ha : k < dz.length → c = ch ∧ nth dz k = v) : fdN c ch v dz = k := by
  have h1 := fdN_le (c := c) (ch := ch) (v := v) dz
  by_cases h2 : fdN c ch v dz < k
  · exact absurd (fdN_at dz (by omega)) (hb _ h2)
  · by_cases h3 : k < fdN c ch v dz
    · exact absurd (ha (by omega)) (fdN_before dz k h3)
    · omega
theorem fdN_lt {dz : List Int} : fdN c ch v dz < dz.length ↔ hsB c dz ch v = true := by
  rw [hsB_iff]
  constructor
  · intro h
    obtain ⟨h1, h2⟩ := fdN_at dz h
    exact ⟨h1, by rw [← h2]; exact nth_mem _ _ h⟩
  · rintro ⟨h1, h2⟩
    obtain ⟨j, hj, e⟩ := mem_nth h2
    have := fdN_le (c := c) (ch := ch) (v := v) dz
    by_cases h3 : fdN c ch v dz < dz.length
    · exact h3
    · exact absurd ⟨h1, e⟩ (fdN_before dz j (by omega))
end
/-! ### Errors and answers -/
section
variable (c : Bool) (sz dz : List Int) (c' : Bool) (sz' dz' : List Int)
def ixE : Int := if flawsE c sz dz c' sz' dz' ≠ 0 then flawsE c sz dz c' sz' dz' else if sz.length ≠ 1 then 3 else 0
def nbE : Int := if flawE c sz dz ≠ 0 then flawE c sz dz else if sz.length ≠ 1 then 3 else 0
def lsE : Int := if flawsE c sz dz c' sz' dz' ≠ 0 then flawsE c sz dz c' sz' dz' else if sz.length ≠ 1 ∨ sz'.length ≠ 1 then 3 else 0
def ixD : List Int := dz'.map fun y => (fdN c c' y dz : Int)
def inD : List Int := dz.map fun x => if hsB c' dz' c x = true then 1 else 0
def nbK : Nat → List Int
  | 0 => []
  | k + 1 => if nth dz k ∈ nbK k then nbK k else nbK k ++ [nth dz k]
def nbL : List Int := nbK dz dz.length
def shD (has : Bool) : List Int := dz.filter fun x => hsB c' dz' c x == has
def unD : List Int := dz ++ shD c' dz' c dz false
def unE : Int := if lsE c sz dz c' sz' dz' ≠ 0 then lsE c sz dz c' sz' dz' else if c ≠ c' then 6 else if 4096 < (unD c dz c' dz').length then 7 else 0
end
section
variable {c : Bool} {sz dz : List Int} {c' : Bool} {sz' dz' : List Int}
theorem ixE_zero : ixE c sz dz c' sz' dz' = 0 ↔ flawE c sz dz = 0 ∧ flawE c' sz' dz' = 0 ∧ sz.length = 1 := by
  unfold ixE
  by_cases h : flawsE c sz dz c' sz' dz' = 0
  · rw [if_neg (not_not_intro h)]
    have := flawsE_zero.1 h
    by_cases h1 : sz.length = 1
    · rw [if_neg (not_not_intro h1)]; exact ⟨fun _ => ⟨this.1, this.2, h1⟩, fun _ => rfl⟩
    · rw [if_pos h1]; exact ⟨fun e => absurd e (by decide), fun e => absurd e.2.2 h1⟩
  · rw [if_pos h]; exact ⟨fun e => absurd e h, fun e => absurd (flawsE_zero.2 ⟨e.1, e.2.1⟩) h⟩
theorem nbE_zero : nbE c sz dz = 0 ↔ flawE c sz dz = 0 ∧ sz.length = 1 := by
  unfold nbE
  by_cases h : flawE c sz dz = 0
  · rw [if_neg (not_not_intro h)]
    by_cases h1 : sz.length = 1
    · rw [if_neg (not_not_intro h1)]; exact ⟨fun _ => ⟨h, h1⟩, fun _ => rfl⟩
    · rw [if_pos h1]; exact ⟨fun e => absurd e (by decide), fun e => absurd e.2 h1⟩
  · rw [if_pos h]; exact ⟨fun e => absurd e h, fun e => absurd e.1 h⟩
theorem lsE_zero : lsE c sz dz c' sz' dz' = 0 ↔ flawE c sz dz = 0 ∧ flawE c' sz' dz' = 0 ∧ sz.length = 1 ∧ sz'.length = 1 := by
  unfold lsE
  by_cases h : flawsE c sz dz c' sz' dz' = 0
  · rw [if_neg (not_not_intro h)]
    have := flawsE_zero.1 h
    by_cases h1 : sz.length ≠ 1 ∨ sz'.length ≠ 1
    · rw [if_pos h1]; exact ⟨fun e => absurd e (by decide), fun e => by omega⟩
    · rw [if_neg h1]; exact ⟨fun _ => ⟨this.1, this.2, by omega, by omega⟩, fun _ => rfl⟩
  · rw [if_pos h]; exact ⟨fun e => absurd e h, fun e => absurd (flawsE_zero.2 ⟨e.1, e.2.1⟩) h⟩
theorem unE_zero : unE c sz dz c' sz' dz' = 0 ↔ lsE c sz dz c' sz' dz' = 0 ∧ c = c' ∧ (unD c dz c' dz').length ≤ 4096 := by
  unfold unE
  by_cases h : lsE c sz dz c' sz' dz' = 0
  · rw [if_neg (not_not_intro h)]
    by_cases h1 : c = c'
    · rw [if_neg (not_not_intro h1)]
      by_cases h2 : 4096 < (unD c dz c' dz').length
      · rw [if_pos h2]; exact ⟨fun e => absurd e (by decide), fun e => by omega⟩
      · rw [if_neg h2]; exact ⟨fun _ => ⟨h, h1, by omega⟩, fun _ => rfl⟩
    · rw [if_pos h1]; exact ⟨fun e => absurd e (by decide), fun e => absurd e.2.1 h1⟩
  · rw [if_pos h]; exact ⟨fun e => absurd e h, fun e => absurd e.1 h⟩
/-- An array of one axis. -/
theorem one_list (h : flawE c sz dz = 0) (h1 : sz.length = 1) : sz = [(dz.length : Int)] := by
  match sz, h1 with
  | [l], _ =>
    have := (flawE_zero h).2.1
    simp only [prod, Int.mul_one] at this
    rw [this]
theorem list_flaw {c : Bool} {xs : List Int} (h : xs.length ≤ 4096) (hc : c = true → chAll xs = true) : flawE c [(xs.length : Int)] xs = 0 := by
  have he : errOf [(xs.length : Int)] = 0 := errOf_zero.2 ⟨by simp, fun y hy => by rw [List.mem_singleton.1 hy]; omega, by simp only [prod, Int.mul_one]; omega⟩
  have hl : (xs.length : Int) = prod [(xs.length : Int)] := by simp only [prod, Int.mul_one]
  cases c
  · exact flawE_okn he hl
  · exact flawE_okc he hl (hc rfl)
theorem chAll_sub {xs ys : List Int} (h : ∀ x ∈ xs, x ∈ ys) (hc : chAll ys = true) : chAll xs = true := by
  unfold chAll at *
  rw [List.all_eq_true] at *
  exact fun x hx => hc x (h x hx)
theorem in64_sub {xs ys : List Int} (h : ∀ x ∈ xs, x ∈ ys) (T : ∀ j, In64 (nth ys j)) : ∀ j, In64 (nth xs j) := fun j => by
  by_cases hj : j < xs.length
  · obtain ⟨i, hi, e⟩ := mem_nth (h _ (nth_mem xs j hj))
    rw [← e]; exact T i
  · have : nth xs j = 0 := by simp [nth, List.getElem?_eq_none (show xs.length ≤ j by omega)]
    rw [this]; unfold In64; decide
theorem ixD_length : (ixD c dz c' dz').length = dz'.length := by simp [ixD]
theorem ixD_nth {i : Nat} (h : i < dz'.length) : nth (ixD c dz c' dz') i = (fdN c c' (nth dz' i) dz : Int) := by
  rw [nth_get _ _ (by rw [ixD_length]; exact h), nth_get _ _ h]
  simp [ixD]
theorem inD_length : (inD c dz c' dz').length = dz.length := by simp [inD]
theorem inD_nth {i : Nat} (h : i < dz.length) : nth (inD c dz c' dz') i = if hsB c' dz' c (nth dz i) = true then 1 else 0 := by
  rw [nth_get _ _ (by rw [inD_length]; exact h), nth_get _ _ h]
  simp [inD]
theorem ixD_64 (h : dz.length ≤ 4096) : ∀ j, In64 (nth (ixD c dz c' dz') j) := fun j => by
  by_cases hj : j < dz'.length
  · rw [ixD_nth hj]; have := fdN_le (c := c) (ch := c') (v := nth dz' j) dz; unfold In64; omega
  · have : nth (ixD c dz c' dz') j = 0 := by simp [nth, List.getElem?_eq_none (show (ixD c dz c' dz').length ≤ j by rw [ixD_length]; omega)]
    rw [this]; unfold In64; decide
theorem inD_64 : ∀ j, In64 (nth (inD c dz c' dz') j) := fun j => by
  by_cases hj : j < dz.length
  · rw [inD_nth hj]; split <;> (unfold In64; decide)
  · have : nth (inD c dz c' dz') j = 0 := by simp [nth, List.getElem?_eq_none (show (inD c dz c' dz').length ≤ j by rw [inD_length]; omega)]
    rw [this]; unfold In64; decide
theorem ix_flaw (h : flawE c' sz' dz' = 0) : flawE false sz' (ixD c dz c' dz') = 0 := flawE_okn (flawE_zero h).1 (by rw [ixD_length]; exact (flawE_zero h).2.1)
theorem in_flaw (h : flawE c sz dz = 0) : flawE false sz (inD c dz c' dz') = 0 := flawE_okn (flawE_zero h).1 (by rw [inD_length]; exact (flawE_zero h).2.1)
theorem shD_sub {has : Bool} : ∀ x ∈ shD c dz c' dz' has, x ∈ dz := fun x hx => (List.mem_filter.1 hx).1
theorem shD_le {has : Bool} : (shD c dz c' dz' has).length ≤ dz.length := List.length_filter_le _ _
theorem sh_flaw {has : Bool} (h : flawE c sz dz = 0) : flawE c [((shD c dz c' dz' has).length : Int)] (shD c dz c' dz' has) = 0 :=
  list_flaw (Nat.le_trans shD_le (flawE_short h).2) fun hc => chAll_sub shD_sub ((flawE_zero h).2.2 hc)
/-- So far. -/
theorem shD_next {has : Bool} {k : Nat} (hk : k < dz.length) : shD c (dz.take (k + 1)) c' dz' has = if (hsB c' dz' c (nth dz k) == has) = true then shD c (dz.take k) c' dz' has ++ [nth dz k] else shD c (dz.take k) c' dz' has := by
  unfold shD
  rw [List.take_succ_eq_append_getElem hk, List.filter_append, ← nth_get dz k hk]
  by_cases h : (hsB c' dz' c (nth dz k) == has) = true
  · rw [if_pos h, List.filter_cons_of_pos (p := fun x => hsB c' dz' c x == has) h]; rfl
  · rw [if_neg h, List.filter_cons_of_neg (p := fun x => hsB c' dz' c x == has) h]; simp
/-! ### Each once -/
theorem nbK_sub : ∀ k, k ≤ dz.length → ∀ x, x ∈ nbK dz k ↔ ∃ j, j < k ∧ nth dz j = x
  | 0, _, x => by simp [nbK]
  | k + 1, hk, x => by
    have ih := nbK_sub k (by omega)
    simp only [nbK]
    by_cases h : nth dz k ∈ nbK dz k
    · rw [if_pos h, ih]
      constructor
      · rintro ⟨j, hj, e⟩; exact ⟨j, by omega, e⟩
      · rintro ⟨j, hj, e⟩
        by_cases e2 : j = k
        · subst e2; rw [← e]; exact (ih _).1 h
        · exact ⟨j, by omega, e⟩
    · rw [if_neg h, List.mem_append, List.mem_singleton, ih]
      constructor
      · rintro (⟨j, hj, e⟩ | e)
        · exact ⟨j, by omega, e⟩
        · exact ⟨k, by omega, e.symm⟩
      · rintro ⟨j, hj, e⟩
        by_cases e2 : j = k
        · subst e2; exact .inr e.symm
        · exact .inl ⟨j, by omega, e⟩
theorem nbL_mem (x : Int) : x ∈ nbL dz ↔ x ∈ dz := by
  unfold nbL
  rw [nbK_sub _ (Nat.le_refl _)]
  constructor
  · rintro ⟨j, hj, e⟩; rw [← e]; exact nth_mem _ _ hj
  · exact fun h => mem_nth h
theorem nbK_len : ∀ k, (nbK dz k).length ≤ k
  | 0 => Nat.le_refl _
  | k + 1 => by
    have := nbK_len k
    simp only [nbK]
    split
    · omega
    · rw [List.length_append]; simp; omega
theorem nbL_le : (nbL dz).length ≤ dz.length := nbK_len _
theorem nb_flaw (h : flawE c sz dz = 0) : flawE c [((nbL dz).length : Int)] (nbL dz) = 0 :=
  list_flaw (Nat.le_trans nbL_le (flawE_short h).2) fun hc => chAll_sub (fun x hx => (nbL_mem x).1 hx) ((flawE_zero h).2.2 hc)
theorem nbL_64 (T : ∀ j, In64 (nth dz j)) : ∀ j, In64 (nth (nbL dz) j) := in64_sub (fun x hx => (nbL_mem x).1 hx) T
/-- Their indices rise. -/
theorem nbK_rise (c : Bool) : ∀ k, k ≤ dz.length → (∀ i, i < (nbK dz k).length → fdN c c (nth (nbK dz k) i) dz < k) ∧ ∀ i, i + 1 < (nbK dz k).length → fdN c c (nth (nbK dz k) i) dz < fdN c c (nth (nbK dz k) (i + 1)) dz
  | 0, _ => ⟨fun i hi => by simp [nbK] at hi, fun i hi => by simp [nbK] at hi⟩
  | k + 1, hk => by
    obtain ⟨h1, h2⟩ := nbK_rise c k (by omega)
    have hm := nbK_sub (dz := dz) k (by omega)
    simp only [nbK]
    by_cases h : nth dz k ∈ nbK dz k
    · rw [if_pos h]
      exact ⟨fun i hi => by have := h1 i hi; omega, h2⟩
    · rw [if_neg h]
      have hx : fdN c c (nth dz k) dz = k := fdN_is (by omega) (fun j hj q => h ((hm _).2 ⟨j, hj, q.2⟩)) (fun _ => ⟨rfl, rfl⟩)
      have hl : ∀ i, i < (nbK dz k).length → nth (nbK dz k ++ [nth dz k]) i = nth (nbK dz k) i := fun i hi => by
        unfold nth
        simp [List.getD_eq_getElem?_getD, List.getElem?_append_left hi]
      have hr : nth (nbK dz k ++ [nth dz k]) (nbK dz k).length = nth dz k := by
        unfold nth
        simp
      refine ⟨fun i hi => ?_, fun i hi => ?_⟩
      · rw [List.length_append] at hi
        simp only [List.length_cons, List.length_nil] at hi
        by_cases e : i = (nbK dz k).length
        · rw [e, hr, hx]; omega
        · rw [hl i (by omega)]; have := h1 i (by omega); omega
      · rw [List.length_append] at hi
        simp only [List.length_cons, List.length_nil] at hi
        by_cases e : i + 1 = (nbK dz k).length
        · rw [e, hr, hx, hl i (by omega)]; exact h1 i (by omega)
        · rw [hl i (by omega), hl (i + 1) (by omega)]; exact h2 i (by omega)
/-- What has no cell twice stays. -/
theorem nbK_self {xs : List Int} (h : ∀ i j, i < xs.length → j < i → nth xs j ≠ nth xs i) : ∀ k, k ≤ xs.length → nbK xs k = xs.take k
  | 0, _ => by simp [nbK]
  | k + 1, hk => by
    have ih := nbK_self h k (by omega)
    simp only [nbK]
    rw [if_neg, ih, List.take_succ_eq_append_getElem (by omega), nth_get xs k (by omega)]
    intro hm
    obtain ⟨j, hj, e⟩ := (nbK_sub (dz := xs) k (by omega) _).1 hm
    exact h k j (by omega) hj e
theorem nb_nb : nbL (nbL dz) = nbL dz := by
  have hr := (nbK_rise (dz := dz) true dz.length (Nat.le_refl _)).2
  have hlt : ∀ d i, i + d + 1 < (nbL dz).length → fdN true true (nth (nbL dz) i) dz < fdN true true (nth (nbL dz) (i + d + 1)) dz := fun d => by
    induction d with
    | zero => exact fun i hi => hr i hi
    | succ d ih =>
      intro i hi
      have h1 := ih i (by omega)
      have h2 := hr (i + d + 1) hi
      exact Nat.lt_trans h1 h2
  have hn : ∀ i j, i < (nbL dz).length → j < i → nth (nbL dz) j ≠ nth (nbL dz) i := fun i j hi hj e => by
    have := hlt (i - j - 1) j (by omega)
    rw [show j + (i - j - 1) + 1 = i by omega, e] at this
    exact Nat.lt_irrefl _ this
  have := nbK_self hn _ (Nat.le_refl _)
  rw [List.take_length] at this
  exact this
/-! ### Sets -/
theorem hs_un {ch : Bool} {v : Int} (h : c = c') : hsB c (unD c dz c' dz') ch v = (hsB c dz ch v || hsB c' dz' ch v) := by
  subst h
  rw [Bool.eq_iff_iff, Bool.or_eq_true, hsB_iff, hsB_iff, hsB_iff]
  unfold unD shD
  rw [List.mem_append, List.mem_filter]
  constructor
  · rintro ⟨e, h | h⟩
    · exact .inl ⟨e, h⟩
    · exact .inr ⟨e, h.1⟩
  · rintro (⟨e, h⟩ | ⟨e, h⟩)
    · exact ⟨e, .inl h⟩
    · refine ⟨e, ?_⟩
      by_cases hm : v ∈ dz
      · exact .inl hm
      · refine .inr ⟨h, ?_⟩
        have : hsB c dz c v = false := hsB_no.2 fun q => hm q.2
        rw [this]; rfl
theorem un_flaw (h : unE c sz dz c' sz' dz' = 0) : flawE c [((unD c dz c' dz').length : Int)] (unD c dz c' dz') = 0 := by
  obtain ⟨h1, h2, h3⟩ := unE_zero.1 h
  obtain ⟨f1, f2, _⟩ := lsE_zero.1 h1
  refine list_flaw h3 fun hc => ?_
  have g1 := (flawE_zero f1).2.2 hc
  have g2 := (flawE_zero f2).2.2 (by rw [← h2]; exact hc)
  unfold chAll unD at *
  rw [List.all_append, g1]
  exact chAll_sub shD_sub g2
theorem un_64 (T : ∀ j, In64 (nth dz j)) (T' : ∀ j, In64 (nth dz' j)) : ∀ j, In64 (nth (unD c dz c' dz') j) := fun j => by
  by_cases hj : j < (unD c dz c' dz').length
  · have hm := nth_mem _ _ hj
    unfold unD at hm
    rcases List.mem_append.1 hm with h | h
    · obtain ⟨i, _, e⟩ := mem_nth h
      unfold unD; rw [← e]; exact T i
    · obtain ⟨i, _, e⟩ := mem_nth (shD_sub _ h)
      unfold unD; rw [← e]; exact T' i
  · have : nth (unD c dz c' dz') j = 0 := by simp [nth, List.getElem?_eq_none (show (unD c dz c' dz').length ≤ j by omega)]
    rw [this]; unfold In64; decide
theorem alg_len : (shD c dz c' dz' false).length + (shD c dz c' dz' true).length = dz.length := by
  unfold shD
  induction dz with
  | nil => rfl
  | cons x r ih =>
    cases h : hsB c' dz' c x
    · rw [List.filter_cons_of_pos (by rw [h]; rfl), List.filter_cons_of_neg (by rw [h]; decide), List.length_cons, List.length_cons]; omega
    · rw [List.filter_cons_of_neg (by rw [h]; decide), List.filter_cons_of_pos (by rw [h]; rfl), List.length_cons, List.length_cons]; omega
end
/-- Without one and without another one is without both. -/
theorem alg_wo {ca cb cc : Bool} {da db dc : List Int} (h : cb = cc) : shD ca (shD ca da cb db false) cc dc false = shD ca da cb (unD cb db cc dc) false := by
  unfold shD
  rw [List.filter_filter]
  refine List.filter_congr fun x _ => ?_
  have e := hs_un (dz := db) (dz' := dc) (ch := ca) (v := x) h
  unfold shD at e
  rw [e]
  cases hsB cb db ca x <;> cases hsB cc dc ca x <;> rfl
/-- Both of both is whichever comes first. -/
theorem alg_mt {ca cb cc : Bool} {da db dc : List Int} : shD ca (shD ca da cb db true) cc dc true = shD ca da cb (shD cb db cc dc true) true := by
  unfold shD
  rw [List.filter_filter]
  refine List.filter_congr fun x _ => ?_
  have e : hsB cb (db.filter fun x => hsB cc dc cb x == true) ca x = (hsB cc dc ca x && hsB cb db ca x) := by
    rw [Bool.eq_iff_iff, Bool.and_eq_true, hsB_iff, hsB_iff, hsB_iff, List.mem_filter]
    constructor
    · rintro ⟨e, h1, h2⟩
      subst e
      rw [beq_iff_eq, hsB_iff] at h2
      exact ⟨h2, rfl, h1⟩
    · rintro ⟨h1, e, h2⟩
      subst e
      exact ⟨rfl, h2, by rw [beq_iff_eq, hsB_iff]; exact h1⟩
  rw [e]
  cases hsB cb db ca x <;> cases hsB cc dc ca x <;> rfl
end Go.Proofs.Yteieliajdfbipaa
