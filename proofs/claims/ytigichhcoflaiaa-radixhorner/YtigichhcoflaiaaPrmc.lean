/-
  Plain mathematics of orders: from a number on to the one that stands there, and so on (cycles); nothing of the program.
-/
import Derived.Test.YtigichhcoflaiaaPrmw
namespace Go.Proofs.Ytigichhcoflaiaa
open Go.RowKit
set_option linter.unusedVariables false

/-- The number behind so many steps. -/
def itr (p : List Int) : Nat → Nat → Nat
  | 0, i => i
  | k + 1, i => (nth p (itr p k i)).toNat
section
variable {p : List Int}
theorem itr_add (j : Nat) : ∀ k i, itr p (k + j) i = itr p k (itr p j i)
  | 0, i => by rw [Nat.zero_add]; rfl
  | k + 1, i => by rw [show k + 1 + j = (k + j) + 1 by omega]; simp only [itr]; rw [itr_add j k i]
theorem itr_lt (hp : IsOrd p) {i : Nat} (h : i < p.length) : ∀ k, itr p k i < p.length
  | 0 => h
  | k + 1 => (ord_at hp (itr_lt hp h k)).1
theorem itr_inj (hp : IsOrd p) {i j : Nat} (hi : i < p.length) (hj : j < p.length) : ∀ k, itr p k i = itr p k j → i = j
  | 0, e => e
  | k + 1, e => by
    have h1 := ord_at hp (itr_lt hp hi k)
    have h2 := ord_at hp (itr_lt hp hj k)
    simp only [itr] at e
    exact itr_inj hp hi hj k (hp.inj (itr_lt hp hi k) (itr_lt hp hj k) (by omega))
theorem pw_itr (hp : IsOrd p) {i : Nat} (h : i < p.length) : ∀ k, nth (pwN p k) i = (itr p k i : Int)
  | 0 => idn_nth h
  | k + 1 => by
    simp only [pwN, itr]
    rw [aft_nth (by rw [pwN_length]; exact h), pw_itr hp h k, Int.toNat_natCast]
    exact (ord_at hp (itr_lt hp h k)).2.symm
/-- It comes back. -/
theorem per_ex (hp : IsOrd p) {i : Nat} (h : i < p.length) : ∃ L, L < p.length ∧ itr p (L + 1) i = i := by
  by_cases hn : ((List.range (p.length + 1)).map fun k => itr p k i).Nodup
  · have := hn.length_le_of_subset (l₂ := List.range p.length) fun x hx => by
      obtain ⟨k, _, rfl⟩ := List.mem_map.1 hx
      exact List.mem_range.2 (itr_lt hp h k)
    simp at this
    omega
  · have : ∃ a b, a < b ∧ b < p.length + 1 ∧ itr p a i = itr p b i := by
      refine Classical.byContradiction fun hc => hn ?_
      rw [List.Nodup, List.pairwise_map]
      refine List.Pairwise.imp_of_mem (fun {a b} ha hb hab => ?_) (List.pairwise_lt_range (n := p.length + 1))
      exact fun e => hc ⟨a, b, hab, List.mem_range.1 hb, e⟩
    obtain ⟨a, b, hab, hb, e⟩ := this
    refine ⟨b - a - 1, by omega, ?_⟩
    rw [show b - a - 1 + 1 = b - a by omega]
    have e2 : itr p a (itr p (b - a) i) = itr p a i := by rw [← itr_add, show a + (b - a) = b by omega, e]
    exact itr_inj hp (itr_lt hp h _) h a e2
/-- How many steps till it is the first one again. -/
def per (p : List Int) (i : Nat) : Nat := (List.range p.length).findIdx (fun k => itr p (k + 1) i == i) + 1
theorem per_fact (hp : IsOrd p) {i : Nat} (h : i < p.length) : per p i ≤ p.length ∧ itr p (per p i) i = i ∧ ∀ k, 0 < k → k < per p i → itr p k i ≠ i := by
  obtain ⟨L, hL, e⟩ := per_ex hp h
  have hm : (List.range p.length).findIdx (fun k => itr p (k + 1) i == i) < (List.range p.length).length := List.findIdx_lt_length_of_exists ⟨L, List.mem_range.2 hL, by simp [e]⟩
  have h1 := List.findIdx_getElem (w := hm)
  rw [List.length_range] at hm
  simp only [List.getElem_range, beq_iff_eq] at h1
  refine ⟨by unfold per; omega, h1, fun k h0 hk he => ?_⟩
  unfold per at hk
  have h2 := List.not_of_lt_findIdx (p := fun k => itr p (k + 1) i == i) (xs := List.range p.length) (i := k - 1) (by omega)
  simp only [List.getElem_range] at h2
  rw [show k - 1 + 1 = k by omega] at h2
  rw [he] at h2; simp at h2
theorem itr_mul (hp : IsOrd p) {i : Nat} (h : i < p.length) : ∀ t, itr p (t * per p i) i = i
  | 0 => by rw [Nat.zero_mul]; rfl
  | t + 1 => by rw [Nat.add_mul, Nat.one_mul, itr_add, (per_fact hp h).2.1, itr_mul hp h t]
theorem itr_mod (hp : IsOrd p) {i : Nat} (h : i < p.length) (k : Nat) : itr p k i = itr p (k % per p i) i := by
  have e := Nat.mod_add_div k (per p i)
  have h1 : itr p (k % per p i + per p i * (k / per p i)) i = itr p (k % per p i) i := by rw [itr_add, Nat.mul_comm, itr_mul hp h]
  rw [e] at h1
  exact h1
theorem per_pos (p : List Int) (i : Nat) : 0 < per p i := Nat.succ_pos _
/-- Each of a cycle comes back as soon. -/
theorem per_itr (hp : IsOrd p) {i : Nat} (h : i < p.length) (k : Nat) : per p (itr p k i) = per p i := by
  have hk := itr_lt hp h k
  have f1 := per_fact hp h
  have f2 := per_fact hp hk
  have hc : ∀ m, itr p m (itr p k i) = itr p k (itr p m i) := fun m => by rw [← itr_add, ← itr_add, Nat.add_comm]
  have e1 : itr p (per p i) (itr p k i) = itr p k i := by rw [hc, f1.2.1]
  have e2 : itr p (per p (itr p k i)) i = i := by
    have := f2.2.1
    rw [hc] at this
    exact itr_inj hp (itr_lt hp h _) h k this
  by_cases h1 : per p (itr p k i) < per p i
  · exact absurd e2 (f1.2.2 _ (per_pos _ _) h1)
  · by_cases h2 : per p i < per p (itr p k i)
    · exact absurd e1 (f2.2.2 _ (per_pos _ _) h2)
    · omega
/-- It is the least of its cycle. -/
def lstB (p : List Int) (i : Nat) : Bool := (List.range (per p i)).all fun k => decide (i ≤ itr p k i)
theorem lstB_iff {i : Nat} : lstB p i = true ↔ ∀ k, k < per p i → i ≤ itr p k i := by
  unfold lstB
  rw [List.all_eq_true]
  exact ⟨fun h k hk => by simpa using h k (List.mem_range.2 hk), fun h k hk => by simpa using h k (List.mem_range.1 hk)⟩
theorem least_ex (hp : IsOrd p) {i : Nat} (h : i < p.length) : ∃ a, lstB p (itr p a i) = true := by
  suffices H : ∀ m, (∃ a, itr p a i ≤ m) → ∃ a, lstB p (itr p a i) = true from H i ⟨0, Nat.le_refl _⟩
  intro m
  induction m with
  | zero =>
    rintro ⟨a, ha⟩
    exact ⟨a, lstB_iff.2 fun k _ => by omega⟩
  | succ m ih =>
    rintro ⟨a, ha⟩
    by_cases hb : ∃ b, itr p b i ≤ m
    · exact ih hb
    · refine ⟨a, lstB_iff.2 fun k _ => ?_⟩
      rw [← itr_add]
      have : ¬ itr p (k + a) i ≤ m := fun e => hb ⟨_, e⟩
      omega
/-- The numbers of a cycle. -/
def orb (p : List Int) (i : Nat) : List Int := (List.range (per p i)).map fun k => (itr p k i : Int)
theorem orb_length (i : Nat) : (orb p i).length = per p i := by simp [orb]
def heads (p : List Int) : List Nat := (List.range p.length).filter fun i => lstB p i && decide (1 < per p i)
/-- The cycles of more than one number. -/
def rnds (p : List Int) : List (List Int) := (heads p).map (orb p)
theorem heads_mem {i : Nat} : i ∈ heads p ↔ i < p.length ∧ lstB p i = true ∧ 1 < per p i := by
  unfold heads
  rw [List.mem_filter, List.mem_range]; simp
def prodN (l : List Nat) : Nat := l.foldr (· * ·) 1
theorem prodN_dvd : ∀ {l : List Nat} {x : Nat}, x ∈ l → x ∣ prodN l
  | [], x, h => by cases h
  | y :: l, x, h => by
    show x ∣ y * prodN l
    rcases List.mem_cons.1 h with rfl | h
    · exact Nat.dvd_mul_right _ _
    · exact Nat.dvd_trans (prodN_dvd h) (Nat.dvd_mul_left _ _)
theorem per_dvd (hp : IsOrd p) {i : Nat} (h : i < p.length) : per p i ∣ prodN ((rnds p).map List.length) := by
  obtain ⟨a, ha⟩ := least_ex hp h
  have e := per_itr hp h a
  by_cases h1 : 1 < per p i
  · refine prodN_dvd ?_
    unfold rnds
    rw [List.map_map]
    exact List.mem_map.2 ⟨itr p a i, heads_mem.2 ⟨itr_lt hp h a, ha, by omega⟩, by simp only [Function.comp]; rw [orb_length, e]⟩
  · have := per_pos p i
    rw [show per p i = 1 by omega]; exact Nat.one_dvd _
/-- As often as its cycles' lengths ask for is not at all. -/
theorem pw_long (hp : IsOrd p) : pwN p (prodN ((rnds p).map List.length)) = idn p.length :=
  nth_ext (by rw [pwN_length, idn_length]) fun i hi => by
    rw [pwN_length] at hi
    rw [pw_itr hp hi, idn_nth hi]
    obtain ⟨t, e⟩ := per_dvd hp hi
    rw [e, Nat.mul_comm, itr_mul hp hi]
/-! ### Their lengths' product stays small -/
theorem orb_disj (hp : IsOrd p) {i j : Nat} (hi : i < p.length) (hj : j < p.length) (li : lstB p i = true) (lj : lstB p j = true) {a b : Nat} (e : itr p a i = itr p b j) : i = j := by
  have half : ∀ {i j a b : Nat}, i < p.length → j < p.length → lstB p i = true → itr p a i = itr p b j → i ≤ j := by
    intro i j a b hi hj li e
    -- j is in the cycle of i
    have h1 : itr p (b * per p j - b + a) i = j := by
      rw [itr_add, e, ← itr_add]
      have hb : b ≤ b * per p j := Nat.le_mul_of_pos_right _ (per_pos _ _)
      rw [show b * per p j - b + b = b * per p j by omega, itr_mul hp hj]
    rw [itr_mod hp hi] at h1
    have := lstB_iff.1 li _ (Nat.mod_lt (b * per p j - b + a) (per_pos p i))
    omega
  have h1 := half hi hj li e
  have h2 := half hj hi lj e.symm
  omega
theorem lens_sum (hp : IsOrd p) : ((rnds p).map List.length).foldr (· + ·) 0 ≤ p.length := by
  have hnd : ((heads p).flatMap fun i => (List.range (per p i)).map fun k => itr p k i).Nodup := by
    have hh : (heads p).Nodup := (List.nodup_range (n := p.length)).filter _
    have hsub : ∀ i, i ∈ heads p → i < p.length ∧ lstB p i = true := fun i hi => ⟨(heads_mem.1 hi).1, (heads_mem.1 hi).2.1⟩
    revert hh hsub
    generalize heads p = hs
    intro hh hsub
    induction hs with
    | nil => simp
    | cons i t ih =>
      rw [List.flatMap_cons, List.nodup_append]
      have hi := hsub i List.mem_cons_self
      refine ⟨?_, ih (List.nodup_cons.1 hh).2 fun j hj => hsub j (List.mem_cons_of_mem _ hj), ?_⟩
      · rw [List.Nodup, List.pairwise_map]
        refine List.Pairwise.imp_of_mem (fun {a b} ha hb hab => ?_) (List.pairwise_lt_range (n := per p i))
        intro e
        have hb := List.mem_range.1 hb
        have e2 : itr p a (itr p (b - a) i) = itr p a i := by rw [← itr_add, show a + (b - a) = b by omega, e]
        exact (per_fact hp hi.1).2.2 (b - a) (by omega) (by omega) (itr_inj hp (itr_lt hp hi.1 _) hi.1 a e2)
      · intro x hx y hy e
        subst e
        obtain ⟨a, _, rfl⟩ := List.mem_map.1 hx
        obtain ⟨j, hj, hy⟩ := List.mem_flatMap.1 hy
        obtain ⟨b, _, e⟩ := List.mem_map.1 hy
        have hj' := hsub j (List.mem_cons_of_mem _ hj)
        have := orb_disj hp hi.1 hj'.1 hi.2 hj'.2 e.symm
        subst this
        exact (List.nodup_cons.1 hh).1 hj
  have hle := hnd.length_le_of_subset (l₂ := List.range p.length) fun x hx => by
    obtain ⟨i, hi, hx⟩ := List.mem_flatMap.1 hx
    obtain ⟨k, _, rfl⟩ := List.mem_map.1 hx
    exact List.mem_range.2 (itr_lt hp (heads_mem.1 hi).1 k)
  rw [List.length_range] at hle
  refine Nat.le_trans (Nat.le_of_eq ?_) hle
  unfold rnds
  generalize heads p = hs
  induction hs with
  | nil => rfl
  | cons i t ih =>
    rw [List.flatMap_cons, List.length_append]
    simp only [List.map_cons, List.foldr_cons, List.length_map, List.length_range, orb_length] at ih ⊢
    rw [← ih]
theorem prod_small : ∀ l : List Nat, prodN l ≤ 2 ^ (l.foldr (· + ·) 0)
  | [] => Nat.le_refl _
  | x :: l => by
    show x * prodN l ≤ 2 ^ (x + l.foldr (· + ·) 0)
    rw [Nat.pow_add]
    exact Nat.mul_le_mul (Nat.le_of_lt Nat.lt_two_pow_self) (prod_small l)
theorem long_small (hp : IsOrd p) (h : p.length ≤ 20) : prodN ((rnds p).map List.length) ≤ 1048576 :=
  Nat.le_trans (prod_small _) (Nat.pow_le_pow_right (by decide) (Nat.le_trans (lens_sum hp) h))
theorem rnds_len (hp : IsOrd p) {c : List Int} (h : c ∈ rnds p) : 2 ≤ c.length ∧ c.length ≤ p.length := by
  unfold rnds at h
  obtain ⟨i, hi, rfl⟩ := List.mem_map.1 h
  have := heads_mem.1 hi
  rw [orb_length]
  exact ⟨this.2.2, (per_fact hp this.1).1⟩
end
end Go.Proofs.Ytigichhcoflaiaa
