/-
  Prmw Prmc Prmq, together.
-/
import Derived.Test.YteddkfeiikdekaaGrdn
import Derived.Test.YteddkfeiikdekaaTurnq
import Derived.Test.YteddkfeiikdekaaBase
/-! Prmw: Plain mathematics of orders: so many times after another; nothing of the program. -/
namespace Go.Proofs.Yteddkfeiikdekaa
open Go.RowKit
set_option linter.unusedVariables false

/-- So many times. -/
def pwN (p : List Int) : Nat → List Int
  | 0 => idn p.length
  | k + 1 => aft p (pwN p k)
/-- .. any number of times: below 0 that of the order turned round. -/
def pwI (p : List Int) (k : Int) : List Int := if 0 ≤ k then pwN p k.toNat else pwN (tnd p) (-k).toNat
section
variable {p : List Int}
theorem pwN_length : ∀ k, (pwN p k).length = p.length
  | 0 => idn_length _
  | k + 1 => by simp only [pwN]; rw [aft_length, pwN_length k]
theorem pwN_ord (hp : IsOrd p) : ∀ k, IsOrd (pwN p k)
  | 0 => idn_ord _
  | k + 1 => aft_ord hp (pwN_ord hp k) (pwN_length k).symm
theorem pwN_one : pwN p 1 = p := idn_aft
theorem pwN_add (hp : IsOrd p) : ∀ j k, aft (pwN p j) (pwN p k) = pwN p (j + k)
  | 0, k => by
    rw [Nat.zero_add]
    show aft (idn p.length) (pwN p k) = _
    have := aft_idn (pwN_ord hp k)
    rw [pwN_length] at this; exact this
  | j + 1, k => by
    rw [show j + 1 + k = (j + k) + 1 by omega]
    show aft (aft p (pwN p j)) (pwN p k) = aft p (pwN p (j + k))
    rw [aft_aft (pwN_ord hp k) (by rw [pwN_length, pwN_length]), pwN_add hp j k]
theorem pwN_last (hp : IsOrd p) (k : Nat) : pwN p (k + 1) = aft (pwN p k) p := by
  have := pwN_add hp k 1
  rw [pwN_one] at this
  exact this.symm
theorem tnd_tnd (hp : IsOrd p) : tnd (tnd p) = p := by
  have ht := tnd_ord hp
  have h1 : aft (tnd (tnd p)) (aft (tnd p) p) = p := tnd_undoes ht hp tnd_length
  rw [tnd_aft hp, ← show (tnd (tnd p)).length = p.length by rw [tnd_length, tnd_length], idn_aft] at h1
  exact h1
theorem pwN_undo (hp : IsOrd p) : ∀ k, aft (pwN (tnd p) k) (pwN p k) = idn p.length
  | 0 => by
    show aft (idn (tnd p).length) (idn p.length) = _
    rw [tnd_length]
    have := aft_idn (idn_ord p.length)
    rw [idn_length] at this; exact this
  | k + 1 => by
    rw [pwN_last (tnd_ord hp)]
    show aft (aft (pwN (tnd p) k) (tnd p)) (aft p (pwN p k)) = _
    rw [aft_aft (aft_ord hp (pwN_ord hp k) (pwN_length k).symm) (by rw [tnd_length, aft_length, pwN_length]), tnd_undoes hp (pwN_ord hp k) (pwN_length k).symm, pwN_undo hp k]
theorem pwN_undo' (hp : IsOrd p) (k : Nat) : aft (pwN p k) (pwN (tnd p) k) = idn p.length := by
  have := pwN_undo (tnd_ord hp) k
  rw [tnd_tnd hp, tnd_length] at this
  exact this
theorem pwI_length (k : Int) : (pwI p k).length = p.length := by unfold pwI; split <;> simp only [pwN_length, tnd_length]
theorem pwI_ord (hp : IsOrd p) (k : Int) : IsOrd (pwI p k) := by
  unfold pwI; split
  · exact pwN_ord hp _
  · exact pwN_ord (tnd_ord hp) _
theorem pwI_nat (k : Nat) : pwI p k = pwN p k := by unfold pwI; rw [if_pos (by omega), Int.toNat_natCast]
theorem pwI_neg (k : Nat) : pwI p (-(k : Int)) = pwN (tnd p) k := by
  unfold pwI
  by_cases h : k = 0
  · subst h; rw [if_pos (by omega)]; show idn p.length = idn (tnd p).length; rw [tnd_length]
  · rw [if_neg (by omega), show (- -(k : Int)).toNat = k by omega]
theorem idn_left {q : List Int} (hq : IsOrd q) {n : Nat} (h : q.length = n) : aft (idn n) q = q := by subst h; exact aft_idn hq
theorem idn_right {q : List Int} {n : Nat} (h : q.length = n) : aft q (idn n) = q := by subst h; exact idn_aft
/-- So many times and so many times more is both together. -/
theorem pwI_add (hp : IsOrd p) (j k : Int) : aft (pwI p j) (pwI p k) = pwI p (j + k) := by
  have ht := tnd_ord hp
  rcases Int.eq_nat_or_neg j with ⟨a, rfl | rfl⟩ <;> rcases Int.eq_nat_or_neg k with ⟨b, rfl | rfl⟩
  · rw [pwI_nat, pwI_nat, ← Int.natCast_add, pwI_nat, pwN_add hp]
  · rw [pwI_nat, pwI_neg]
    by_cases h : b ≤ a
    · obtain ⟨c, rfl⟩ : ∃ c, a = c + b := ⟨a - b, by omega⟩
      rw [show ((c + b : Nat) : Int) + -(b : Int) = (c : Int) by omega, pwI_nat, ← pwN_add hp, aft_aft (pwN_ord ht b) (by rw [pwN_length, pwN_length, tnd_length]), pwN_undo' hp, idn_right (pwN_length c)]
    · obtain ⟨c, rfl⟩ : ∃ c, b = a + c := ⟨b - a, by omega⟩
      rw [show (a : Int) + -((a + c : Nat) : Int) = -(c : Int) by omega, pwI_neg, ← pwN_add ht, ← aft_aft (pwN_ord ht c) (by rw [pwN_length, pwN_length]), pwN_undo' hp, idn_left (pwN_ord ht c) (by rw [pwN_length, tnd_length])]
  · rw [pwI_neg, pwI_nat]
    by_cases h : b ≤ a
    · obtain ⟨c, rfl⟩ : ∃ c, a = c + b := ⟨a - b, by omega⟩
      rw [show -((c + b : Nat) : Int) + (b : Int) = -(c : Int) by omega, pwI_neg, ← pwN_add ht, aft_aft (pwN_ord hp b) (by rw [pwN_length, pwN_length, tnd_length]), pwN_undo hp, idn_right (by rw [pwN_length, tnd_length])]
    · obtain ⟨c, rfl⟩ : ∃ c, b = a + c := ⟨b - a, by omega⟩
      rw [show -(a : Int) + ((a + c : Nat) : Int) = (c : Int) by omega, pwI_nat, ← pwN_add hp, ← aft_aft (pwN_ord hp c) (by rw [pwN_length, pwN_length]), pwN_undo hp, idn_left (pwN_ord hp c) (pwN_length c)]
  · rw [pwI_neg, pwI_neg, show -(a : Int) + -(b : Int) = -((a + b : Nat) : Int) by omega, pwI_neg, pwN_add ht]
theorem pwI_zero : pwI p 0 = idn p.length := pwI_nat 0
theorem pwI_one : pwI p 1 = p := (pwI_nat 1).trans pwN_one
theorem pwI_back : pwI p (-1) = tnd p := (pwI_neg 1).trans pwN_one
/-- Half as often, twice. -/
theorem pwI_half (hp : IsOrd p) (k : Int) : pwI p k = if k.tmod 2 = 1 then aft p (aft (pwI p (k.tdiv 2)) (pwI p (k.tdiv 2))) else if k.tmod 2 = -1 then aft (tnd p) (aft (pwI p (k.tdiv 2)) (pwI p (k.tdiv 2))) else aft (pwI p (k.tdiv 2)) (pwI p (k.tdiv 2)) := by
  have hd := Int.mul_tdiv_add_tmod k 2
  rw [pwI_add hp]
  by_cases h1 : k.tmod 2 = 1
  · rw [if_pos h1]
    have := pwI_add hp 1 (k.tdiv 2 + k.tdiv 2)
    rw [pwI_one] at this
    rw [this]; congr 1; omega
  · rw [if_neg h1]
    by_cases h2 : k.tmod 2 = -1
    · rw [if_pos h2]
      have := pwI_add hp (-1) (k.tdiv 2 + k.tdiv 2)
      rw [pwI_back] at this
      rw [this]; congr 1; omega
    · rw [if_neg h2]
      have : k.tmod 2 = 0 := by
        by_cases h0 : 0 ≤ k
        · rw [Int.tmod_eq_emod_of_nonneg h0] at *; omega
        · have e := Int.neg_tmod k 2
          rw [Int.tmod_eq_emod_of_nonneg (show 0 ≤ -k by omega)] at e; omega
      congr 1; omega
end
end Go.Proofs.Yteddkfeiikdekaa
/-! Prmc: Plain mathematics of orders: from a number on to the one that stands there, and so on (cycles); nothing of the program. -/
namespace Go.Proofs.Yteddkfeiikdekaa
open Go.RowKit
set_option linter.unusedVariables false

/-- The number behind so many steps. -/
def itr (p : List Int) : Nat → Nat → Nat
  | 0, i => i
  | k + 1, i => (nth p (itr p k i)).toNat
section
variable {p : List Int}
theorem itr_add (j : Nat) : ∀ k i, itr p (k + j) i = itr p k (itr p j i)
  | 0, i => by rw [Nat.zero_add]; rfl
  | k + 1, i => by rw [show k + 1 + j = (k + j) + 1 by omega]; simp only [itr]; rw [itr_add j k i]
theorem itr_lt (hp : IsOrd p) {i : Nat} (h : i < p.length) : ∀ k, itr p k i < p.length
  | 0 => h
  | k + 1 => (ord_at hp (itr_lt hp h k)).1
theorem itr_inj (hp : IsOrd p) {i j : Nat} (hi : i < p.length) (hj : j < p.length) : ∀ k, itr p k i = itr p k j → i = j
  | 0, e => e
  | k + 1, e => by
    have h1 := ord_at hp (itr_lt hp hi k)
    have h2 := ord_at hp (itr_lt hp hj k)
    simp only [itr] at e
    exact itr_inj hp hi hj k (hp.inj (itr_lt hp hi k) (itr_lt hp hj k) (by omega))
theorem pw_itr (hp : IsOrd p) {i : Nat} (h : i < p.length) : ∀ k, nth (pwN p k) i = (itr p k i : Int)
  | 0 => idn_nth h
  | k + 1 => by
    simp only [pwN, itr]
    rw [aft_nth (by rw [pwN_length]; exact h), pw_itr hp h k, Int.toNat_natCast]
    exact (ord_at hp (itr_lt hp h k)).2.symm
/-- It comes back. -/
theorem per_ex (hp : IsOrd p) {i : Nat} (h : i < p.length) : ∃ L, L < p.length ∧ itr p (L + 1) i = i := by
  by_cases hn : ((List.range (p.length + 1)).map fun k => itr p k i).Nodup
  · have := hn.length_le_of_subset (l₂ := List.range p.length) fun x hx => by
      obtain ⟨k, _, rfl⟩ := List.mem_map.1 hx
      exact List.mem_range.2 (itr_lt hp h k)
    simp at this
    omega
  · have : ∃ a b, a < b ∧ b < p.length + 1 ∧ itr p a i = itr p b i := by
      refine Classical.byContradiction fun hc => hn ?_
      rw [List.Nodup, List.pairwise_map]
      refine List.Pairwise.imp_of_mem (fun {a b} ha hb hab => ?_) (List.pairwise_lt_range (n := p.length + 1))
      exact fun e => hc ⟨a, b, hab, List.mem_range.1 hb, e⟩
    obtain ⟨a, b, hab, hb, e⟩ := this
    refine ⟨b - a - 1, by omega, ?_⟩
    rw [show b - a - 1 + 1 = b - a by omega]
    have e2 : itr p a (itr p (b - a) i) = itr p a i := by rw [← itr_add, show a + (b - a) = b by omega, e]
    exact itr_inj hp (itr_lt hp h _) h a e2
/-- How many steps till it is the first one again. -/
def per (p : List Int) (i : Nat) : Nat := (List.range p.length).findIdx (fun k => itr p (k + 1) i == i) + 1
theorem per_fact (hp : IsOrd p) {i : Nat} (h : i < p.length) : per p i ≤ p.length ∧ itr p (per p i) i = i ∧ ∀ k, 0 < k → k < per p i → itr p k i ≠ i := by
  obtain ⟨L, hL, e⟩ := per_ex hp h
  have hm : (List.range p.length).findIdx (fun k => itr p (k + 1) i == i) < (List.range p.length).length := List.findIdx_lt_length_of_exists ⟨L, List.mem_range.2 hL, by simp [e]⟩
  have h1 := List.findIdx_getElem (w := hm)
  rw [List.length_range] at hm
  simp only [List.getElem_range, beq_iff_eq] at h1
  refine ⟨by unfold per; omega, h1, fun k h0 hk he => ?_⟩
  unfold per at hk
  have h2 := List.not_of_lt_findIdx (p := fun k => itr p (k + 1) i == i) (xs := List.range p.length) (i := k - 1) (by omega)
  simp only [List.getElem_range] at h2
  rw [show k - 1 + 1 = k by omega] at h2
  rw [he] at h2; simp at h2
theorem itr_mul (hp : IsOrd p) {i : Nat} (h : i < p.length) : ∀ t, itr p (t * per p i) i = i
  | 0 => by rw [Nat.zero_mul]; rfl
  | t + 1 => by rw [Nat.add_mul, Nat.one_mul, itr_add, (per_fact hp h).2.1, itr_mul hp h t]
theorem itr_mod (hp : IsOrd p) {i : Nat} (h : i < p.length) (k : Nat) : itr p k i = itr p (k % per p i) i := by
  have e := Nat.mod_add_div k (per p i)
  have h1 : itr p (k % per p i + per p i * (k / per p i)) i = itr p (k % per p i) i := by rw [itr_add, Nat.mul_comm, itr_mul hp h]
  rw [e] at h1
  exact h1
theorem per_pos (p : List Int) (i : Nat) : 0 < per p i := Nat.succ_pos _
/-- Each of a cycle comes back as soon. -/
theorem per_itr (hp : IsOrd p) {i : Nat} (h : i < p.length) (k : Nat) : per p (itr p k i) = per p i := by
  have hk := itr_lt hp h k
  have f1 := per_fact hp h
  have f2 := per_fact hp hk
  have hc : ∀ m, itr p m (itr p k i) = itr p k (itr p m i) := fun m => by rw [← itr_add, ← itr_add, Nat.add_comm]
  have e1 : itr p (per p i) (itr p k i) = itr p k i := by rw [hc, f1.2.1]
  have e2 : itr p (per p (itr p k i)) i = i := by
    have := f2.2.1
    rw [hc] at this
    exact itr_inj hp (itr_lt hp h _) h k this
  by_cases h1 : per p (itr p k i) < per p i
  · exact absurd e2 (f1.2.2 _ (per_pos _ _) h1)
  · by_cases h2 : per p i < per p (itr p k i)
    · exact absurd e1 (f2.2.2 _ (per_pos _ _) h2)
    · omega
/-- It is the least of its cycle. -/
def lstB (p : List Int) (i : Nat) : Bool := (List.range (per p i)).all fun k => decide (i ≤ itr p k i)
theorem lstB_iff {i : Nat} : lstB p i = true ↔ ∀ k, k < per p i → i ≤ itr p k i := by
  unfold lstB
  rw [List.all_eq_true]
  exact ⟨fun h k hk => by simpa using h k (List.mem_range.2 hk), fun h k hk => by simpa using h k (List.mem_range.1 hk)⟩
theorem least_ex (hp : IsOrd p) {i : Nat} (h : i < p.length) : ∃ a, lstB p (itr p a i) = true := by
  suffices H : ∀ m, (∃ a, itr p a i ≤ m) → ∃ a, lstB p (itr p a i) = true from H i ⟨0, Nat.le_refl _⟩
  intro m
  induction m with
  | zero =>
    rintro ⟨a, ha⟩
    exact ⟨a, lstB_iff.2 fun k _ => by omega⟩
  | succ m ih =>
    rintro ⟨a, ha⟩
    by_cases hb : ∃ b, itr p b i ≤ m
    · exact ih hb
    · refine ⟨a, lstB_iff.2 fun k _ => ?_⟩
      rw [← itr_add]
      have : ¬ itr p (k + a) i ≤ m := fun e => hb ⟨_, e⟩
      omega
/-- The numbers of a cycle. -/
def orb (p : List Int) (i : Nat) : List Int := (List.range (per p i)).map fun k => (itr p k i : Int)
theorem orb_length (i : Nat) : (orb p i).length = per p i := by simp [orb]
def heads (p : List Int) : List Nat := (List.range p.length).filter fun i => lstB p i && decide (1 < per p i)
/-- The cycles of more than one number. -/
def rnds (p : List Int) : List (List Int) := (heads p).map (orb p)
theorem heads_mem {i : Nat} : i ∈ heads p ↔ i < p.length ∧ lstB p i = true ∧ 1 < per p i := by
  unfold heads
  rw [List.mem_filter, List.mem_range]; simp
def prodN (l : List Nat) : Nat := l.foldr (· * ·) 1
theorem prodN_dvd : ∀ {l : List Nat} {x : Nat}, x ∈ l → x ∣ prodN l
  | [], x, h => by cases h
  | y :: l, x, h => by
    show x ∣ y * prodN l
    rcases List.mem_cons.1 h with rfl | h
    · exact Nat.dvd_mul_right _ _
    · exact Nat.dvd_trans (prodN_dvd h) (Nat.dvd_mul_left _ _)
theorem per_dvd (hp : IsOrd p) {i : Nat} (h : i < p.length) : per p i ∣ prodN ((rnds p).map List.length) := by
  obtain ⟨a, ha⟩ := least_ex hp h
  have e := per_itr hp h a
  by_cases h1 : 1 < per p i
  · refine prodN_dvd ?_
    unfold rnds
    rw [List.map_map]
    exact List.mem_map.2 ⟨itr p a i, heads_mem.2 ⟨itr_lt hp h a, ha, by omega⟩, by simp only [Function.comp]; rw [orb_length, e]⟩
  · have := per_pos p i
    rw [show per p i = 1 by omega]; exact Nat.one_dvd _
/-- As often as its cycles' lengths ask for is not at all. -/
theorem pw_long (hp : IsOrd p) : pwN p (prodN ((rnds p).map List.length)) = idn p.length :=
  nth_ext (by rw [pwN_length, idn_length]) fun i hi => by
    rw [pwN_length] at hi
    rw [pw_itr hp hi, idn_nth hi]
    obtain ⟨t, e⟩ := per_dvd hp hi
    rw [e, Nat.mul_comm, itr_mul hp hi]
/-! ### Their lengths' product stays small -/
theorem orb_disj (hp : IsOrd p) {i j : Nat} (hi : i < p.length) (hj : j < p.length) (li : lstB p i = true) (lj : lstB p j = true) {a b : Nat} (e : itr p a i = itr p b j) : i = j := by
  have half : ∀ {i j a b : Nat}, i < p.length → j < p.length → lstB p i = true → itr p a i = itr p b j → i ≤ j := by
    intro i j a b hi hj li e
    -- j is in the cycle of i
    have h1 : itr p (b * per p j - b + a) i = j := by
      rw [itr_add, e, ← itr_add]
      have hb : b ≤ b * per p j := Nat.le_mul_of_pos_right _ (per_pos _ _)
      rw [show b * per p j - b + b = b * per p j by omega, itr_mul hp hj]
    rw [itr_mod hp hi] at h1
    have := lstB_iff.1 li _ (Nat.mod_lt (b * per p j - b + a) (per_pos p i))
    omega
  have h1 := half hi hj li e
  have h2 := half hj hi lj e.symm
  omega
theorem lens_sum (hp : IsOrd p) : ((rnds p).map List.length).foldr (· + ·) 0 ≤ p.length := by
  have hnd : ((heads p).flatMap fun i => (List.range (per p i)).map fun k => itr p k i).Nodup := by
    have hh : (heads p).Nodup := (List.nodup_range (n := p.length)).filter _
    have hsub : ∀ i, i ∈ heads p → i < p.length ∧ lstB p i = true := fun i hi => ⟨(heads_mem.1 hi).1, (heads_mem.1 hi).2.1⟩
    revert hh hsub
    generalize heads p = hs
    intro hh hsub
    induction hs with
    | nil => simp
    | cons i t ih =>
      rw [List.flatMap_cons, List.nodup_append]
      have hi := hsub i List.mem_cons_self
      refine ⟨?_, ih (List.nodup_cons.1 hh).2 fun j hj => hsub j (List.mem_cons_of_mem _ hj), ?_⟩
      · rw [List.Nodup, List.pairwise_map]
        refine List.Pairwise.imp_of_mem (fun {a b} ha hb hab => ?_) (List.pairwise_lt_range (n := per p i))
        intro e
        have hb := List.mem_range.1 hb
        have e2 : itr p a (itr p (b - a) i) = itr p a i := by rw [← itr_add, show a + (b - a) = b by omega, e]
        exact (per_fact hp hi.1).2.2 (b - a) (by omega) (by omega) (itr_inj hp (itr_lt hp hi.1 _) hi.1 a e2)
      · intro x hx y hy e
        subst e
        obtain ⟨a, _, rfl⟩ := List.mem_map.1 hx
        obtain ⟨j, hj, hy⟩ := List.mem_flatMap.1 hy
        obtain ⟨b, _, e⟩ := List.mem_map.1 hy
        have hj' := hsub j (List.mem_cons_of_mem _ hj)
        have := orb_disj hp hi.1 hj'.1 hi.2 hj'.2 e.symm
        subst this
        exact (List.nodup_cons.1 hh).1 hj
  have hle := hnd.length_le_of_subset (l₂ := List.range p.length) fun x hx => by
    obtain ⟨i, hi, hx⟩ := List.mem_flatMap.1 hx
    obtain ⟨k, _, rfl⟩ := List.mem_map.1 hx
    exact List.mem_range.2 (itr_lt hp (heads_mem.1 hi).1 k)
  rw [List.length_range] at hle
  refine Nat.le_trans (Nat.le_of_eq ?_) hle
  unfold rnds
  generalize heads p = hs
  induction hs with
  | nil => rfl
  | cons i t ih =>
    rw [List.flatMap_cons, List.length_append]
    simp only [List.map_cons, List.foldr_cons, List.length_map, List.length_range, orb_length] at ih ⊢
    rw [← ih]
theorem prod_small : ∀ l : List Nat, prodN l ≤ 2 ^ (l.foldr (· + ·) 0)
  | [] => Nat.le_refl _
  | x :: l => by
    show x * prodN l ≤ 2 ^ (x + l.foldr (· + ·) 0)
    rw [Nat.pow_add]
    exact Nat.mul_le_mul (Nat.le_of_lt Nat.lt_two_pow_self) (prod_small l)
theorem long_small (hp : IsOrd p) (h : p.length ≤ 20) : prodN ((rnds p).map List.length) ≤ 1048576 :=
  Nat.le_trans (prod_small _) (Nat.pow_le_pow_right (by decide) (Nat.le_trans (lens_sum hp) h))
theorem rnds_len (hp : IsOrd p) {c : List Int} (h : c ∈ rnds p) : 2 ≤ c.length ∧ c.length ≤ p.length := by
  unfold rnds at h
  obtain ⟨i, hi, rfl⟩ := List.mem_map.1 h
  have := heads_mem.1 hi
  rw [orb_length]
  exact ⟨this.2.2, (per_fact hp this.1).1⟩
end
end Go.Proofs.Yteddkfeiikdekaa
/-! Prmq: What the program's functions on orders tell, in one form; the answers' words. -/
namespace Go.Proofs.Yteddkfeiikdekaa
open Go.RowKit
set_option linter.unusedVariables false

/-- How a list may be wrong as an order. -/
def orE (p : List Int) : Int := if 4096 < p.length then 7 else if ordB p = true then 0 else 6
def afE (p q : List Int) : Int := if orE p ≠ 0 then orE p else if orE q ≠ 0 then orE q else if p.length ≠ q.length then 4 else 0
def rkE (p : List Int) : Int := if orE p ≠ 0 then orE p else if 12 < p.length then 7 else 0
def urE (n k : Int) : Int := if n < 0 then 6 else if 12 < n then 7 else if k < 0 ∨ (fac n.toNat : Int) ≤ k then 5 else 0
def onL (e : Int) (xs : List Int) : List Int := if e = 0 then xs else []
def onZ (e x : Int) : Int := if e = 0 then x else 0
section
variable {p q : List Int}
theorem orE_zero : orE p = 0 ↔ p.length ≤ 4096 ∧ IsOrd p := by
  unfold orE
  by_cases h : 4096 < p.length
  · rw [if_pos h]; exact ⟨fun e => absurd e (by decide), fun e => by omega⟩
  · rw [if_neg h]
    by_cases h1 : ordB p = true
    · rw [if_pos h1]; exact ⟨fun _ => ⟨by omega, (ordB_iff p).1 h1⟩, fun _ => rfl⟩
    · rw [if_neg h1]; exact ⟨fun e => absurd e (by decide), fun e => absurd ((ordB_iff p).2 e.2) h1⟩
theorem afE_zero : afE p q = 0 ↔ orE p = 0 ∧ orE q = 0 ∧ p.length = q.length := by
  unfold afE
  by_cases h : orE p = 0
  · rw [if_neg (not_not_intro h)]
    by_cases h1 : orE q = 0
    · rw [if_neg (not_not_intro h1)]
      by_cases h2 : p.length = q.length
      · rw [if_neg (not_not_intro h2)]; exact ⟨fun _ => ⟨h, h1, h2⟩, fun _ => rfl⟩
      · rw [if_pos h2]; exact ⟨fun e => absurd e (by decide), fun e => absurd e.2.2 h2⟩
    · rw [if_pos h1]; exact ⟨fun e => absurd e h1, fun e => absurd e.2.1 h1⟩
  · rw [if_pos h]; exact ⟨fun e => absurd e h, fun e => absurd e.1 h⟩
theorem rkE_zero : rkE p = 0 ↔ orE p = 0 ∧ p.length ≤ 12 := by
  unfold rkE
  by_cases h : orE p = 0
  · rw [if_neg (not_not_intro h)]
    by_cases h2 : 12 < p.length
    · rw [if_pos h2]; exact ⟨fun e => absurd e (by decide), fun e => by omega⟩
    · rw [if_neg h2]; exact ⟨fun _ => ⟨h, by omega⟩, fun _ => rfl⟩
  · rw [if_pos h]; exact ⟨fun e => absurd e h, fun e => absurd e.1 h⟩
theorem urE_zero {n k : Int} : urE n k = 0 ↔ 0 ≤ n ∧ n ≤ 12 ∧ 0 ≤ k ∧ k < fac n.toNat := by
  unfold urE
  by_cases h : n < 0
  · rw [if_pos h]; exact ⟨fun e => absurd e (by decide), fun e => by omega⟩
  · rw [if_neg h]
    by_cases h1 : 12 < n
    · rw [if_pos h1]; exact ⟨fun e => absurd e (by decide), fun e => by omega⟩
    · rw [if_neg h1]
      by_cases h2 : k < 0 ∨ (fac n.toNat : Int) ≤ k
      · rw [if_pos h2]; exact ⟨fun e => absurd e (by decide), fun e => by omega⟩
      · rw [if_neg h2]; exact ⟨fun _ => by omega, fun _ => rfl⟩
end
theorem onL_ok {e : Int} {xs : List Int} (h : e = 0) : onL e xs = xs := by unfold onL; rw [if_pos h]
theorem onL_no {e : Int} {xs : List Int} (h : e ≠ 0) : onL e xs = [] := by unfold onL; rw [if_neg h]
theorem onZ_ok {e x : Int} (h : e = 0) : onZ e x = x := by unfold onZ; rw [if_pos h]
theorem onZ_no {e x : Int} (h : e ≠ 0) : onZ e x = 0 := by unfold onZ; rw [if_neg h]
theorem onL_len {e : Int} {xs : List Int} {n : Nat} (h : e = 0 → xs.length ≤ n) : (onL e xs).length ≤ n := by
  unfold onL
  split
  · rename_i q; exact h q
  · simp
/-- An answer that is a list, or an error. -/
def UL (e : Int) (L : List Int) (w : World) (r : Ending) (w' : World) : Prop := ∃ g gc, r = .returned (.tuple #[.slice g L.length gc, errV e]) ∧ NewC w.heap.size w' g L gc ∧ Below w.heap.size w w'
/-- An answer that is a number, or an error. -/
def UZ (e x : Int) (w : World) (r : Ending) (w' : World) : Prop := r = .returned (.tuple #[.int .i64 x, errV e]) ∧ Below w.heap.size w w'
theorem UL.mkok {e : Int} {L : List Int} {w w' : World} {g : Option Addr} {gc : Nat} (h : e = 0) (hN : NewC w.heap.size w' g L gc) (hB : Below w.heap.size w w') : UL e (onL e L) w (.returned (.tuple #[.slice g L.length gc, .nilIface])) w' := by
  subst h
  exact ⟨g, gc, rfl, hN, hB⟩
theorem UL.mkno {e : Int} {L : List Int} {w w' : World} {e' : Int} (h : e = e') (h0 : e' ≠ 0) (hB : Below w.heap.size w w') : UL e (onL e L) w (.returned (.tuple #[.slice none 0 0, .iface 57 (.int .i64 e')])) w' := by
  subst h
  rw [onL_no h0]
  exact ⟨none, 0, by rw [errV_pos h0]; rfl, ⟨.inl rfl, Nat.le_refl _⟩, hB⟩
theorem UZ.mkok {e x : Int} {w w' : World} (h : e = 0) (hB : Below w.heap.size w w') : UZ e (onZ e x) w (.returned (.tuple #[.int .i64 x, .nilIface])) w' := by
  subst h
  exact ⟨rfl, hB⟩
theorem UZ.mkno {e x : Int} {w w' : World} {e' : Int} (h : e = e') (h0 : e' ≠ 0) (hB : Below w.heap.size w w') : UZ e (onZ e x) w (.returned (.tuple #[.int .i64 0, .iface 57 (.int .i64 e')])) w' := by
  subst h
  rw [onZ_no h0]
  exact ⟨by rw [errV_pos h0], hB⟩
/-- A slice of lists. -/
abbrev RwV : Type := (Option Addr × Nat) × List Int
def RwV.v (r : RwV) : Value := .slice r.1.1 r.2.length r.1.2
def rwz (rs : List RwV) (j : Nat) : RwV := rs.getD j ((none, 0), [])
def IsRs (n : Nat) (W : World) (a : Option Addr) (rs : List RwV) : Prop :=
  (rs = [] ∨ ∃ b off, a = some ⟨b, off, none⟩ ∧ b < n ∧ ∀ j, j < rs.length → W.cell? ⟨b, off + j, none⟩ = some (rwz rs j).v) ∧ ∀ j, j < rs.length → IsInts n W (rwz rs j).1.1 (rwz rs j).2
section
variable {n n' : Nat} {W W' : World} {a : Option Addr} {rs : List RwV}
theorem IsRs.below (hB : Below n W W') (h : IsRs n W a rs) : IsRs n W' a rs := by
  refine ⟨?_, fun j hj => (h.2 j hj).below hB⟩
  rcases h.1 with e | ⟨b, off, e, hb, hc⟩
  · exact .inl e
  · exact .inr ⟨b, off, e, hb, fun j hj => (hB.cell (p := ⟨b, off + j, none⟩) hb).trans (hc j hj)⟩
theorem IsRs.mono (hn : n ≤ n') (h : IsRs n W a rs) : IsRs n' W a rs := by
  refine ⟨?_, fun j hj => (h.2 j hj).mono hn⟩
  rcases h.1 with e | ⟨b, off, e, hb, hc⟩
  · exact .inl e
  · exact .inr ⟨b, off, e, by omega, hc⟩
theorem IsRs.go (h : IsRs W.heap.size W a rs) (hB : Below W.heap.size W W') : IsRs W'.heap.size W' a rs := (h.below hB).mono hB.size
theorem IsRs.at (h : IsRs n W a rs) {j : Nat} (hj : j < rs.length) : ∃ b off, a = some ⟨b, off, none⟩ ∧ b < n ∧ ∀ j, j < rs.length → W.cell? ⟨b, off + j, none⟩ = some (rwz rs j).v := by
  rcases h.1 with e | h
  · subst e; simp at hj
  · exact h
end
theorem rwz_get {rs : List RwV} {j : Nat} (h : j < rs.length) : rwz rs j = rs[j] := by unfold rwz; rw [List.getD_eq_getElem?_getD, List.getElem?_eq_getElem h]; rfl
def rws (rs : List RwV) : List (List Int) := rs.map fun r => r.2
/-- An answer that is a list of lists, or an error. -/
def UR9 (e : Int) (R : List (List Int)) (w : World) (r : Ending) (w' : World) : Prop :=
  ∃ g gc rs, r = .returned (.tuple #[.slice g rs.length gc, errV e]) ∧ rws rs = (if e = 0 then R else []) ∧ IsRs w'.heap.size w' g rs ∧ Below w.heap.size w w'
/-- The contract of perm.Check. -/
def CPc : Prop := ∀ (a : Option Addr) (cap : Nat) (p : List Int) (w : World), p.length ≤ 9223372036854775807 → IsInts w.heap.size w a p → (∀ j, In64 (nth p j)) →
  Calls Try.prog 27 #[.slice a p.length cap] w fun r w' => r = .returned (errV (orE p)) ∧ Below w.heap.size w w'
/-- The contract of perm.Inverse. -/
def CPi : Prop := ∀ (a : Option Addr) (cap : Nat) (p : List Int) (w : World), p.length ≤ 9223372036854775807 → IsInts w.heap.size w a p → (∀ j, In64 (nth p j)) →
  Calls Try.prog 14 #[.slice a p.length cap] w (UL (orE p) (onL (orE p) (tnd p)) w)
end Go.Proofs.Yteddkfeiikdekaa
