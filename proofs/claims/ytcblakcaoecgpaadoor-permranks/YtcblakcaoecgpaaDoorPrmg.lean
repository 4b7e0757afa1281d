/-
  Plain mathematics of orders: the sign along the cycles; nothing of the program.
-/
import Derived.Test.YtcblakcaoecgpaaDoorPrmc
namespace Go.Proofs.YtcblakcaoecgpaaDoor
open Go.RowKit
set_option linter.unusedVariables false

/-- A list by its numbers. -/
def byF (n : Nat) (f : Nat → Int) : List Int := (List.range n).map f
theorem byF_length (n : Nat) (f : Nat → Int) : (byF n f).length = n := by simp [byF]
theorem byF_nth {n : Nat} {f : Nat → Int} {k : Nat} (h : k < n) : nth (byF n f) k = f k := by
  rw [nth_get _ _ (by rw [byF_length]; exact h)]; simp [byF]
theorem byF_ext {n : Nat} {f g : Nat → Int} (h : ∀ k, k < n → f k = g k) : byF n f = byF n g :=
  nth_ext (by rw [byF_length, byF_length]) fun k hk => by rw [byF_length] at hk; rw [byF_nth hk, byF_nth hk, h k hk]
section
variable {p : List Int}
/-- Is it on the way, not farther than so many steps? -/
def onW (p : List Int) (i t k : Nat) : Bool := (List.range t).any fun m => k == itr p (m + 1) i
theorem onW_iff {i t k : Nat} : onW p i t k = true ↔ ∃ m, m < t ∧ k = itr p (m + 1) i := by
  unfold onW
  rw [List.any_eq_true]
  exact ⟨fun ⟨m, hm, e⟩ => ⟨m, List.mem_range.1 hm, by simpa using e⟩, fun ⟨m, hm, e⟩ => ⟨m, List.mem_range.2 hm, by simpa using e⟩⟩
def stp (p : List Int) (D : Nat → Bool) (i t : Nat) : List Int := byF p.length fun k => if k = i then (itr p (t + 1) i : Int) else if (D k || onW p i t k) = true then (k : Int) else nth p k
theorem itr_ne (hp : IsOrd p) {i : Nat} (hi : i < p.length) {a b : Nat} (h1 : a < b) (h2 : b < per p i) : itr p a i ≠ itr p b i := fun e => by
  have e2 : itr p a (itr p (b - a) i) = itr p a i := by rw [← itr_add, show a + (b - a) = b by omega, e]
  exact (per_fact hp hi).2.2 (b - a) (by omega) (by omega) (itr_inj hp (itr_lt hp hi _) hi a e2)
theorem stp_next (hp : IsOrd p) {D : Nat → Bool} {i t : Nat} (hi : i < p.length) (hD : ∀ m, D (itr p m i) = false) (ht : t + 1 < per p i) :
    itr p (t + 1) i < p.length ∧ i ≠ itr p (t + 1) i ∧ ((stp p D i t).set i (nth (stp p D i t) (itr p (t + 1) i))).set (itr p (t + 1) i) (nth (stp p D i t) i) = stp p D i (t + 1) := by
  obtain ⟨j, hj⟩ : ∃ j, j = itr p (t + 1) i := ⟨_, rfl⟩
  have hjl : j < p.length := by rw [hj]; exact itr_lt hp hi _
  have hne : i ≠ j := by rw [hj]; exact itr_ne hp hi (a := 0) (by omega) ht
  have hDj : D j = false := by rw [hj]; exact hD _
  have hwj : onW p i t j = false := by
    rw [← Bool.not_eq_true, onW_iff]
    rintro ⟨m, hm, e⟩
    rw [hj] at e
    exact itr_ne hp hi (a := m + 1) (b := t + 1) (by omega) ht e.symm
  rw [← hj]
  refine ⟨hjl, hne, ?_⟩
  have e1 : nth (stp p D i t) i = (j : Int) := by unfold stp; rw [byF_nth hi, if_pos rfl, hj]
  have e2 : nth (stp p D i t) j = (itr p (t + 1 + 1) i : Int) := by
    unfold stp
    rw [byF_nth hjl, if_neg (Ne.symm hne), if_neg (by rw [hDj, hwj]; decide)]
    show _ = (((nth p (itr p (t + 1) i)).toNat : Nat) : Int)
    rw [← hj]; exact (ord_at hp hjl).2.symm
  rw [e1, e2]
  have hl : (stp p D i t).length = p.length := byF_length _ _
  refine nth_ext (by rw [List.length_set, List.length_set, hl]; exact (byF_length _ _).symm) fun k hk => ?_
  rw [List.length_set, List.length_set, hl] at hk
  rw [nth_set _ _ _ _ (by rw [List.length_set, hl]; exact hjl), nth_set _ _ _ _ (by rw [hl]; exact hi)]
  unfold stp
  rw [byF_nth hk, byF_nth hk]
  by_cases h1 : k = j
  · rw [if_pos h1, if_neg (by omega), if_pos, h1]
    rw [h1, hDj, Bool.false_or, onW_iff]
    exact ⟨t, by omega, hj⟩
  · rw [if_neg h1]
    by_cases h2 : k = i
    · rw [if_pos h2, if_pos h2]
    · rw [if_neg h2, if_neg h2, if_neg h2]
      have : onW p i (t + 1) k = onW p i t k := by
        rw [Bool.eq_iff_iff, onW_iff, onW_iff]
        constructor
        · rintro ⟨m, hm, e⟩
          by_cases h3 : m = t
          · subst h3; exact absurd (e.trans hj.symm) h1
          · exact ⟨m, by omega, e⟩
        · rintro ⟨m, hm, e⟩; exact ⟨m, by omega, e⟩
      rw [this]
/-- The sign of a cycle of so many numbers. -/
def cyS : Nat → Int
  | 0 => 1
  | 1 => 1
  | n + 2 => - cyS (n + 1)
theorem cyS_even : ∀ n, cyS (n + 1) = if n % 2 = 0 then 1 else -1
  | 0 => rfl
  | n + 1 => by
    show - cyS (n + 1) = _
    rw [cyS_even n]
    by_cases h : n % 2 = 0
    · rw [if_pos h, if_neg (by omega)]
    · rw [if_neg h, if_pos (by omega)]; rfl
theorem stp_sign (hp : IsOrd p) {D : Nat → Bool} {i : Nat} (hi : i < p.length) (hD : ∀ m, D (itr p m i) = false) (h0 : IsOrd (stp p D i 0)) : ∀ t, t < per p i → IsOrd (stp p D i t) ∧ sgV (stp p D i 0) = cyS (t + 1) * sgV (stp p D i t)
  | 0, _ => ⟨h0, by show _ = 1 * _; omega⟩
  | t + 1, ht => by
    obtain ⟨h1, h2⟩ := stp_sign hp hi hD h0 t (by omega)
    obtain ⟨a, b, c⟩ := stp_next hp hi hD ht
    have hl : (stp p D i t).length = p.length := byF_length _ _
    have h3 := sg_swap h1 (i := i) (j := itr p (t + 1) i) (by rw [hl]; exact hi) (by rw [hl]; exact a) b
    rw [c] at h3
    refine ⟨h3.1, ?_⟩
    rw [h2, h3.2]
    show _ = - cyS (t + 1) * - sgV (stp p D i t)
    rw [Int.neg_mul_neg]
/-! ### All cycles, one behind the other -/
def inO (p : List Int) (h k : Nat) : Bool := (List.range (per p h)).any fun m => k == itr p m h
theorem inO_iff {h k : Nat} : inO p h k = true ↔ ∃ m, m < per p h ∧ k = itr p m h := by
  unfold inO
  rw [List.any_eq_true]
  exact ⟨fun ⟨m, hm, e⟩ => ⟨m, List.mem_range.1 hm, by simpa using e⟩, fun ⟨m, hm, e⟩ => ⟨m, List.mem_range.2 hm, by simpa using e⟩⟩
def inH (p : List Int) (hs : List Nat) (k : Nat) : Bool := hs.any fun h => inO p h k
def fxd (p : List Int) (hs : List Nat) : List Int := byF p.length fun k => if inH p hs k = true then (k : Int) else nth p k
def sgH (p : List Int) : List Nat → Int
  | [] => 1
  | h :: hs => cyS (per p h) * sgH p hs
theorem fxd_sign (hp : IsOrd p) : ∀ hs : List Nat, hs.Nodup → (∀ h ∈ hs, h < p.length ∧ lstB p h = true) → IsOrd (fxd p hs) ∧ sgV p = sgH p hs * sgV (fxd p hs)
  | [], _, _ => by
    have e : fxd p [] = p := nth_ext (byF_length _ _) fun k hk => by
      unfold fxd at hk ⊢
      rw [byF_length] at hk
      rw [byF_nth hk, if_neg (by simp [inH])]
    rw [e]
    exact ⟨hp, by show _ = 1 * _; omega⟩
  | i :: hs, hn, hh => by
    obtain ⟨h1, h2⟩ := fxd_sign hp hs (List.nodup_cons.1 hn).2 fun h hm => hh h (List.mem_cons_of_mem _ hm)
    have hi := hh i List.mem_cons_self
    have hD : ∀ m, inH p hs (itr p m i) = false := fun m => by
      rw [← Bool.not_eq_true]
      intro hc
      obtain ⟨h, hm, ho⟩ := List.any_eq_true.1 hc
      obtain ⟨b, _, e⟩ := inO_iff.1 ho
      have hj := hh h (List.mem_cons_of_mem _ hm)
      have := orb_disj hp hi.1 hj.1 hi.2 hj.2 e
      subst this
      exact (List.nodup_cons.1 hn).1 hm
    have e0 : stp p (inH p hs) i 0 = fxd p hs := byF_ext fun k hk => by
      have hw : onW p i 0 k = false := rfl
      rw [hw, Bool.or_false]
      by_cases e : k = i
      · subst e
        have hd0 : inH p hs k = false := hD 0
        rw [if_pos rfl, if_neg (by rw [hd0]; decide)]
        exact (ord_at hp hk).2
      · rw [if_neg e]
    have hL := per_pos p i
    have e1 : stp p (inH p hs) i (per p i - 1) = fxd p (i :: hs) := byF_ext fun k hk => by
      have hin : inH p (i :: hs) k = (inO p i k || inH p hs k) := rfl
      rw [hin]
      by_cases e : k = i
      · subst e
        have : inO p k k = true := inO_iff.2 ⟨0, hL, rfl⟩
        rw [if_pos rfl, this, Bool.true_or, if_pos rfl, show per p k - 1 + 1 = per p k by omega, (per_fact hp hk).2.1]
      · rw [if_neg e]
        have : inO p i k = onW p i (per p i - 1) k := by
          rw [Bool.eq_iff_iff, inO_iff, onW_iff]
          constructor
          · rintro ⟨m, hm, q⟩
            cases m with
            | zero => exact absurd q e
            | succ m => exact ⟨m, by omega, q⟩
          · rintro ⟨m, hm, q⟩; exact ⟨m + 1, by omega, q⟩
        rw [this, Bool.or_comm]
    have hs1 := stp_sign hp hi.1 hD (by rw [e0]; exact h1) (per p i - 1) (by omega)
    rw [e0, e1, show per p i - 1 + 1 = per p i by omega] at hs1
    refine ⟨hs1.1, ?_⟩
    rw [h2, hs1.2]
    show _ = cyS (per p i) * sgH p hs * sgV (fxd p (i :: hs))
    rw [← Int.mul_assoc, Int.mul_comm (sgH p hs)]
theorem fxd_all (hp : IsOrd p) : fxd p (heads p) = idn p.length :=
  nth_ext (by rw [idn_length]; exact byF_length _ _) fun k hk => by
    unfold fxd at hk ⊢
    rw [byF_length] at hk
    rw [byF_nth hk, idn_nth hk]
    by_cases h1 : inH p (heads p) k = true
    · rw [if_pos h1]
    · rw [if_neg h1]
      by_cases h2 : 1 < per p k
      · exfalso
        obtain ⟨a, ha⟩ := least_ex hp hk
        have hm := itr_lt hp hk a
        have hpe := per_itr hp hk a
        refine h1 (List.any_eq_true.2 ⟨itr p a k, heads_mem.2 ⟨hm, ha, by omega⟩, inO_iff.2 ⟨(a * per p k - a) % per p k, by rw [hpe]; exact Nat.mod_lt _ (per_pos p k), ?_⟩⟩)
        have e := itr_mod hp hm (a * per p k - a)
        rw [hpe] at e
        have hb : a ≤ a * per p k := Nat.le_mul_of_pos_right _ (per_pos _ _)
        rw [← e, ← itr_add, show a * per p k - a + a = a * per p k by omega, itr_mul hp hk]
      · have h3 := (per_fact hp hk).2.1
        have := per_pos p k
        rw [show per p k = 1 by omega] at h3
        have h4 : (nth p k).toNat = k := h3
        have := (ord_at hp hk).2
        rw [h4] at this; exact this.symm
/-- The sign is that of its cycles: each of an even number of numbers turns it. -/
theorem sg_cycles (hp : IsOrd p) : sgV p = ((rnds p).map fun c => if c.length % 2 = 0 then (-1 : Int) else 1).foldr (· * ·) 1 := by
  have h := (fxd_sign hp (heads p) ((List.nodup_range (n := p.length)).filter _) fun h hm => ⟨(heads_mem.1 hm).1, (heads_mem.1 hm).2.1⟩).2
  rw [fxd_all hp, sg_idn, Int.mul_one] at h
  rw [h]
  unfold rnds
  generalize heads p = hs
  induction hs with
  | nil => rfl
  | cons i t ih =>
    simp only [List.map_cons, List.foldr_cons, orb_length]
    rw [← ih]
    show cyS (per p i) * sgH p t = _
    obtain ⟨m, hm⟩ : ∃ m, per p i = m + 1 := ⟨per p i - 1, by have := per_pos p i; omega⟩
    rw [hm, cyS_even]
    by_cases q : m % 2 = 0
    · rw [if_pos q, if_neg (by omega)]
    · rw [if_neg q, if_pos (by omega)]
end
end Go.Proofs.YtcblakcaoecgpaaDoor
