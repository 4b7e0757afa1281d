/-
  Plain mathematics of orders: so many times after another; nothing of the program.
-/
import Derived.Test.YtigichhcoflaiaaPrmo
namespace Go.Proofs.Ytigichhcoflaiaa
open Go.RowKit
set_option linter.unusedVariables false

/-- So many times. -/
def pwN (p : List Int) : Nat → List Int
  | 0 => idn p.length
  | k + 1 => aft p (pwN p k)
/-- .. any number of times: below 0 that of the order turned round. -/
def pwI (p : List Int) (k : Int) : List Int := if 0 ≤ k then pwN p k.toNat else pwN (tnd p) (-k).toNat
section
variable {p : List Int}
theorem pwN_length : ∀ k, (pwN p k).length = p.length
  | 0 => idn_length _
  | k + 1 => by simp only [pwN]; rw [aft_length, pwN_length k]
theorem pwN_ord (hp : IsOrd p) : ∀ k, IsOrd (pwN p k)
  | 0 => idn_ord _
  | k + 1 => aft_ord hp (pwN_ord hp k) (pwN_length k).symm
theorem pwN_one : pwN p 1 = p := idn_aft
theorem pwN_add (hp : IsOrd p) : ∀ j k, aft (pwN p j) (pwN p k) = pwN p (j + k)
  | 0, k => by
    rw [Nat.zero_add]
    show aft (idn p.length) (pwN p k) = _
    have := aft_idn (pwN_ord hp k)
    rw [pwN_length] at this; exact this
  | j + 1, k => by
    rw [show j + 1 + k = (j + k) + 1 by omega]
    show aft (aft p (pwN p j)) (pwN p k) = aft p (pwN p (j + k))
    rw [aft_aft (pwN_ord hp k) (by rw [pwN_length, pwN_length]), pwN_add hp j k]
theorem pwN_last (hp : IsOrd p) (k : Nat) : pwN p (k + 1) = aft (pwN p k) p := by
  have := pwN_add hp k 1
  rw [pwN_one] at this
  exact this.symm
theorem tnd_tnd (hp : IsOrd p) : tnd (tnd p) = p := by
  have ht := tnd_ord hp
  have h1 : aft (tnd (tnd p)) (aft (tnd p) p) = p := tnd_undoes ht hp tnd_length
  rw [tnd_aft hp, ← show (tnd (tnd p)).length = p.length by rw [tnd_length, tnd_length], idn_aft] at h1
  exact h1
theorem pwN_undo (hp : IsOrd p) : ∀ k, aft (pwN (tnd p) k) (pwN p k) = idn p.length
  | 0 => by
    show aft (idn (tnd p).length) (idn p.length) = _
    rw [tnd_length]
    have := aft_idn (idn_ord p.length)
    rw [idn_length] at this; exact this
  | k + 1 => by
    rw [pwN_last (tnd_ord hp)]
    show aft (aft (pwN (tnd p) k) (tnd p)) (aft p (pwN p k)) = _
    rw [aft_aft (aft_ord hp (pwN_ord hp k) (pwN_length k).symm) (by rw [tnd_length, aft_length, pwN_length]), tnd_undoes hp (pwN_ord hp k) (pwN_length k).symm, pwN_undo hp k]
theorem pwN_undo' (hp : IsOrd p) (k : Nat) : aft (pwN p k) (pwN (tnd p) k) = idn p.length := by
  have := pwN_undo (tnd_ord hp) k
  rw [tnd_tnd hp, tnd_length] at this
  exact this
theorem pwI_length (k : Int) : (pwI p k).length = p.length := by unfold pwI; split <;> simp only [pwN_length, tnd_length]
theorem pwI_ord (hp : IsOrd p) (k : Int) : IsOrd (pwI p k) := by
  unfold pwI; split
  · exact pwN_ord hp _
  · exact pwN_ord (tnd_ord hp) _
theorem pwI_nat (k : Nat) : pwI p k = pwN p k := by unfold pwI; rw [if_pos (by omega), Int.toNat_natCast]
theorem pwI_neg (k : Nat) : pwI p (-(k : Int)) = pwN (tnd p) k := by
  unfold pwI
  by_cases h : k = 0
  · subst h; rw [if_pos (by omega)]; show idn p.length = idn (tnd p).length; rw [tnd_length]
  · rw [if_neg (by omega), show (- -(k : Int)).toNat = k by omega]
theorem idn_left {q : List Int} (hq : IsOrd q) {n : Nat} (h : q.length = n) : aft (idn n) q = q := by subst h; exact aft_idn hq
theorem idn_right {q : List Int} {n : Nat} (h : q.length = n) : aft q (idn n) = q := by subst h; exact idn_aft
/-- So many times and so many times more is both together. -/
theorem pwI_add (hp : IsOrd p) (j k : Int) : aft (pwI p j) (pwI p k) = pwI p (j + k) := by
  have ht := tnd_ord hp
  rcases Int.eq_nat_or_neg j with ⟨a, rfl | rfl⟩ <;> rcases Int.eq_nat_or_neg k with ⟨b, rfl | rfl⟩
  · rw [pwI_nat, pwI_nat, ← Int.natCast_add, pwI_nat, pwN_add hp]
  · rw [pwI_nat, pwI_neg]
    by_cases h : b ≤ a
    · obtain ⟨c, rfl⟩ : ∃ c, a = c + b := ⟨a - b, by omega⟩
      rw [show ((c + b : Nat) : Int) + -(b : Int) = (c : Int) by omega, pwI_nat, ← pwN_add hp, aft_aft (pwN_ord ht b) (by rw [pwN_length, pwN_length, tnd_length]), pwN_undo' hp, idn_right (pwN_length c)]
    · obtain ⟨c, rfl⟩ : ∃ c, b = a + c := ⟨b - a, by omega⟩
      rw [show (a : Int) + -((a + c : Nat) : Int) = -(c : Int) by omega, pwI_neg, ← pwN_add ht, ← aft_aft (pwN_ord ht c) (by rw [pwN_length, pwN_length]), pwN_undo' hp, idn_left (pwN_ord ht c) (by rw [pwN_length, tnd_length])]
  · rw [pwI_neg, pwI_nat]
    by_cases h : b ≤ a
    · obtain ⟨c, rfl⟩ : ∃ c, a = c + b := ⟨a - b, by omega⟩
      rw [show -((c + b : Nat) : Int) + (b : Int) = -(c : Int) by omega, pwI_neg, ← pwN_add ht, aft_aft (pwN_ord hp b) (by rw [pwN_length, pwN_length, tnd_length]), pwN_undo hp, idn_right (by rw [pwN_length, tnd_length])]
    · obtain ⟨c, rfl⟩ : ∃ c, b = a + c := ⟨b - a, by omega⟩
      rw [show -(a : Int) + ((a + c : Nat) : Int) = (c : Int) by omega, pwI_nat, ← pwN_add hp, ← aft_aft (pwN_ord hp c) (by rw [pwN_length, pwN_length]), pwN_undo hp, idn_left (pwN_ord hp c) (pwN_length c)]
  · rw [pwI_neg, pwI_neg, show -(a : Int) + -(b : Int) = -((a + b : Nat) : Int) by omega, pwI_neg, pwN_add ht]
theorem pwI_zero : pwI p 0 = idn p.length := pwI_nat 0
theorem pwI_one : pwI p 1 = p := (pwI_nat 1).trans pwN_one
theorem pwI_back : pwI p (-1) = tnd p := (pwI_neg 1).trans pwN_one
/-- Half as often, twice. -/
theorem pwI_half (hp : IsOrd p) (k : Int) : pwI p k = if k.tmod 2 = 1 then aft p (aft (pwI p (k.tdiv 2)) (pwI p (k.tdiv 2))) else if k.tmod 2 = -1 then aft (tnd p) (aft (pwI p (k.tdiv 2)) (pwI p (k.tdiv 2))) else aft (pwI p (k.tdiv 2)) (pwI p (k.tdiv 2)) := by
  have hd := Int.mul_tdiv_add_tmod k 2
  rw [pwI_add hp]
  by_cases h1 : k.tmod 2 = 1
  · rw [if_pos h1]
    have := pwI_add hp 1 (k.tdiv 2 + k.tdiv 2)
    rw [pwI_one] at this
    rw [this]; congr 1; omega
  · rw [if_neg h1]
    by_cases h2 : k.tmod 2 = -1
    · rw [if_pos h2]
      have := pwI_add hp (-1) (k.tdiv 2 + k.tdiv 2)
      rw [pwI_back] at this
      rw [this]; congr 1; omega
    · rw [if_neg h2]
      have : k.tmod 2 = 0 := by
        by_cases h0 : 0 ≤ k
        · rw [Int.tmod_eq_emod_of_nonneg h0] at *; omega
        · have e := Int.neg_tmod k 2
          rw [Int.tmod_eq_emod_of_nonneg (show 0 ≤ -k by omega)] at e; omega
      congr 1; omega
end
end Go.Proofs.Ytigichhcoflaiaa
