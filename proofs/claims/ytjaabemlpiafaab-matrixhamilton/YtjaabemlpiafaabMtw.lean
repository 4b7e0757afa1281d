/-
  Plain mathematics of matrices of numbers that run round.
-/
import Derived.Test.YtjaabemlpiafaabMth
namespace Go.Proofs.Ytjaabemlpiafaab
open Go.RowKit
set_option linter.unusedVariables false

/-- The same but for what runs round. -/
def cg (a b : Int) : Prop := wrap64 a = wrap64 b
section
variable {a b c d : Int}
theorem cg.rfl' (a : Int) : cg a a := rfl
theorem cg.symm (h : cg a b) : cg b a := Eq.symm h
theorem cg.trans (h : cg a b) (h' : cg b c) : cg a c := Eq.trans h h'
theorem cg_w (a : Int) : cg (wrap64 a) a := w_w a
theorem cg.add (h : cg a b) (h' : cg c d) : cg (a + c) (b + d) := by unfold cg at *; rw [← w_addl, h, w_addl, ← w_addr, h', w_addr]
theorem cg.sub (h : cg a b) (h' : cg c d) : cg (a - c) (b - d) := by unfold cg at *; rw [← w_subl, h, w_subl, ← w_subr, h', w_subr]
theorem cg.mul (h : cg a b) (h' : cg c d) : cg (a * c) (b * d) := by unfold cg at *; rw [← w_mull, h, w_mull, ← w_mulr, h', w_mulr]
theorem cg.neg (h : cg a b) : cg (-a) (-b) := by unfold cg at *; rw [← w_neg, h, w_neg]
theorem cg.in (h : cg a b) (ha : In64 a) (hb : In64 b) : a = b := by unfold cg at h; rwa [ha.same, hb.same] at h
theorem cg.sm : ∀ {n : Nat} {g h : Nat → Int}, (∀ i, i < n → cg (g i) (h i)) → cg (sm n g) (Go.Proofs.Ytjaabemlpiafaab.sm n h)
  | 0, _, _, _ => rfl
  | n + 1, _, _, h => (cg.sm fun i hi => h i (by omega)).add (h n (by omega))
theorem cg.dt : ∀ {n : Nat} {A B : Mx}, (∀ i, i < n → ∀ j, j < n → cg (A i j) (B i j)) → cg (dt n A) (Go.Proofs.Ytjaabemlpiafaab.dt n B)
  | 0, _, _, _ => rfl
  | n + 1, A, B, h => cg.sm fun i hi => ((cg.rfl' (sg i)).mul (h 0 (by omega) i hi)).mul (cg.dt fun j hj k hk => h (j + 1) (by omega) _ (skp_bd hk))
theorem cg.mm {n : Nat} {A A' B B' : Mx} (hA : ∀ i, i < n → ∀ j, j < n → cg (A i j) (A' i j)) (hB : ∀ i, i < n → ∀ j, j < n → cg (B i j) (B' i j)) : ∀ i, i < n → ∀ j, j < n → cg (mm n A B i j) (Go.Proofs.Ytjaabemlpiafaab.mm n A' B' i j) := fun i hi j hj => cg.sm fun k hk => (hA i hi k hk).mul (hB k hk j hj)
theorem cg.ad {n : Nat} {A B : Mx} (h : ∀ i, i < n + 1 → ∀ j, j < n + 1 → cg (A i j) (B i j)) {i j : Nat} (hi : i < n + 1) (hj : j < n + 1) : cg (ad n A i j) (Go.Proofs.Ytjaabemlpiafaab.ad n B i j) :=
  (cg.rfl' _).mul (cg.dt fun r hr c hc => h _ (skp_bd hr) _ (skp_bd hc))
theorem cg.chc {n : Nat} {A B : Mx} (h : ∀ i, i < n → ∀ j, j < n → cg (A i j) (B i j)) (k : Nat) : cg (chc n A k) (Go.Proofs.Ytjaabemlpiafaab.chc n B k) := cg.sm fun s _ => by
  by_cases e : cnt (bt s) n = k
  · rw [if_pos e, if_pos e]
    exact (cg.rfl' _).mul (cg.dt fun r hr c hc => h _ (sel_in (by omega)).1 _ (sel_in (by omega)).1)
  · rw [if_neg e, if_neg e]; exact cg.rfl' 0
theorem cg.pw {n : Nat} {A B : Mx} (h : ∀ i, i < n → ∀ j, j < n → cg (A i j) (B i j)) : ∀ k, ∀ i, i < n → ∀ j, j < n → cg (pwM n A k i j) (pwM n B k i j)
  | 0, i, _, j, _ => cg.rfl' _
  | k + 1, i, hi, j, hj => cg.mm (cg.pw h k) h i hi j hj
end
/-- What goes with an odd number to 1. -/
theorem odd_step {x d : Int} {i : Nat} (hd : d % 2 = 1) (h : ∃ q, x * d - 1 = 2 ^ i * q) : ∃ e : Int, (e = 0 ∨ e = 2 ^ i) ∧ ∃ q, (x + e) * d - 1 = 2 ^ (i + 1) * q := by
  obtain ⟨q, hq⟩ := h
  obtain ⟨r, hr⟩ : ∃ r, d = 2 * r + 1 := ⟨d / 2, by omega⟩
  by_cases h2 : q % 2 = 0
  · obtain ⟨p, hp⟩ : ∃ p, q = 2 * p := ⟨q / 2, by omega⟩
    exact ⟨0, .inl rfl, p, by rw [Int.add_zero, hq, hp, Int.pow_succ, Int.mul_assoc]⟩
  · obtain ⟨p, hp⟩ : ∃ p, q = 2 * p + 1 := ⟨q / 2, by omega⟩
    refine ⟨2 ^ i, .inr rfl, p + r + 1, ?_⟩
    rw [Int.pow_succ, Int.add_mul, show x * d + 2 ^ i * d - 1 = (x * d - 1) + 2 ^ i * d by omega, hq, hp, hr]
    generalize (2 : Int) ^ i = t
    grind
theorem odd_inv {d : Int} (hd : d % 2 = 1) : ∀ i : Nat, ∃ x q : Int, x * d - 1 = 2 ^ i * q
  | 0 => ⟨0, -1, by rw [Int.zero_mul, Int.pow_zero]; omega⟩
  | i + 1 => by
    obtain ⟨x, h⟩ := odd_inv hd i
    obtain ⟨e, _, h'⟩ := odd_step hd h
    exact ⟨x + e, h'⟩
theorem cg_one {x d : Int} (h : ∃ q, x * d - 1 = 2 ^ 64 * q) : cg (x * d) 1 := by
  obtain ⟨q, hq⟩ := h
  exact w_cg q (by rw [hq]; rfl)
theorem cg_even {a b : Int} (h : cg a b) : a % 2 = b % 2 := by
  obtain ⟨k, hk⟩ := w_gc h
  omega
theorem odd_only {x y d : Int} (hx : cg (x * d) 1) (hy : cg (y * d) 1) : cg x y := by
  have h1 : cg (x * (y * d)) (x * 1) := (cg.rfl' x).mul hy
  have h2 : cg (y * (x * d)) (y * 1) := (cg.rfl' y).mul hx
  rw [Int.mul_one] at h1 h2
  rw [show y * (x * d) = x * (y * d) by rw [Int.mul_left_comm]] at h2
  exact h1.symm.trans h2
/-- Of odd determinants: the inverse, and no other. -/
theorem inv_right {n : Nat} {A : Mx} {o : Int} (ho : cg (o * dt (n + 1) A) 1) {i k : Nat} (hi : i < n + 1) (hk : k < n + 1) : cg (mm (n + 1) A (fun i j => ad n A i j * o) i k) (un i k) := by
  have e : mm (n + 1) A (fun i j => ad n A i j * o) i k = mm (n + 1) A (ad n A) i k * o := by
    show (sm (n + 1) fun j => A i j * (ad n A j k * o)) = _
    rw [show mm (n + 1) A (ad n A) i k = sm (n + 1) fun j => A i j * ad n A j k from rfl, ← sm_mulr]
    exact sm_congr fun j _ => (Int.mul_assoc _ _ _).symm
  rw [e, ad_right n A hi hk]
  by_cases h : i = k
  · subst h
    rw [if_pos rfl, show un i i = 1 from one_at i, Int.mul_comm]
    exact ho
  · rw [if_neg h, Int.zero_mul, show un i k = 0 from one_ne (fun e => h e.symm)]
    exact cg.rfl' 0
theorem inv_left {n : Nat} {A : Mx} {o : Int} (ho : cg (o * dt (n + 1) A) 1) {i k : Nat} (hi : i < n + 1) (hk : k < n + 1) : cg (mm (n + 1) (fun i j => ad n A i j * o) A i k) (un i k) := by
  have e : mm (n + 1) (fun i j => ad n A i j * o) A i k = mm (n + 1) (ad n A) A i k * o := by
    show (sm (n + 1) fun j => ad n A i j * o * A j k) = _
    rw [show mm (n + 1) (ad n A) A i k = sm (n + 1) fun j => ad n A i j * A j k from rfl, ← sm_mulr]
    exact sm_congr fun j _ => by rw [Int.mul_assoc, Int.mul_comm o, Int.mul_assoc]
  rw [e, ad_left n A hi hk]
  by_cases h : i = k
  · subst h
    rw [if_pos rfl, show un i i = 1 from one_at i, Int.mul_comm]
    exact ho
  · rw [if_neg h, Int.zero_mul, show un i k = 0 from one_ne (fun e => h e.symm)]
    exact cg.rfl' 0
theorem inv_only {n : Nat} {A B C : Mx} (hB : ∀ i, i < n → ∀ k, k < n → cg (mm n B A i k) (un i k)) (hC : ∀ i, i < n → ∀ k, k < n → cg (mm n A C i k) (un i k)) : ∀ i, i < n → ∀ k, k < n → cg (B i k) (C i k) := fun i hi k hk => by
  have h1 : cg (mm n (mm n B A) C i k) (mm n un C i k) := cg.mm hB (fun _ _ _ _ => cg.rfl' _) i hi k hk
  have h2 : cg (mm n B (mm n A C) i k) (mm n B un i k) := cg.mm (fun _ _ _ _ => cg.rfl' _) hC i hi k hk
  rw [mm_un C hi k] at h1
  rw [un_mm B i hk, ← mm_assoc] at h2
  exact h2.symm.trans h1
end Go.Proofs.Ytjaabemlpiafaab
