/-
  Plain mathematics of ranks, digit by digit, as the program reckons them; nothing of the program.
-/
import Derived.Test.YtcblakcaoecgpaaDoorPrml
import Derived.Test.YtcblakcaoecgpaaDoorPrmg
namespace Go.Proofs.YtcblakcaoecgpaaDoor
open Go.RowKit
set_option linter.unusedVariables false

/-- How many less numbers stand behind a place. -/
def dgN (p : List Int) (j : Nat) : Nat := lsN (nth p j) (p.drop (j + 1))
/-- The digits of the first places, and one that is being counted. -/
def dgL (p : List Int) (i c : Nat) : List Int := byF 12 fun j => if j < i then (dgN p j : Int) else if j = i then (c : Int) else 0
theorem dgL_length (p : List Int) (i c : Nat) : (dgL p i c).length = 12 := byF_length _ _
theorem dgL_nth {p : List Int} {i c j : Nat} (h : j < 12) : nth (dgL p i c) j = if j < i then (dgN p j : Int) else if j = i then (c : Int) else 0 := by unfold dgL; rw [byF_nth h]
theorem dgL_one {p : List Int} {i : Nat} (c : Nat) (hi : i < 12) : (dgL p i c).set i ((c + 1 : Nat) : Int) = dgL p i (c + 1) := by
  refine nth_ext (by rw [List.length_set, dgL_length, dgL_length]) fun j hj => ?_
  rw [List.length_set, dgL_length] at hj
  rw [nth_set _ _ _ _ (by rw [dgL_length]; exact hi), dgL_nth hj, dgL_nth hj]
  by_cases e : j = i
  · rw [if_pos e, if_neg (by omega), if_pos e]
  · rw [if_neg e, if_neg e]
    by_cases h : j < i
    · rw [if_pos h, if_pos h]
    · rw [if_neg h, if_neg h, if_neg e]
theorem dgL_next (p : List Int) (i : Nat) : dgL p i (dgN p i) = dgL p (i + 1) 0 := by
  refine byF_ext fun j _ => ?_
  by_cases h : j < i
  · rw [if_pos h, if_pos (by omega)]
  · rw [if_neg h]
    by_cases e : j = i
    · rw [if_pos e, if_pos (by omega), e]
    · rw [if_neg e, if_neg (by omega)]
      split <;> rfl
theorem nth_rep0 (n j : Nat) : nth (List.replicate n 0) j = 0 := by
  by_cases h : j < n
  · simp [nth, h]
  · simp [nth, Nat.le_of_not_lt h]
theorem dgL_zero (p : List Int) : dgL p 0 0 = List.replicate 12 0 := nth_ext (by rw [dgL_length]; simp) fun j hj => by
  rw [dgL_length] at hj
  rw [dgL_nth hj, if_neg (by omega), nth_rep0]
  split <;> rfl
theorem lsN_take_next {x : Int} {l : List Int} {j : Nat} (h : j < l.length) : lsN x (l.take (j + 1)) = lsN x (l.take j) + if nth l j < x then 1 else 0 := by
  unfold lsN
  rw [List.take_succ_eq_append_getElem h, ← nth_get l j h, List.countP_append, List.countP_singleton]
  simp
theorem nth_drop (p : List Int) (i j : Nat) : nth (p.drop i) j = nth p (i + j) := by simp [nth]
theorem drop_cons {p : List Int} {i : Nat} (h : i < p.length) : p.drop i = nth p i :: p.drop (i + 1) := by
  rw [nth_get p i h]; exact List.drop_eq_getElem_cons h
/-- The rank, as far as the first digits go. -/
def rkT (p : List Int) : Nat → Nat
  | 0 => 0
  | i + 1 => rkT p i * (p.length - i) + dgN p i
theorem rkT_rk (p : List Int) : ∀ i, i ≤ p.length → rkT p i * fac (p.length - i) + rk (p.drop i) = rk p
  | 0, _ => by simp [rkT]
  | i + 1, h => by
    have ih := rkT_rk p i (by omega)
    rw [drop_cons (show i < p.length by omega)] at ih
    obtain ⟨m, hm⟩ : ∃ m, p.length - i = m + 1 := ⟨p.length - i - 1, by omega⟩
    have e1 : p.length - (i + 1) = m := by omega
    have e2 : (p.drop (i + 1)).length = m := by rw [List.length_drop]; omega
    have e3 : rk (nth p i :: p.drop (i + 1)) = dgN p i * fac m + rk (p.drop (i + 1)) := by rw [← e2]; rfl
    rw [e3, hm] at ih
    have e4 : fac (m + 1) = (m + 1) * fac m := rfl
    rw [e4] at ih
    rw [e1]
    show (rkT p i * (p.length - i) + dgN p i) * fac m + _ = _
    rw [hm, Nat.add_mul, Nat.mul_assoc]
    omega
theorem rkT_all (p : List Int) : rkT p p.length = rk p := by
  have h := rkT_rk p p.length (Nat.le_refl _)
  rw [Nat.sub_self, List.drop_length] at h
  simp only [fac, rk, Nat.mul_one, Nat.add_zero] at h
  exact h
theorem fac_mono : ∀ {a b : Nat}, a ≤ b → fac a ≤ fac b
  | a, 0, h => by rw [show a = 0 by omega]; exact Nat.le_refl _
  | a, b + 1, h => by
    by_cases e : a = b + 1
    · rw [e]; exact Nat.le_refl _
    · exact Nat.le_trans (fac_mono (show a ≤ b by omega)) (Nat.le_mul_of_pos_left _ (by omega))
theorem fac_twelve : fac 12 = 479001600 := by decide
theorem rkT_small {p : List Int} (h : p.length ≤ 12) {i : Nat} (hi : i ≤ p.length) : rkT p i < 479001600 := by
  have h1 := rkT_rk p i hi
  have h2 := rk_lt p
  have h3 := fac_mono h
  rw [fac_twelve] at h3
  have h4 : rkT p i ≤ rkT p i * fac (p.length - i) := Nat.le_mul_of_pos_right _ (fac_pos _)
  omega
theorem dgN_small {p : List Int} (h : p.length ≤ 12) (j : Nat) : dgN p j ≤ 12 := by
  unfold dgN
  have := lsN_le (nth p j) (p.drop (j + 1))
  rw [List.length_drop] at this
  omega
/-! ### The digits of a rank -/
def ugK (n : Nat) (k : Int) (q : Nat) : Int := k.tdiv (fac (n - q) : Int)
def ugD (n : Nat) (k : Int) (j : Nat) : Int := (ugK n k (j + 1)).tmod ((n - j : Nat) : Int)
def ugL (n : Nat) (k : Int) (q : Nat) : List Int := byF 12 fun j => if q ≤ j ∧ j < n then ugD n k j else 0
theorem ugL_length (n : Nat) (k : Int) (q : Nat) : (ugL n k q).length = 12 := byF_length _ _
theorem ugL_nth {n : Nat} {k : Int} {q j : Nat} (h : j < 12) : nth (ugL n k q) j = if q ≤ j ∧ j < n then ugD n k j else 0 := by unfold ugL; rw [byF_nth h]
theorem ugL_start (n : Nat) (k : Int) : ugL n k n = List.replicate 12 0 := nth_ext (by rw [ugL_length]; simp) fun j hj => by
  rw [ugL_length] at hj
  rw [ugL_nth hj, if_neg (by omega), nth_rep0]
theorem ugL_next {n : Nat} (k : Int) {q : Nat} (hn : n ≤ 12) (hq : q < n) : (ugL n k (q + 1)).set q (ugD n k q) = ugL n k q := by
  refine nth_ext (by rw [List.length_set, ugL_length, ugL_length]) fun j hj => ?_
  rw [List.length_set, ugL_length] at hj
  rw [nth_set _ _ _ _ (by rw [ugL_length]; omega), ugL_nth hj, ugL_nth hj]
  by_cases e : j = q
  · rw [if_pos e, if_pos (by omega), e]
  · rw [if_neg e]
    by_cases h : q ≤ j ∧ j < n
    · rw [if_pos h, if_pos (by omega)]
    · rw [if_neg h, if_neg (by omega)]
theorem ugK_start (n : Nat) (k : Int) : ugK n k n = k := by unfold ugK; rw [Nat.sub_self]; simp [fac]
theorem tdiv_mul9 (k : Int) (a b : Nat) : (k.tdiv (a : Int)).tdiv (b : Int) = k.tdiv ((a : Int) * (b : Int)) := by
  have hp : ∀ k : Int, 0 ≤ k → (k.tdiv (a : Int)).tdiv (b : Int) = k.tdiv ((a : Int) * (b : Int)) := fun k h => by
    have h1 : 0 ≤ k / (a : Int) := Int.ediv_nonneg h (by omega)
    rw [Int.tdiv_eq_ediv_of_nonneg h, Int.tdiv_eq_ediv_of_nonneg h1, Int.tdiv_eq_ediv_of_nonneg h, Int.ediv_ediv_of_nonneg (by omega)]
  by_cases h : 0 ≤ k
  · exact hp k h
  · have := hp (-k) (by omega)
    rw [Int.neg_tdiv, Int.neg_tdiv, Int.neg_tdiv] at this
    omega
theorem ugK_next {n : Nat} (k : Int) {q : Nat} (hq : q < n) : (ugK n k (q + 1)).tdiv ((n - q : Nat) : Int) = ugK n k q := by
  unfold ugK
  obtain ⟨m, hm⟩ : ∃ m, n - q = m + 1 := ⟨n - q - 1, by omega⟩
  rw [show n - (q + 1) = m by omega, hm]
  have e : ((fac (m + 1) : Nat) : Int) = (fac m : Int) * ((m + 1 : Nat) : Int) := by
    show (((m + 1) * fac m : Nat) : Int) = _
    rw [Int.natCast_mul, Int.mul_comm]
  rw [e]
  exact tdiv_mul9 k (fac m) (m + 1)
theorem tdiv_in {k : Int} {b : Nat} (hk : In64 k) (hb : 0 < b) : In64 (k.tdiv (b : Int)) := by
  unfold In64 at *
  by_cases h : 0 ≤ k
  · have h1 := Int.tdiv_nonneg h (show (0 : Int) ≤ (b : Int) by omega)
    have h2 : k.tdiv (b : Int) ≤ k := by
      rw [Int.tdiv_eq_ediv_of_nonneg h]
      exact Int.ediv_le_self _ h
    omega
  · have h1 := Int.tdiv_nonneg (a := -k) (by omega) (show (0 : Int) ≤ (b : Int) by omega)
    have h2 : (-k).tdiv (b : Int) ≤ -k := by
      rw [Int.tdiv_eq_ediv_of_nonneg (by omega)]
      exact Int.ediv_le_self _ (by omega)
    rw [Int.neg_tdiv] at h1 h2
    omega
theorem ugK_in {n : Nat} {k : Int} (q : Nat) (hk : In64 k) : In64 (ugK n k q) := tdiv_in hk (fac_pos _)
/-- What is too much. -/
theorem ugK_rest {n : Nat} {k : Int} (h : 0 ≤ k) : ugK n k 0 ≠ 0 ↔ (fac n : Int) ≤ k := by
  unfold ugK
  rw [Nat.sub_zero, Int.tdiv_eq_ediv_of_nonneg h]
  have hf : (0 : Int) < (fac n : Int) := by have := fac_pos n; omega
  constructor
  · intro h1
    by_cases h2 : (fac n : Int) ≤ k
    · exact h2
    · exact absurd (Int.ediv_eq_zero_of_lt h (by omega)) h1
  · intro h1 h2
    have h3 := Int.ediv_mul_le k (show (fac n : Int) ≠ 0 by omega)
    have h4 := Int.lt_ediv_add_one_mul_self k hf
    rw [h2] at h4
    omega
/-! ### The order of a rank -/
def urC (n k i : Nat) : Nat := (k / fac (n - 1 - i)) % (n - i)
theorem urC_lt {n k i : Nat} (h : i < n) : urC n k i < n - i := Nat.mod_lt _ (by omega)
theorem ugD_nat {n k j : Nat} (h : j < n) : ugD n (k : Int) j = (urC n k j : Int) := by
  unfold ugD ugK urC
  rw [show n - (j + 1) = n - 1 - j by omega, Int.tdiv_eq_ediv_of_nonneg (by omega), ← Int.natCast_ediv, Int.tmod_eq_emod_of_nonneg (Int.natCast_nonneg _), ← Int.natCast_emod]
def urR (n k : Nat) : Nat → List Int
  | 0 => idn n
  | i + 1 => (urR n k i).eraseIdx (urC n k i)
theorem urR_length {n k : Nat} : ∀ {i : Nat}, i ≤ n → (urR n k i).length = n - i
  | 0, _ => by simp [urR, idn_length]
  | i + 1, h => by
    have ih := urR_length (n := n) (k := k) (i := i) (by omega)
    have hc := urC_lt (n := n) (k := k) (i := i) (by omega)
    simp only [urR]
    rw [List.length_eraseIdx, ih, if_pos hc]; omega
def urO (n k i : Nat) : List Int := (List.range i).map fun j => nth (urR n k j) (urC n k j)
theorem urO_length (n k i : Nat) : (urO n k i).length = i := by simp [urO]
theorem urO_next (n k i : Nat) : urO n k (i + 1) = urO n k i ++ [nth (urR n k i) (urC n k i)] := by
  unfold urO
  rw [List.range_succ, List.map_append]; rfl
theorem ur_steps {n k : Nat} (hk : k < fac n) : ∀ i, i ≤ n → ur n (idn n) k = urO n k i ++ ur (n - i) (urR n k i) (k % fac (n - i))
  | 0, _ => by simp only [urO, urR, List.range_zero, List.map_nil, List.nil_append, Nat.sub_zero]; rw [Nat.mod_eq_of_lt hk]
  | i + 1, h => by
    obtain ⟨m, hm⟩ : ∃ m, n - i = m + 1 := ⟨n - i - 1, by omega⟩
    have e1 : (k % fac (m + 1)) / fac m = urC n k i := by
      unfold urC
      rw [show n - 1 - i = m by omega, hm]
      show (k % ((m + 1) * fac m)) / fac m = _
      rw [Nat.mul_comm, Nat.mod_mul_right_div_self]
    have e2 : (k % fac (m + 1)) % fac m = k % fac m := by
      show (k % ((m + 1) * fac m)) % fac m = _
      exact Nat.mod_mod_of_dvd _ (Nat.dvd_mul_left _ _)
    rw [ur_steps hk i (by omega), hm, urO_next, show n - (i + 1) = m by omega]
    simp only [ur, urR, e1, e2]
    simp
theorem ur_all {n k : Nat} (hk : k < fac n) : urO n k n = ur n (idn n) k := by
  rw [ur_steps hk n (Nat.le_refl _), Nat.sub_self]
  simp [ur]
end Go.Proofs.YtcblakcaoecgpaaDoor
