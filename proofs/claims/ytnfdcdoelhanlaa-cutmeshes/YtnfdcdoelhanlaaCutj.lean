/-
  Plain mathematics of two arrays joined: blocks of the one and of the other, in turn; nothing of the program.
-/
import Derived.Test.YtnfdcdoelhanlaaKpm
namespace Go.Proofs.Ytnfdcdoelhanlaa
open Go.RowKit
set_option linter.unusedVariables false

/-- How many cells stand one behind the other before an axis ahead of the given one goes on. -/
def blk (s : List Int) (x : Nat) : Int := prod (s.drop x)
theorem blk_eq {s : List Int} {x : Nat} (hx : x < s.length) : blk s x = nth s x * stp s x := by
  unfold blk stp
  rw [drop_nth s x hx]
  rfl
section
variable {x : Nat} {c c' : Bool} {s dz s' dz' : List Int}
theorem jn_same {k : Nat} (hl : s.length = s'.length) (hx : x < s.length) (ho : othB x s s' = true) : s' = s.set x (nth s' x) := by
  refine nth_ext (by simp [hl]) fun k hk => ?_
  rw [nth_set _ _ _ _ hx]
  split
  · rename_i e; rw [e]
  · rename_i e; exact (othB_iff.1 ho k (by omega) e).symm
theorem jn_stp (hl : s.length = s'.length) (hx : x < s.length) (ho : othB x s s' = true) : stp s' x = stp s x := by
  rw [jn_same (k := 0) hl hx ho, stp_set]
/-- The lengths: whole blocks of both. -/
theorem jn_lens (h : jnE x c s dz c' s' dz' = 0) : ∃ O A B : Nat, (A : Int) = blk s x ∧ (B : Int) = blk s' x ∧ (jnD x s dz s' dz').length = O * (A + B) ∧ ((jnD x s dz s' dz').length : Int) = prod (jnS x s s') ∧ (0 < A + B → dz.length = O * A ∧ dz'.length = O * B) ∧ (jnD x s dz s' dz').length ≤ 4096 ∧
    (∀ k j : Nat, k < O → j < A + B → nth (jnD x s dz s' dz') (k * (A + B) + j) = if j < A then nth dz (k * A + j) else nth dz' (k * B + (j - A))) := by
  obtain ⟨h1, h2, h3, h4, h5, h6, h7⟩ := jnZ.1 h
  have hz := errOf_zero.1 (flawE_zero h1).1
  have hz' := errOf_zero.1 (flawE_zero h2).1
  have hj := errOf_zero.1 h7
  have hd := (flawE_zero h1).2.1
  have hd' := (flawE_zero h2).2.1
  have e1 := blk_eq h4
  have e2 := blk_eq (s := s') (x := x) (by omega)
  rw [jn_stp h3 h4 h5] at e2
  have hR : 0 ≤ stp s x := (stp_60 (flawE_zero h1).1 x).1
  have hLa := (hz.2.1.nth x).1
  have hLb := (hz'.2.1.nth x).1
  have hO : 0 ≤ prod (s.take x) := prod_nonneg fun y hy => hz.2.1 y (List.mem_of_mem_take hy)
  have hA0 : 0 ≤ nth s x * stp s x := Int.mul_nonneg hLa hR
  have hB0 : 0 ≤ nth s' x * stp s x := Int.mul_nonneg hLb hR
  have hP := al_split (jnS x s s') (x := x) (by rw [jnS_length]; exact h4)
  have t1 : (jnS x s s').take x = s.take x := by
    unfold jnS
    rw [List.take_set]
    exact List.set_eq_of_length_le (by rw [List.length_take]; omega)
  have t2 : stp (jnS x s s') x = stp s x := stp_set _
  rw [t1, jnS_at h4, t2, Int.add_mul] at hP
  have hlen : ((jnD x s dz s' dz').length : Int) = prod (jnS x s s') := TA_len h7
  have hPa := al_split s h4
  have hPb := al_split s' (x := x) (by omega)
  have t3 : s'.take x = s.take x := by
    rw [jn_same (k := 0) h3 h4 h5, List.take_set]
    exact List.set_eq_of_length_le (by rw [List.length_take]; omega)
  rw [t3, jn_stp h3 h4 h5] at hPb
  obtain ⟨O, hOe⟩ : ∃ O : Nat, (O : Int) = prod (s.take x) := ⟨(prod (s.take x)).toNat, by omega⟩
  obtain ⟨A, hAe⟩ : ∃ A : Nat, (A : Int) = nth s x * stp s x := ⟨(nth s x * stp s x).toNat, by omega⟩
  obtain ⟨B, hBe⟩ : ∃ B : Nat, (B : Int) = nth s' x * stp s x := ⟨(nth s' x * stp s x).toNat, by omega⟩
  rw [← hOe, ← hAe, ← hBe] at hP
  rw [← hOe, ← hAe] at hPa
  rw [← hOe, ← hBe] at hPb
  have hlen2 : (jnD x s dz s' dz').length = O * (A + B) := by
    have : ((jnD x s dz s' dz').length : Int) = ((O * (A + B) : Nat) : Int) := by rw [hlen, hP]; simp
    exact_mod_cast this
  refine ⟨O, A, B, by rw [e1]; exact hAe, by rw [e2]; exact hBe, hlen2, hlen, fun _ => ⟨?_, ?_⟩, by omega, fun k j hk hj0 => ?_⟩
  · have : (dz.length : Int) = ((O * A : Nat) : Int) := by rw [hd, hPa]; simp
    exact_mod_cast this
  · have : (dz'.length : Int) = ((O * B : Nat) : Int) := by rw [hd', hPb]; simp
    exact_mod_cast this
  · have hlt : k * (A + B) + j < O * (A + B) := by
      have : (k + 1) * (A + B) ≤ O * (A + B) := Nat.mul_le_mul_right _ hk
      rw [Nat.add_mul] at this
      omega
    have hi : k * (A + B) + j < (prod (jnS x s s')).toNat := by omega
    obtain ⟨ht, hp⟩ := cr_in h7 hi
    unfold jnD
    rw [TA_nth hi]
    generalize cr (jnS x s s') (k * (A + B) + j) = t at ht hp
    have hidx := idx_at ht (x := x) (by rw [jnS_length]; exact h4)
    have hpo := fun K v => place_other K v ht (x := x) (by rw [jnS_length]; exact h4)
    have hpos := al_pos ht
    have hRp : 0 < stp s x := by have := stp_pos hpos x; rwa [t2] at this
    have htx := ins_at ht (x := x) (by rw [jnS_length]; exact h4)
    rw [jnS_at h4] at htx
    rw [t2, jnS_at h4, hp] at hidx
    have hl' : t.length = s.length := by have := insB_len ht; rwa [jnS_length] at this
    obtain ⟨L, hL⟩ : ∃ L, L = nth s x + nth s' x := ⟨_, rfl⟩
    obtain ⟨R, hRe⟩ : ∃ R, R = stp s x := ⟨_, rfl⟩
    have hLp : 0 < L := by omega
    have hT : ((A + B : Nat) : Int) = L * R := by rw [hL, hRe, Int.add_mul]; omega
    have hpk : ((k * (A + B) + j : Nat) : Int) = ((k : Int) * L + (j : Int) / R) * R + (j : Int) % R := by
      have : (j : Int) / R * R + (j : Int) % R = j := by rw [Int.mul_comm]; exact Int.mul_ediv_add_emod _ _
      have e : ((k * (A + B) + j : Nat) : Int) = (k : Int) * ((A + B : Nat) : Int) + j := by simp
      rw [e, hT, Int.add_mul, Int.mul_assoc]; omega
    have hj1 : 0 ≤ (j : Int) / R := Int.ediv_nonneg (by omega) (by omega)
    have hj2 : (j : Int) / R < L := by
      have : (j : Int) < L * R := by omega
      exact (Int.ediv_lt_iff_lt_mul (by omega)).2 this
    have hj3 := Int.emod_nonneg (j : Int) (show R ≠ 0 by omega)
    have hj4 := Int.emod_lt_of_pos (j : Int) (show 0 < R by omega)
    obtain ⟨d1, d2, d3, d4⟩ := div3 (a := (k : Int)) hj1 hj2 hj3 hj4
    have hq : nth t x = (j : Int) / R := by rw [← hidx, ← hL, ← hRe, hpk, d1, d4]
    have hjj : (j : Int) / R * R + (j : Int) % R = j := by rw [Int.mul_comm]; exact Int.mul_ediv_add_emod _ _
    have hpl : ∀ K v, place ((jnS x s s').set x K) (t.set x v) = k * (K * R) + v * R + (j : Int) % R := fun K v => by
      rw [hpo K v, t2, jnS_at h4, hp, ← hL, ← hRe, hpk, d1, d2, d3]
    unfold jnC cel
    have hiff : nth t x < nth s x ↔ j < A := by
      rw [hq, Int.ediv_lt_iff_lt_mul (by omega), hRe, ← hAe]
      omega
    by_cases hja : j < A
    · rw [if_pos (hiff.2 hja), if_pos hja]
      congr 1
      have hh := hpl (nth s x) (nth t x)
      have s1 : (jnS x s s').set x (nth s x) = s := by unfold jnS; rw [set_set]; exact set_get h4 rfl
      rw [s1, set_get (by omega) rfl, hq, hRe, ← hAe, ← hRe, Int.add_assoc, hjj] at hh
      rw [hh]
      have : (k : Int) * (A : Int) + (j : Int) = ((k * A + j : Nat) : Int) := by simp
      rw [this, Int.toNat_natCast]
    · rw [if_neg (fun hc => hja (hiff.1 hc)), if_neg hja]
      congr 1
      have hh := hpl (nth s' x) (nth t x - nth s x)
      have s1 : (jnS x s s').set x (nth s' x) = s' := by unfold jnS; rw [set_set]; exact (jn_same (k := 0) h3 h4 h5).symm
      rw [s1, hq, Int.sub_mul, hRe, ← hAe, ← hBe, ← hRe] at hh
      rw [hq, hh]
      have : (k : Int) * (B : Int) + ((j : Int) / R * R - A) + (j : Int) % R = ((k * B + (j - A) : Nat) : Int) := by
        have : ((k * B + (j - A) : Nat) : Int) = (k : Int) * (B : Int) + ((j : Int) - A) := by
          rw [Int.natCast_add, Int.natCast_mul]; omega
        rw [this]; omega
      rw [this, Int.toNat_natCast]
end
/-- One block of the one and one of the other, put behind what is there. -/
theorem jn_take {D X Y : List Int} {O A B k : Nat} (hD : D.length = O * (A + B)) (hX : X.length = O * A) (hY : Y.length = O * B) (hk : k < O)
    (h : ∀ k j : Nat, k < O → j < A + B → nth D (k * (A + B) + j) = if j < A then nth X (k * A + j) else nth Y (k * B + (j - A))) :
    D.take ((k + 1) * (A + B)) = D.take (k * (A + B)) ++ (X.drop (k * A)).take A ++ (Y.drop (k * B)).take B := by
  have b0 : (k + 1) * (A + B) ≤ O * (A + B) := Nat.mul_le_mul_right _ hk
  have b1 : (k + 1) * A ≤ O * A := Nat.mul_le_mul_right _ hk
  have b2 : (k + 1) * B ≤ O * B := Nat.mul_le_mul_right _ hk
  have m0 : (k + 1) * (A + B) = k * (A + B) + (A + B) := by rw [Nat.add_mul, Nat.one_mul]
  have m1 : (k + 1) * A = k * A + A := by rw [Nat.add_mul, Nat.one_mul]
  have m2 : (k + 1) * B = k * B + B := by rw [Nat.add_mul, Nat.one_mul]
  have l0 : (D.take (k * (A + B))).length = k * (A + B) := by rw [List.length_take]; omega
  have l1 : ((X.drop (k * A)).take A).length = A := by rw [List.length_take, List.length_drop]; omega
  have l2 : ((Y.drop (k * B)).take B).length = B := by rw [List.length_take, List.length_drop]; omega
  refine nth_ext (by rw [List.length_take, List.length_append, List.length_append, l0, l1, l2]; omega) fun j hj => ?_
  rw [List.length_take] at hj
  rw [nth_take _ _ _ (by omega)]
  by_cases j0 : j < k * (A + B)
  · rw [nth_append_left _ _ _ (by rw [List.length_append]; omega), nth_append_left _ _ _ (by omega), nth_take _ _ _ j0]
  · obtain ⟨i, rfl⟩ : ∃ i, j = k * (A + B) + i := ⟨j - k * (A + B), by omega⟩
    rw [h k i hk (by omega)]
    by_cases ja : i < A
    · rw [if_pos ja, nth_append_left _ _ _ (by rw [List.length_append]; omega)]
      unfold nth
      simp only [List.getD_eq_getElem?_getD]
      rw [List.getElem?_append_right (by omega), l0, Nat.add_sub_cancel_left, List.getElem?_take, if_pos ja, List.getElem?_drop]
    · rw [if_neg ja]
      unfold nth
      simp only [List.getD_eq_getElem?_getD]
      rw [List.getElem?_append_right (by rw [List.length_append]; omega), List.length_append, l0, l1, List.getElem?_take, if_pos (by omega), List.getElem?_drop]
      congr 2
      omega
end Go.Proofs.Ytnfdcdoelhanlaa
