/-
  Plain mathematics of what a mask keeps, told in order; nothing of the program.
-/
import Derived.Test.YtnfdcdoelhanlaaCutq
namespace Go.Proofs.Ytnfdcdoelhanlaa
open Go.RowKit
set_option linter.unusedVariables false

/-- How many cells ahead of place j are kept. -/
def kc (m : List Int) (L R : Int) (j : Int) : Int := j / R / L * (sumI m * R) + rnk m (j / R % L).toNat * R + nth m (j / R % L).toNat * (j % R)
theorem div3 {a r b L R : Int} (hr0 : 0 ≤ r) (hr : r < L) (hb0 : 0 ≤ b) (hb : b < R) : ((a * L + r) * R + b) / R = a * L + r ∧ ((a * L + r) * R + b) % R = b ∧ (a * L + r) / L = a ∧ (a * L + r) % L = r := by
  refine ⟨?_, ?_, ?_, ?_⟩
  · rw [Int.add_comm, Int.add_mul_ediv_right _ _ (by omega), Int.ediv_eq_zero_of_lt hb0 hb]; omega
  · rw [Int.add_comm, Int.add_mul_emod_self_right]; exact Int.emod_eq_of_lt hb0 hb
  · rw [Int.add_comm, Int.add_mul_ediv_right _ _ (by omega), Int.ediv_eq_zero_of_lt hr0 hr]; omega
  · rw [Int.add_comm, Int.add_mul_emod_self_right]; exact Int.emod_eq_of_lt hr0 hr
theorem kc_at {m : List Int} {a r b L R : Int} (hr0 : 0 ≤ r) (hr : r < L) (hb0 : 0 ≤ b) (hb : b < R) : kc m L R ((a * L + r) * R + b) = a * (sumI m * R) + rnk m r.toNat * R + nth m r.toNat * b := by
  obtain ⟨h1, h2, h3, h4⟩ := div3 (a := a) hr0 hr hb0 hb
  unfold kc
  rw [h1, h2, h3, h4]
theorem kc_parts (j : Int) {L R : Int} (hL : 0 < L) (hR : 0 < R) : j = (j / R / L * L + j / R % L) * R + j % R := by
  have h1 : j / R / L * L + j / R % L = j / R := by rw [Int.mul_comm]; exact Int.mul_ediv_add_emod _ _
  rw [h1, Int.mul_comm]
  exact (Int.mul_ediv_add_emod _ _).symm
theorem kc_next {m : List Int} {L R j : Int} (hm : (m.length : Int) = L) (hL : 0 < L) (hR : 0 < R) : kc m L R (j + 1) = kc m L R j + nth m (j / R % L).toNat := by
  have hj := kc_parts j hL hR
  obtain ⟨a, ha⟩ : ∃ a, a = j / R / L := ⟨_, rfl⟩
  obtain ⟨r, hr⟩ : ∃ r, r = j / R % L := ⟨_, rfl⟩
  obtain ⟨b, hb⟩ : ∃ b, b = j % R := ⟨_, rfl⟩
  have r0 : 0 ≤ r := by rw [hr]; exact Int.emod_nonneg _ (by omega)
  have r1 : r < L := by rw [hr]; exact Int.emod_lt_of_pos _ hL
  have b0 : 0 ≤ b := by rw [hb]; exact Int.emod_nonneg _ (by omega)
  have b1 : b < R := by rw [hb]; exact Int.emod_lt_of_pos _ hR
  rw [← ha, ← hr, ← hb] at hj
  rw [← hr]
  clear ha hr hb
  subst hj
  rw [kc_at r0 r1 b0 b1]
  by_cases hc : b + 1 < R
  · rw [Int.add_assoc, kc_at r0 r1 (by omega) hc, Int.mul_add, Int.mul_one]; omega
  · obtain rfl : R = b + 1 := by omega
    have hs : rnk m (r + 1).toNat = rnk m r.toNat + nth m r.toNat := by rw [show (r + 1).toNat = r.toNat + 1 by omega]; exact rnk_succ m (by omega)
    by_cases hd : r + 1 < L
    · rw [show (a * L + r) * (b + 1) + b + 1 = (a * L + (r + 1)) * (b + 1) + 0 by simp only [Int.add_mul, Int.mul_add]; omega, kc_at (by omega) hd (Int.le_refl _) (by omega), hs, Int.mul_zero]
      simp only [Int.add_mul, Int.mul_add, Int.mul_one]; omega
    · obtain rfl : L = r + 1 := by omega
      have hk : rnk m (r + 1).toNat = sumI m := by rw [show (r + 1).toNat = m.length by omega]; exact rnk_all m
      rw [show (a * (r + 1) + r) * (b + 1) + b + 1 = ((a + 1) * (r + 1) + 0) * (b + 1) + 0 by simp only [Int.add_mul, Int.mul_add, Int.one_mul, Int.mul_one]; omega, kc_at (Int.le_refl _) (by omega) (Int.le_refl _) (by omega)]
      rw [hk] at hs
      rw [hs, Int.mul_zero, Int.toNat_zero, rnk_zero]
      simp only [Int.add_mul, Int.mul_add, Int.one_mul, Int.mul_one, Int.zero_mul]; omega
theorem stp_set {s : List Int} {x : Nat} (v : Int) : stp (s.set x v) x = stp s x := by unfold stp; rw [List.drop_set]; simp
/-- The place, where one axis is of another length. -/
theorem place_other : ∀ {s t : List Int} {x : Nat} (K v : Int), insB s t = true → x < s.length → place (s.set x K) (t.set x v) = place s t / stp s x / nth s x * (K * stp s x) + v * stp s x + place s t % stp s x
  | [], _, _, _, _, _, h => by simp at h
  | _ :: _, [], _, _, _, h, _ => by simp [insB] at h
  | a :: s, u :: t, 0, K, v, h, _ => by
    have h0 := ins_at h (x := 0) (by simp)
    rw [nth_zero, nth_zero] at h0
    have ht : insB s t = true := by simp only [insB, Bool.and_eq_true] at h; exact h.2
    have hb := place_bd ht
    have hd := div3 (a := 0) (L := a) (R := prod s) h0.1 h0.2 hb.1 hb.2
    simp only [Int.zero_mul, Int.zero_add] at hd
    simp only [List.set_cons_zero, place, stp_zero, nth_zero]
    rw [hd.1, hd.2.1, hd.2.2.1]
    omega
  | a :: s, u :: t, x + 1, K, v, h, hx => by
    have ht : insB s t = true := by simp only [insB, Bool.and_eq_true] at h; exact h.2
    have hx' : x < s.length := by simpa using hx
    have ih := place_other K v ht hx'
    have hp := al_pos ht
    have hR := stp_pos hp x
    have hL : 0 < nth s x := by have := ins_at ht hx'; omega
    have e := al_split s hx'
    have e2 := prod_set hx' K
    simp only [List.set_cons_succ, place, stp_succ, nth_succ]
    rw [ih, e2]
    have e3 : u * prod s + place s t = place s t + (u * prod (s.take x) * nth s x) * stp s x := by rw [e]; simp only [Int.mul_assoc]; omega
    rw [e3, Int.add_mul_ediv_right _ _ (by omega), Int.add_mul_emod_self_right, Int.add_mul_ediv_right _ _ (by omega), Int.add_mul]
    have e4 : u * (K * rest s x) = u * prod (s.take x) * (K * stp s x) := by
      unfold rest stp
      rw [Int.mul_assoc, ← Int.mul_assoc K, Int.mul_comm K, Int.mul_assoc]
    rw [e4]
    omega
section
variable {m s dz : List Int} {x : Nat} {c : Bool}
theorem kc_zero (hL : 0 ≤ nth s x) : kc m (nth s x) (stp s x) 0 = 0 := by
  unfold kc
  rw [Int.zero_ediv, Int.zero_ediv, Int.zero_emod, Int.zero_emod, Int.toNat_zero, rnk_zero]
  simp
theorem kc_all (h : kpE m x c s dz = 0) : kc m (nth s x) (stp s x) (prod s) = prod (kpS m x s) := by
  obtain ⟨h1, hx, h2, h3⟩ := kpZ.1 h
  have he := (flawE_zero h1).1
  have hz := errOf_zero.1 he
  have e := al_split s hx
  have hK := msk_sum h3
  have e2 : prod (kpS m x s) = sumI m * rest s x := prod_set hx _
  by_cases hL : nth s x = 0
  · have hK0 : sumI m = 0 := by omega
    rw [e2, hK0, Int.zero_mul]
    rw [show prod s = 0 by rw [e, hL, Int.zero_mul, Int.mul_zero]]
    exact kc_zero (by omega)
  · by_cases hR : stp s x = 0
    · rw [show prod s = 0 by rw [e, hR, Int.mul_zero, Int.mul_zero], kc_zero (hz.2.1.nth x).1, e2]
      unfold rest
      unfold stp at hR
      rw [hR, Int.mul_zero, Int.mul_zero]
    · have hL' : 0 < nth s x := by have := (hz.2.1.nth x).1; omega
      have hR' : 0 < stp s x := by have := (stp_60 he x).1; omega
      rw [e, show prod (s.take x) * (nth s x * stp s x) = (prod (s.take x) * nth s x + 0) * stp s x + 0 by simp only [Int.add_zero, Int.mul_assoc], kc_at (Int.le_refl _) hL' (Int.le_refl _) hR', e2, Int.toNat_zero, rnk_zero]
      unfold rest
      unfold stp
      rw [Int.mul_zero, Int.zero_mul, Int.add_zero, Int.add_zero, ← Int.mul_assoc, Int.mul_comm (prod (s.take x)), Int.mul_assoc]
/-- One round of what is kept, in order. -/
theorem kc_round (h : kpE m x c s dz = 0) {k : Nat} (hk : (k : Int) < prod s) :
    kc m (nth s x) (stp s x) (k + 1) = kc m (nth s x) (stp s x) k + nth m (nth (cr s k) x).toNat
    ∧ (nth m (nth (cr s k) x).toNat = 1 → 0 ≤ kc m (nth s x) (stp s x) k ∧ kc m (nth s x) (stp s x) k < prod (kpS m x s) ∧ nth (kpD m x s dz) (kc m (nth s x) (stp s x) k).toNat = nth dz k) := by
  obtain ⟨h1, hx, h2, h3⟩ := kpZ.1 h
  have he := (flawE_zero h1).1
  obtain ⟨ht, hp⟩ := cr_fact he hk
  have hR := stp_pos (al_pos ht) x
  have hi := ins_at ht hx
  have hix := idx_at ht hx
  rw [hp] at hix
  have hS := kp_err h
  refine ⟨by rw [kc_next h2 (by omega) hR, hix], fun h1m => ?_⟩
  have hlt : (nth (cr s k) x).toNat < m.length := by omega
  have hr := rnk_bd h3 (nth (cr s k) x).toNat (by omega)
  have hr' := rnk_le h3 (i := (nth (cr s k) x).toNat + 1) (j := m.length) (by omega) (Nat.le_refl _)
  rw [rnk_succ m hlt, rnk_all, h1m] at hr'
  have hin : insB (kpS m x s) ((cr s k).set x (rnk m (nth (cr s k) x).toNat)) = true := by
    unfold kpS
    rw [insS hx]
    have hl := cr_length s k
    refine ⟨by rw [List.length_set, hl], fun j hj hn => ?_, ?_, ?_⟩
    · rw [nth_set_ne (by rw [hl]; exact hx) hn]; exact ins_at ht hj
    · rw [nth_set_self (by rw [hl]; exact hx)]; exact hr.1
    · rw [nth_set_self (by rw [hl]; exact hx)]; omega
  have hpl : place (kpS m x s) ((cr s k).set x (rnk m (nth (cr s k) x).toNat)) = kc m (nth s x) (stp s x) k := by
    unfold kpS kc
    rw [place_other _ _ ht hx, hp, hix, h1m, Int.one_mul]
  have hbd := place_bd hin
  rw [hpl] at hbd
  refine ⟨hbd.1, hbd.2, ?_⟩
  have hc := cr_place hS hin
  rw [hpl] at hc
  unfold kpD
  rw [TA_nth hc.2, hc.1]
  have hT : kpT m x ((cr s k).set x (rnk m (nth (cr s k) x).toNat)) = cr s k := by
    unfold kpT
    rw [nth_set_self (by rw [cr_length]; exact hx), pos1_rnk h3 hlt h1m, set_set]
    exact set_get (by rw [cr_length]; exact hx) (by omega)
  rw [hT]
  unfold cel
  rw [hp, Int.toNat_natCast]
theorem kc_bd (h : kpE m x c s dz = 0) : ∀ k : Nat, (k : Int) ≤ prod s → 0 ≤ kc m (nth s x) (stp s x) k
  | 0, _ => by
    obtain ⟨h1, hx, h2, h3⟩ := kpZ.1 h
    exact Int.le_of_eq (kc_zero (by omega)).symm
  | k + 1, hk => by
    obtain ⟨h1, hx, h2, h3⟩ := kpZ.1 h
    have ih := kc_bd h k (by omega)
    have hr := (kc_round h (k := k) (by omega)).1
    have he := (flawE_zero h1).1
    have hi := ins_at (cr_fact he (i := k) (by omega)).1 hx
    have := mskB_nth h3 (j := (nth (cr s k) x).toNat) (by omega)
    rw [show ((k + 1 : Nat) : Int) = (k : Int) + 1 by omega, hr]
    omega
end
end Go.Proofs.Ytnfdcdoelhanlaa
