/-
  Kpm Cutj Placem Cutg Cutf Cuts Cutp Appc Clone Cut5, together.
-/
import Derived.Test.YtcpmendkocnlhabCutn
import Derived.Test.YtcpmendkocnlhabBase
import Derived.Test.YtcpmendkocnlhabCutq
import Derived.Test.YtcpmendkocnlhabApps
import Derived.Lib.SliceRun
import Derived.Test.YtcpmendkocnlhabUbm
import Derived.Deep.QuietTactic
import Derived.BigQuiet
import Derived.WalkSmall
import Derived.Deep.RegionWith
/-! Kpm: Plain mathematics of what a mask keeps, told in order; nothing of the program. -/
namespace Go.Proofs.Ytcpmendkocnlhab
open Go.RowKit
set_option linter.unusedVariables false

/-- How many cells ahead of place j are kept. -/
def kc (m : List Int) (L R : Int) (j : Int) : Int := j / R / L * (sumI m * R) + rnk m (j / R % L).toNat * R + nth m (j / R % L).toNat * (j % R)
theorem div3 {a r b L R : Int} (hr0 : 0 ≤ r) (hr : r < L) (hb0 : 0 ≤ b) (hb : b < R) : ((a * L + r) * R + b) / R = a * L + r ∧ ((a * L + r) * R + b) % R = b ∧ (a * L + r) / L = a ∧ (a * L + r) % L = r := by
  refine ⟨?_, ?_, ?_, ?_⟩
  · rw [Int.add_comm, Int.add_mul_ediv_right _ _ (by omega), Int.ediv_eq_zero_of_lt hb0 hb]; omega
  · rw [Int.add_comm, Int.add_mul_emod_self_right]; exact Int.emod_eq_of_lt hb0 hb
  · rw [Int.add_comm, Int.add_mul_ediv_right _ _ (by omega), Int.ediv_eq_zero_of_lt hr0 hr]; omega
  · rw [Int.add_comm, Int.add_mul_emod_self_right]; exact Int.emod_eq_of_lt hr0 hr
theorem kc_at {m : List Int} {a r b L R : Int} (hr0 : 0 ≤ r) (hr : r < L) (hb0 : 0 ≤ b) (hb : b < R) : kc m L R ((a * L + r) * R + b) = a * (sumI m * R) + rnk m r.toNat * R + nth m r.toNat * b := by
  obtain ⟨h1, h2, h3, h4⟩ := div3 (a := a) hr0 hr hb0 hb
  unfold kc
  rw [h1, h2, h3, h4]
theorem kc_parts (j : Int) {L R : Int} (hL : 0 < L) (hR : 0 < R) : j = (j / R / L * L + j / R % L) * R + j % R := by
  have h1 : j / R / L * L + j / R % L = j / R := by rw [Int.mul_comm]; exact Int.mul_ediv_add_emod _ _
  rw [h1, Int.mul_comm]
  exact (Int.mul_ediv_add_emod _ _).symm
theorem kc_next {m : List Int} {L R j : Int} (hm : (m.length : Int) = L) (hL : 0 < L) (hR : 0 < R) : kc m L R (j + 1) = kc m L R j + nth m (j / R % L).toNat := by
  have hj := kc_parts j hL hR
  obtain ⟨a, ha⟩ : ∃ a, a = j / R / L := ⟨_, rfl⟩
  obtain ⟨r, hr⟩ : ∃ r, r = j / R % L := ⟨_, rfl⟩
  obtain ⟨b, hb⟩ : ∃ b, b = j % R := ⟨_, rfl⟩
  have r0 : 0 ≤ r := by rw [hr]; exact Int.emod_nonneg _ (by omega)
  have r1 : r < L := by rw [hr]; exact Int.emod_lt_of_pos _ hL
  have b0 : 0 ≤ b := by rw [hb]; exact Int.emod_nonneg _ (by omega)
  have b1 : b < R := by rw [hb]; exact Int.emod_lt_of_pos _ hR
  rw [← ha, ← hr, ← hb] at hj
  rw [← hr]
  clear ha hr hb
  subst hj
  rw [kc_at r0 r1 b0 b1]
  by_cases hc : b + 1 < R
  · rw [Int.add_assoc, kc_at r0 r1 (by omega) hc, Int.mul_add, Int.mul_one]; omega
  · obtain rfl : R = b + 1 := by omega
    have hs : rnk m (r + 1).toNat = rnk m r.toNat + nth m r.toNat := by rw [show (r + 1).toNat = r.toNat + 1 by omega]; exact rnk_succ m (by omega)
    by_cases hd : r + 1 < L
    · rw [show (a * L + r) * (b + 1) + b + 1 = (a * L + (r + 1)) * (b + 1) + 0 by simp only [Int.add_mul, Int.mul_add]; omega, kc_at (by omega) hd (Int.le_refl _) (by omega), hs, Int.mul_zero]
      simp only [Int.add_mul, Int.mul_add, Int.mul_one]; omega
    · obtain rfl : L = r + 1 := by omega
      have hk : rnk m (r + 1).toNat = sumI m := by rw [show (r + 1).toNat = m.length by omega]; exact rnk_all m
      rw [show (a * (r + 1) + r) * (b + 1) + b + 1 = ((a + 1) * (r + 1) + 0) * (b + 1) + 0 by simp only [Int.add_mul, Int.mul_add, Int.one_mul, Int.mul_one]; omega, kc_at (Int.le_refl _) (by omega) (Int.le_refl _) (by omega)]
      rw [hk] at hs
      rw [hs, Int.mul_zero, Int.toNat_zero, rnk_zero]
      simp only [Int.add_mul, Int.mul_add, Int.one_mul, Int.mul_one, Int.zero_mul]; omega
theorem stp_set {s : List Int} {x : Nat} (v : Int) : stp (s.set x v) x = stp s x := by unfold stp; rw [List.drop_set]; simp
/-- The place, where one axis is of another length. -/
theorem place_other : ∀ {s t : List Int} {x : Nat} (K v : Int), insB s t = true → x < s.length → place (s.set x K) (t.set x v) = place s t / stp s x / nth s x * (K * stp s x) + v * stp s x + place s t % stp s x
  | [], _, _, _, _, _, h => by simp at h
  | _ :: _, [], _, _, _, h, _ => by simp [insB] at h
  | a :: s, u :: t, 0, K, v, h, _ => by
    have h0 := ins_at h (x := 0) (by simp)
    rw [nth_zero, nth_zero] at h0
    have ht : insB s t = true := by simp only [insB, Bool.and_eq_true] at h; exact h.2
    have hb := place_bd ht
    have hd := div3 (a := 0) (L := a) (R := prod s) h0.1 h0.2 hb.1 hb.2
    simp only [Int.zero_mul, Int.zero_add] at hd
    simp only [List.set_cons_zero, place, stp_zero, nth_zero]
    rw [hd.1, hd.2.1, hd.2.2.1]
    omega
  | a :: s, u :: t, x + 1, K, v, h, hx => by
    have ht : insB s t = true := by simp only [insB, Bool.and_eq_true] at h; exact h.2
    have hx' : x < s.length := by simpa using hx
    have ih := place_other K v ht hx'
    have hp := al_pos ht
    have hR := stp_pos hp x
    have hL : 0 < nth s x := by have := ins_at ht hx'; omega
    have e := al_split s hx'
    have e2 := prod_set hx' K
    simp only [List.set_cons_succ, place, stp_succ, nth_succ]
    rw [ih, e2]
    have e3 : u * prod s + place s t = place s t + (u * prod (s.take x) * nth s x) * stp s x := by rw [e]; simp only [Int.mul_assoc]; omega
    rw [e3, Int.add_mul_ediv_right _ _ (by omega), Int.add_mul_emod_self_right, Int.add_mul_ediv_right _ _ (by omega), Int.add_mul]
    have e4 : u * (K * rest s x) = u * prod (s.take x) * (K * stp s x) := by
      unfold rest stp
      rw [Int.mul_assoc, ← Int.mul_assoc K, Int.mul_comm K, Int.mul_assoc]
    rw [e4]
    omega
section
variable {m s dz : List Int} {x : Nat} {c : Bool}
theorem kc_zero (hL : 0 ≤ nth s x) : kc m (nth s x) (stp s x) 0 = 0 := by
  unfold kc
  rw [Int.zero_ediv, Int.zero_ediv, Int.zero_emod, Int.zero_emod, Int.toNat_zero, rnk_zero]
  simp
theorem kc_all (h : kpE m x c s dz = 0) : kc m (nth s x) (stp s x) (prod s) = prod (kpS m x s) := by
  obtain ⟨h1, hx, h2, h3⟩ := kpZ.1 h
  have he := (flawE_zero h1).1
  have hz := errOf_zero.1 he
  have e := al_split s hx
  have hK := msk_sum h3
  have e2 : prod (kpS m x s) = sumI m * rest s x := prod_set hx _
  by_cases hL : nth s x = 0
  · have hK0 : sumI m = 0 := by omega
    rw [e2, hK0, Int.zero_mul]
    rw [show prod s = 0 by rw [e, hL, Int.zero_mul, Int.mul_zero]]
    exact kc_zero (by omega)
  · by_cases hR : stp s x = 0
    · rw [show prod s = 0 by rw [e, hR, Int.mul_zero, Int.mul_zero], kc_zero (hz.2.1.nth x).1, e2]
      unfold rest
      unfold stp at hR
      rw [hR, Int.mul_zero, Int.mul_zero]
    · have hL' : 0 < nth s x := by have := (hz.2.1.nth x).1; omega
      have hR' : 0 < stp s x := by have := (stp_60 he x).1; omega
      rw [e, show prod (s.take x) * (nth s x * stp s x) = (prod (s.take x) * nth s x + 0) * stp s x + 0 by simp only [Int.add_zero, Int.mul_assoc], kc_at (Int.le_refl _) hL' (Int.le_refl _) hR', e2, Int.toNat_zero, rnk_zero]
      unfold rest
      unfold stp
      rw [Int.mul_zero, Int.zero_mul, Int.add_zero, Int.add_zero, ← Int.mul_assoc, Int.mul_comm (prod (s.take x)), Int.mul_assoc]
/-- One round of what is kept, in order. -/
theorem kc_round (h : kpE m x c s dz = 0) {k : Nat} (hk : (k : Int) < prod s) :
    kc m (nth s x) (stp s x) (k + 1) = kc m (nth s x) (stp s x) k + nth m (nth (cr s k) x).toNat
    ∧ (nth m (nth (cr s k) x).toNat = 1 → 0 ≤ kc m (nth s x) (stp s x) k ∧ kc m (nth s x) (stp s x) k < prod (kpS m x s) ∧ nth (kpD m x s dz) (kc m (nth s x) (stp s x) k).toNat = nth dz k) := by
  obtain ⟨h1, hx, h2, h3⟩ := kpZ.1 h
  have he := (flawE_zero h1).1
  obtain ⟨ht, hp⟩ := cr_fact he hk
  have hR := stp_pos (al_pos ht) x
  have hi := ins_at ht hx
  have hix := idx_at ht hx
  rw [hp] at hix
  have hS := kp_err h
  refine ⟨by rw [kc_next h2 (by omega) hR, hix], fun h1m => ?_⟩
  have hlt : (nth (cr s k) x).toNat < m.length := by omega
  have hr := rnk_bd h3 (nth (cr s k) x).toNat (by omega)
  have hr' := rnk_le h3 (i := (nth (cr s k) x).toNat + 1) (j := m.length) (by omega) (Nat.le_refl _)
  rw [rnk_succ m hlt, rnk_all, h1m] at hr'
  have hin : insB (kpS m x s) ((cr s k).set x (rnk m (nth (cr s k) x).toNat)) = true := by
    unfold kpS
    rw [insS hx]
    have hl := cr_length s k
    refine ⟨by rw [List.length_set, hl], fun j hj hn => ?_, ?_, ?_⟩
    · rw [nth_set_ne (by rw [hl]; exact hx) hn]; exact ins_at ht hj
    · rw [nth_set_self (by rw [hl]; exact hx)]; exact hr.1
    · rw [nth_set_self (by rw [hl]; exact hx)]; omega
  have hpl : place (kpS m x s) ((cr s k).set x (rnk m (nth (cr s k) x).toNat)) = kc m (nth s x) (stp s x) k := by
    unfold kpS kc
    rw [place_other _ _ ht hx, hp, hix, h1m, Int.one_mul]
  have hbd := place_bd hin
  rw [hpl] at hbd
  refine ⟨hbd.1, hbd.2, ?_⟩
  have hc := cr_place hS hin
  rw [hpl] at hc
  unfold kpD
  rw [TA_nth hc.2, hc.1]
  have hT : kpT m x ((cr s k).set x (rnk m (nth (cr s k) x).toNat)) = cr s k := by
    unfold kpT
    rw [nth_set_self (by rw [cr_length]; exact hx), pos1_rnk h3 hlt h1m, set_set]
    exact set_get (by rw [cr_length]; exact hx) (by omega)
  rw [hT]
  unfold cel
  rw [hp, Int.toNat_natCast]
theorem kc_bd (h : kpE m x c s dz = 0) : ∀ k : Nat, (k : Int) ≤ prod s → 0 ≤ kc m (nth s x) (stp s x) k
  | 0, _ => by
    obtain ⟨h1, hx, h2, h3⟩ := kpZ.1 h
    exact Int.le_of_eq (kc_zero (by omega)).symm
  | k + 1, hk => by
    obtain ⟨h1, hx, h2, h3⟩ := kpZ.1 h
    have ih := kc_bd h k (by omega)
    have hr := (kc_round h (k := k) (by omega)).1
    have he := (flawE_zero h1).1
    have hi := ins_at (cr_fact he (i := k) (by omega)).1 hx
    have := mskB_nth h3 (j := (nth (cr s k) x).toNat) (by omega)
    rw [show ((k + 1 : Nat) : Int) = (k : Int) + 1 by omega, hr]
    omega
end
end Go.Proofs.Ytcpmendkocnlhab
/-! Cutj: Plain mathematics of two arrays joined: blocks of the one and of the other, in turn; nothing of the program. -/
namespace Go.Proofs.Ytcpmendkocnlhab
open Go.RowKit
set_option linter.unusedVariables false

/-- How many cells stand one behind the other before an axis ahead of the given one goes on. -/
def blk (s : List Int) (x : Nat) : Int := prod (s.drop x)
theorem blk_eq {s : List Int} {x : Nat} (hx : x < s.length) : blk s x = nth s x * stp s x := by
  unfold blk stp
  rw [drop_nth s x hx]
  rfl
section
variable {x : Nat} {c c' : Bool} {s dz s' dz' : List Int}
theorem jn_same {k : Nat} (hl : s.length = s'.length) (hx : x < s.length) (ho : othB x s s' = true) : s' = s.set x (nth s' x) := by
  refine nth_ext (by simp [hl]) fun k hk => ?_
  rw [nth_set _ _ _ _ hx]
  split
  · rename_i e; rw [e]
  · rename_i e; exact (othB_iff.1 ho k (by omega) e).symm
theorem jn_stp (hl : s.length = s'.length) (hx : x < s.length) (ho : othB x s s' = true) : stp s' x = stp s x := by
  rw [jn_same (k := 0) hl hx ho, stp_set]
/-- The lengths: whole blocks of both. -/
theorem jn_lens (h : jnE x c s dz c' s' dz' = 0) : ∃ O A B : Nat, (A : Int) = blk s x ∧ (B : Int) = blk s' x ∧ (jnD x s dz s' dz').length = O * (A + B) ∧ ((jnD x s dz s' dz').length : Int) = prod (jnS x s s') ∧ (0 < A + B → dz.length = O * A ∧ dz'.length = O * B) ∧ (jnD x s dz s' dz').length ≤ 4096 ∧
    (∀ k j : Nat, k < O → j < A + B → nth (jnD x s dz s' dz') (k * (A + B) + j) = if j < A then nth dz (k * A + j) else nth dz' (k * B + (j - A))) := by
  obtain ⟨h1, h2, h3, h4, h5, h6, h7⟩ := jnZ.1 h
  have hz := errOf_zero.1 (flawE_zero h1).1
  have hz' := errOf_zero.1 (flawE_zero h2).1
  have hj := errOf_zero.1 h7
  have hd := (flawE_zero h1).2.1
  have hd' := (flawE_zero h2).2.1
  have e1 := blk_eq h4
  have e2 := blk_eq (s := s') (x := x) (by omega)
  rw [jn_stp h3 h4 h5] at e2
  have hR : 0 ≤ stp s x := (stp_60 (flawE_zero h1).1 x).1
  have hLa := (hz.2.1.nth x).1
  have hLb := (hz'.2.1.nth x).1
  have hO : 0 ≤ prod (s.take x) := prod_nonneg fun y hy => hz.2.1 y (List.mem_of_mem_take hy)
  have hA0 : 0 ≤ nth s x * stp s x := Int.mul_nonneg hLa hR
  have hB0 : 0 ≤ nth s' x * stp s x := Int.mul_nonneg hLb hR
  have hP := al_split (jnS x s s') (x := x) (by rw [jnS_length]; exact h4)
  have t1 : (jnS x s s').take x = s.take x := by
    unfold jnS
    rw [List.take_set]
    exact List.set_eq_of_length_le (by rw [List.length_take]; omega)
  have t2 : stp (jnS x s s') x = stp s x := stp_set _
  rw [t1, jnS_at h4, t2, Int.add_mul] at hP
  have hlen : ((jnD x s dz s' dz').length : Int) = prod (jnS x s s') := TA_len h7
  have hPa := al_split s h4
  have hPb := al_split s' (x := x) (by omega)
  have t3 : s'.take x = s.take x := by
    rw [jn_same (k := 0) h3 h4 h5, List.take_set]
    exact List.set_eq_of_length_le (by rw [List.length_take]; omega)
  rw [t3, jn_stp h3 h4 h5] at hPb
  obtain ⟨O, hOe⟩ : ∃ O : Nat, (O : Int) = prod (s.take x) := ⟨(prod (s.take x)).toNat, by omega⟩
  obtain ⟨A, hAe⟩ : ∃ A : Nat, (A : Int) = nth s x * stp s x := ⟨(nth s x * stp s x).toNat, by omega⟩
  obtain ⟨B, hBe⟩ : ∃ B : Nat, (B : Int) = nth s' x * stp s x := ⟨(nth s' x * stp s x).toNat, by omega⟩
  rw [← hOe, ← hAe, ← hBe] at hP
  rw [← hOe, ← hAe] at hPa
  rw [← hOe, ← hBe] at hPb
  have hlen2 : (jnD x s dz s' dz').length = O * (A + B) := by
    have : ((jnD x s dz s' dz').length : Int) = ((O * (A + B) : Nat) : Int) := by rw [hlen, hP]; simp
    exact_mod_cast this
  refine ⟨O, A, B, by rw [e1]; exact hAe, by rw [e2]; exact hBe, hlen2, hlen, fun _ => ⟨?_, ?_⟩, by omega, fun k j hk hj0 => ?_⟩
  · have : (dz.length : Int) = ((O * A : Nat) : Int) := by rw [hd, hPa]; simp
    exact_mod_cast this
  · have : (dz'.length : Int) = ((O * B : Nat) : Int) := by rw [hd', hPb]; simp
    exact_mod_cast this
  · have hlt : k * (A + B) + j < O * (A + B) := by
      have : (k + 1) * (A + B) ≤ O * (A + B) := Nat.mul_le_mul_right _ hk
      rw [Nat.add_mul] at this
      omega
    have hi : k * (A + B) + j < (prod (jnS x s s')).toNat := by omega
    obtain ⟨ht, hp⟩ := cr_in h7 hi
    unfold jnD
    rw [TA_nth hi]
    generalize cr (jnS x s s') (k * (A + B) + j) = t at ht hp
    have hidx := idx_at ht (x := x) (by rw [jnS_length]; exact h4)
    have hpo := fun K v => place_other K v ht (x := x) (by rw [jnS_length]; exact h4)
    have hpos := al_pos ht
    have hRp : 0 < stp s x := by have := stp_pos hpos x; rwa [t2] at this
    have htx := ins_at ht (x := x) (by rw [jnS_length]; exact h4)
    rw [jnS_at h4] at htx
    rw [t2, jnS_at h4, hp] at hidx
    have hl' : t.length = s.length := by have := insB_len ht; rwa [jnS_length] at this
    obtain ⟨L, hL⟩ : ∃ L, L = nth s x + nth s' x := ⟨_, rfl⟩
    obtain ⟨R, hRe⟩ : ∃ R, R = stp s x := ⟨_, rfl⟩
    have hLp : 0 < L := by omega
    have hT : ((A + B : Nat) : Int) = L * R := by rw [hL, hRe, Int.add_mul]; omega
    have hpk : ((k * (A + B) + j : Nat) : Int) = ((k : Int) * L + (j : Int) / R) * R + (j : Int) % R := by
      have : (j : Int) / R * R + (j : Int) % R = j := by rw [Int.mul_comm]; exact Int.mul_ediv_add_emod _ _
      have e : ((k * (A + B) + j : Nat) : Int) = (k : Int) * ((A + B : Nat) : Int) + j := by simp
      rw [e, hT, Int.add_mul, Int.mul_assoc]; omega
    have hj1 : 0 ≤ (j : Int) / R := Int.ediv_nonneg (by omega) (by omega)
    have hj2 : (j : Int) / R < L := by
      have : (j : Int) < L * R := by omega
      exact (Int.ediv_lt_iff_lt_mul (by omega)).2 this
    have hj3 := Int.emod_nonneg (j : Int) (show R ≠ 0 by omega)
    have hj4 := Int.emod_lt_of_pos (j : Int) (show 0 < R by omega)
    obtain ⟨d1, d2, d3, d4⟩ := div3 (a := (k : Int)) hj1 hj2 hj3 hj4
    have hq : nth t x = (j : Int) / R := by rw [← hidx, ← hL, ← hRe, hpk, d1, d4]
    have hjj : (j : Int) / R * R + (j : Int) % R = j := by rw [Int.mul_comm]; exact Int.mul_ediv_add_emod _ _
    have hpl : ∀ K v, place ((jnS x s s').set x K) (t.set x v) = k * (K * R) + v * R + (j : Int) % R := fun K v => by
      rw [hpo K v, t2, jnS_at h4, hp, ← hL, ← hRe, hpk, d1, d2, d3]
    unfold jnC cel
    have hiff : nth t x < nth s x ↔ j < A := by
      rw [hq, Int.ediv_lt_iff_lt_mul (by omega), hRe, ← hAe]
      omega
    by_cases hja : j < A
    · rw [if_pos (hiff.2 hja), if_pos hja]
      congr 1
      have hh := hpl (nth s x) (nth t x)
      have s1 : (jnS x s s').set x (nth s x) = s := by unfold jnS; rw [set_set]; exact set_get h4 rfl
      rw [s1, set_get (by omega) rfl, hq, hRe, ← hAe, ← hRe, Int.add_assoc, hjj] at hh
      rw [hh]
      have : (k : Int) * (A : Int) + (j : Int) = ((k * A + j : Nat) : Int) := by simp
      rw [this, Int.toNat_natCast]
    · rw [if_neg (fun hc => hja (hiff.1 hc)), if_neg hja]
      congr 1
      have hh := hpl (nth s' x) (nth t x - nth s x)
      have s1 : (jnS x s s').set x (nth s' x) = s' := by unfold jnS; rw [set_set]; exact (jn_same (k := 0) h3 h4 h5).symm
      rw [s1, hq, Int.sub_mul, hRe, ← hAe, ← hBe, ← hRe] at hh
      rw [hq, hh]
      have : (k : Int) * (B : Int) + ((j : Int) / R * R - A) + (j : Int) % R = ((k * B + (j - A) : Nat) : Int) := by
        have : ((k * B + (j - A) : Nat) : Int) = (k : Int) * (B : Int) + ((j : Int) - A) := by
          rw [Int.natCast_add, Int.natCast_mul]; omega
        rw [this]; omega
      rw [this, Int.toNat_natCast]
end
/-- One block of the one and one of the other, put behind what is there. -/
theorem jn_take {D X Y : List Int} {O A B k : Nat} (hD : D.length = O * (A + B)) (hX : X.length = O * A) (hY : Y.length = O * B) (hk : k < O)
    (h : ∀ k j : Nat, k < O → j < A + B → nth D (k * (A + B) + j) = if j < A then nth X (k * A + j) else nth Y (k * B + (j - A))) :
    D.take ((k + 1) * (A + B)) = D.take (k * (A + B)) ++ (X.drop (k * A)).take A ++ (Y.drop (k * B)).take B := by
  have b0 : (k + 1) * (A + B) ≤ O * (A + B) := Nat.mul_le_mul_right _ hk
  have b1 : (k + 1) * A ≤ O * A := Nat.mul_le_mul_right _ hk
  have b2 : (k + 1) * B ≤ O * B := Nat.mul_le_mul_right _ hk
  have m0 : (k + 1) * (A + B) = k * (A + B) + (A + B) := by rw [Nat.add_mul, Nat.one_mul]
  have m1 : (k + 1) * A = k * A + A := by rw [Nat.add_mul, Nat.one_mul]
  have m2 : (k + 1) * B = k * B + B := by rw [Nat.add_mul, Nat.one_mul]
  have l0 : (D.take (k * (A + B))).length = k * (A + B) := by rw [List.length_take]; omega
  have l1 : ((X.drop (k * A)).take A).length = A := by rw [List.length_take, List.length_drop]; omega
  have l2 : ((Y.drop (k * B)).take B).length = B := by rw [List.length_take, List.length_drop]; omega
  refine nth_ext (by rw [List.length_take, List.length_append, List.length_append, l0, l1, l2]; omega) fun j hj => ?_
  rw [List.length_take] at hj
  rw [nth_take _ _ _ (by omega)]
  by_cases j0 : j < k * (A + B)
  · rw [nth_append_left _ _ _ (by rw [List.length_append]; omega), nth_append_left _ _ _ (by omega), nth_take _ _ _ j0]
  · obtain ⟨i, rfl⟩ : ∃ i, j = k * (A + B) + i := ⟨j - k * (A + B), by omega⟩
    rw [h k i hk (by omega)]
    by_cases ja : i < A
    · rw [if_pos ja, nth_append_left _ _ _ (by rw [List.length_append]; omega)]
      unfold nth
      simp only [List.getD_eq_getElem?_getD]
      rw [List.getElem?_append_right (by omega), l0, Nat.add_sub_cancel_left, List.getElem?_take, if_pos ja, List.getElem?_drop]
    · rw [if_neg ja]
      unfold nth
      simp only [List.getD_eq_getElem?_getD]
      rw [List.getElem?_append_right (by rw [List.length_append]; omega), List.length_append, l0, l1, List.getElem?_take, if_pos (by omega), List.getElem?_drop]
      congr 2
      omega
end Go.Proofs.Ytcpmendkocnlhab
/-! Placem: Plain mathematics of the place of a cell, as it is reckoned from the last axis on. -/
namespace Go.Proofs.Ytcpmendkocnlhab
open Go.RowKit
set_option linter.unusedVariables false

def plstep (zs ts : List Int) (s : Int × Int) (x : Ax zs.length) : Int × Int := (wrap64 (s.1 + wrap64 (nth ts x.1 * s.2)), wrap64 (s.2 * nth zs x.1))
theorem insB_drop : ∀ {s t : List Int} (k : Nat), insB s t = true → insB (s.drop k) (t.drop k) = true
  | _, _, 0, h => h
  | [], [], k + 1, _ => by simp [insB]
  | [], _ :: _, _, h => by simp [insB] at h
  | _ :: _, [], _, h => by simp [insB] at h
  | x :: s, a :: t, k + 1, h => by
    simp only [insB, Bool.and_eq_true] at h
    exact insB_drop k h.2
theorem prod_drop_le {s : List Int} (h : AllPos s) (k : Nat) : 0 < prod (s.drop k) ∧ prod (s.drop k) ≤ prod s := by
  induction s generalizing k with
  | nil => simp [prod]
  | cons x r ih =>
    have hx := h x List.mem_cons_self
    have h0 := ih h.tail 0
    simp only [List.drop_zero] at h0
    have h1 : 1 * prod r ≤ x * prod r := Int.mul_le_mul_of_nonneg_right (by omega) (by omega)
    cases k with
    | zero => simp only [List.drop_zero, prod]; omega
    | succ k =>
      have := ih h.tail k
      simp only [List.drop_succ_cons, prod]
      omega
theorem plfold (zs ts : List Int) (he : errOf zs = 0) (hi : insB zs ts = true) : (dn zs.length zs.length).foldl (plstep zs ts) (0, 1) = (place zs ts, prod zs) := by
  have hz := errOf_zero.1 he
  have hbd := place_bd hi
  have hpos := allPos_of_prod hz.2.1 (by omega)
  have hl := insB_len hi
  have := fold_dn zs.length (plstep zs ts) (fun k => (place (zs.drop k) (ts.drop k), prod (zs.drop k))) (fun k hk => by
    have e1 := drop_nth zs k hk
    have e2 := drop_nth ts k (by omega)
    have i1 := insB_drop k hi
    have i2 := insB_drop (k + 1) hi
    have b1 := place_bd i1
    have b2 := place_bd i2
    have p1 := prod_drop_le hpos k
    have p2 := prod_drop_le hpos (k + 1)
    rw [e1, e2] at b1
    have b3 := p1
    rw [e1] at b3
    simp only [place, prod] at b1 b3
    simp only [plstep]
    have hn : 0 ≤ nth ts k := ((insB_iff hl).1 hi k hk).1
    have h1 : 0 ≤ nth ts k * prod (zs.drop (k + 1)) := Int.mul_nonneg hn (by omega)
    have h4 : prod (zs.drop (k + 1)) * nth zs k = nth zs k * prod (zs.drop (k + 1)) := Int.mul_comm _ _
    rw [e1, e2]
    simp only [place, prod]
    rw [wrap64_small (n := nth ts k * prod (zs.drop (k + 1))) (by omega) (by omega), wrap64_small (by omega) (by omega), wrap64_small (by omega) (by omega), Int.add_comm, h4]) zs.length (Nat.le_refl _)
  simpa [place, prod, hl] using this
theorem insB_of_all {zs ts : List Int} (hl : ts.length = zs.length) (h : ∀ x ∈ dn zs.length zs.length, 0 ≤ nth ts x.1 ∧ nth ts x.1 < nth zs x.1) : insB zs ts = true :=
  (insB_iff hl).2 fun k hk => h ⟨k, hk⟩ (dn_mem _ _ _ (Nat.le_refl _) (by omega))
theorem plErr_bad {zs ts : List Int} (he : errOf zs ≠ 0) : plErr zs ts = errOf zs := by simp [plErr, he]
theorem plErr_rank {zs ts : List Int} (he : errOf zs = 0) (hl : ts.length ≠ zs.length) : plErr zs ts = 3 := by simp [plErr, he, hl]
theorem plErr_index {zs ts : List Int} (he : errOf zs = 0) (hl : ts.length = zs.length) (k : Nat) (hk : k < zs.length) (h : ¬ (0 ≤ nth ts k ∧ nth ts k < nth zs k)) : plErr zs ts = 5 := by
  have : ¬ insB zs ts = true := fun hi => h ((insB_iff hl).1 hi k hk)
  simp [plErr, he, hl, this]
theorem plVal_bad {zs ts : List Int} (h : plErr zs ts ≠ 0) : plVal zs ts = 0 := by simp [plVal, h]

def Ins (zs ts : List Int) (pre : List (Ax zs.length)) : Prop := ∀ x ∈ pre, 0 ≤ nth ts x.1 ∧ nth ts x.1 < nth zs x.1
def Out (zs ts : List Int) (pre : List (Ax zs.length)) : Prop := ∃ x ∈ pre, ¬ (0 ≤ nth ts x.1 ∧ nth ts x.1 < nth zs x.1)
theorem Ins.nil (zs ts : List Int) : Ins zs ts [] := fun x hx => by cases hx
theorem Ins.snoc {zs ts : List Int} {pre : List (Ax zs.length)} (h : Ins zs ts pre) {k : Nat} (hk : k < zs.length) (h1 : 0 ≤ nth ts k) (h2 : nth ts k < nth zs k) : Ins zs ts (pre ++ [⟨k, hk⟩]) := by
  intro x hx
  rcases List.mem_append.1 hx with hx | hx
  · exact h x hx
  · rw [List.mem_singleton] at hx; subst hx; exact ⟨h1, h2⟩
theorem Out.snoc {zs ts : List Int} {pre : List (Ax zs.length)} {k : Nat} (hk : k < zs.length) (h : ¬ (0 ≤ nth ts k ∧ nth ts k < nth zs k)) : Out zs ts (pre ++ [⟨k, hk⟩]) :=
  ⟨⟨k, hk⟩, List.mem_append_right _ (List.mem_singleton.2 rfl), h⟩
def plp (zs ts : List Int) (pre : List (Ax zs.length)) : Int := (pre.foldl (plstep zs ts) (0, 1)).1
def plt (zs ts : List Int) (pre : List (Ax zs.length)) : Int := (pre.foldl (plstep zs ts) (0, 1)).2
theorem plp_snoc (zs ts : List Int) (pre : List (Ax zs.length)) (k : Nat) (hk : k < zs.length) : plp zs ts (pre ++ [⟨k, hk⟩]) = wrap64 (plp zs ts pre + wrap64 (nth ts k * plt zs ts pre)) := by
  simp only [plp, plt, List.foldl_append, List.foldl_cons, List.foldl_nil, plstep]
theorem plt_snoc (zs ts : List Int) (pre : List (Ax zs.length)) (k : Nat) (hk : k < zs.length) : plt zs ts (pre ++ [⟨k, hk⟩]) = wrap64 (plt zs ts pre * nth zs k) := by
  simp only [plt, List.foldl_append, List.foldl_cons, List.foldl_nil, plstep]

end Go.Proofs.Ytcpmendkocnlhab
/-! Cutg: Plain mathematics of cells that are gathered by lists of indices, one for each axis; nothing of the program. -/
namespace Go.Proofs.Ytcpmendkocnlhab
open Go.RowKit
set_option linter.unusedVariables false

def rl (rs : List (List Int)) (k : Nat) : List Int := rs.getD k []
def gaS (rs : List (List Int)) : List Int := rs.map fun r => (r.length : Int)
def gaT (rs : List (List Int)) (t : List Int) : List Int := (List.range rs.length).map fun k => nth (rl rs k) (nth t k).toNat
def gaC (c : Bool) (s dz : List Int) (rs : List (List Int)) (t : List Int) : Int := if insB s (gaT rs t) = true then cel s dz (gaT rs t) else fillE c
def gaD (c : Bool) (s dz : List Int) (rs : List (List Int)) : List Int := TA (gaS rs) (gaC c s dz rs)
section
variable {rs : List (List Int)} {t : List Int} {k : Nat}
theorem gaS_length : (gaS rs).length = rs.length := by simp [gaS]
theorem gaS_nth (h : k < rs.length) : nth (gaS rs) k = (rl rs k).length := by simp [gaS, rl, nth, h]
theorem gaT_length : (gaT rs t).length = rs.length := by simp [gaT]
theorem gaT_nth (h : k < rs.length) : nth (gaT rs t) k = nth (rl rs k) (nth t k).toNat := by simp [gaT, nth, h]
end
theorem crd_drop : ∀ (s : List Int) (p : Int) (k : Nat), (crd s p).1.drop k = (crd (s.drop k) p).1
  | _, _, 0 => rfl
  | [], p, k + 1 => by simp [crd]
  | x :: s, p, k + 1 => by
    simp only [crd, List.drop_succ_cons]
    exact crd_drop s p k
theorem crd_at (s : List Int) (p : Int) {k : Nat} (h : k < s.length) : nth (crd s p).1 k = (crd (s.drop (k + 1)) p).2.tmod (nth s k) := by
  have e := crd_drop s p k
  rw [drop_nth s k h, drop_nth _ k (by rw [crd_len]; exact h)] at e
  simp only [crd] at e
  exact (List.cons.inj e).1
/-! ### What the program reckons -/
def gI (rs : List (List Int)) (q : Int) (k : Nat) : Int := nth (rl rs k) (q.tmod (nth (gaS rs) k)).toNat
def gstep {N : Nat} (rs : List (List Int)) (zs : List Int) (q : (Int × Int) × (Int × Bool)) (x : Ax N) : (Int × Int) × (Int × Bool) :=
  ((q.1.1.tdiv (nth (gaS rs) x.1), wrap64 (q.1.2 + wrap64 (gI rs q.1.1 x.1 * q.2.1))), (wrap64 (q.2.1 * nth zs x.1), q.2.2 && decide (0 ≤ gI rs q.1.1 x.1 ∧ gI rs q.1.1 x.1 < nth zs x.1)))
section
variable {N : Nat} (rs : List (List Int)) (zs : List Int) (p : Int) (pre : List (Ax N))
def gQ : Int := (pre.foldl (gstep rs zs) ((p, 0), (1, true))).1.1
def gV : Int := (pre.foldl (gstep rs zs) ((p, 0), (1, true))).1.2
def gA : Int := (pre.foldl (gstep rs zs) ((p, 0), (1, true))).2.1
def gB : Bool := (pre.foldl (gstep rs zs) ((p, 0), (1, true))).2.2
theorem gQ_snoc (k : Nat) (hk : k < N) : gQ rs zs p (pre ++ [⟨k, hk⟩]) = (gQ rs zs p pre).tdiv (nth (gaS rs) k) := by
  simp only [gQ, List.foldl_append, List.foldl_cons, List.foldl_nil, gstep]
theorem gV_snoc (k : Nat) (hk : k < N) : gV rs zs p (pre ++ [⟨k, hk⟩]) = wrap64 (gV rs zs p pre + wrap64 (gI rs (gQ rs zs p pre) k * gA rs zs p pre)) := by
  simp only [gQ, gV, gA, List.foldl_append, List.foldl_cons, List.foldl_nil, gstep]
theorem gA_snoc (k : Nat) (hk : k < N) : gA rs zs p (pre ++ [⟨k, hk⟩]) = wrap64 (gA rs zs p pre * nth zs k) := by
  simp only [gA, List.foldl_append, List.foldl_cons, List.foldl_nil, gstep]
theorem gB_snoc (k : Nat) (hk : k < N) : gB rs zs p (pre ++ [⟨k, hk⟩]) = (gB rs zs p pre && decide (0 ≤ gI rs (gQ rs zs p pre) k ∧ gI rs (gQ rs zs p pre) k < nth zs k)) := by
  unfold gB gQ
  rw [List.foldl_append]
  rfl
end
theorem gQ_fold {N : Nat} {rs : List (List Int)} {zs : List Int} (h : AllPos (gaS rs)) (hN : N = rs.length) : ∀ (pre : List (Ax N)) (s : (Int × Int) × (Int × Bool)), 0 ≤ s.1.1 → 0 ≤ (pre.foldl (gstep rs zs) s).1.1 ∧ (pre.foldl (gstep rs zs) s).1.1 ≤ s.1.1
  | [], s, hs => ⟨hs, Int.le_refl _⟩
  | x :: pre, s, hs => by
    have hx := h _ (nth_mem (gaS rs) x.1 (by rw [gaS_length, ← hN]; exact x.2))
    have e1 : 0 ≤ s.1.1.tdiv (nth (gaS rs) x.1) := Int.tdiv_nonneg hs (by omega)
    have e2 : s.1.1.tdiv (nth (gaS rs) x.1) ≤ s.1.1 := by
      have ed := Int.tmod_add_mul_tdiv s.1.1 (nth (gaS rs) x.1)
      have em := Int.tmod_nonneg (nth (gaS rs) x.1) hs
      have : 1 * s.1.1.tdiv (nth (gaS rs) x.1) ≤ nth (gaS rs) x.1 * s.1.1.tdiv (nth (gaS rs) x.1) := Int.mul_le_mul_of_nonneg_right (by omega) e1
      omega
    have ih := gQ_fold (zs := zs) h hN pre (gstep rs zs s x) e1
    rw [List.foldl_cons]
    have e3 : (gstep rs zs s x).1.1 = s.1.1.tdiv (nth (gaS rs) x.1) := rfl
    omega
theorem gQ_bd {N : Nat} {rs : List (List Int)} {zs : List Int} (h : AllPos (gaS rs)) (hN : N = rs.length) {p : Int} (hp : 0 ≤ p) (pre : List (Ax N)) : 0 ≤ gQ rs zs p pre ∧ gQ rs zs p pre ≤ p := gQ_fold h hN pre ((p, 0), (1, true)) hp
theorem gw (V i A : Int) : wrap64 (wrap64 V + wrap64 (i * wrap64 A)) = wrap64 (i * A + V) := by
  rw [w_mulr, w_addl, w_addr, Int.add_comm]
theorem gfold {N : Nat} (rs : List (List Int)) (zs : List Int) (hN : N = rs.length) (hl : N = zs.length) (p : Int) (k : Nat) (hk : k ≤ N) :
    (dn N k).foldl (gstep rs zs) ((p, 0), (1, true)) = (((crd ((gaS rs).drop (N - k)) p).2, wrap64 (place (zs.drop (N - k)) ((gaT rs (crd (gaS rs) p).1).drop (N - k)))), (wrap64 (prod (zs.drop (N - k))), insB (zs.drop (N - k)) ((gaT rs (crd (gaS rs) p).1).drop (N - k)))) := by
  have := fold_dn N (gstep rs zs) (fun k => (((crd ((gaS rs).drop k) p).2, wrap64 (place (zs.drop k) ((gaT rs (crd (gaS rs) p).1).drop k))), (wrap64 (prod (zs.drop k)), insB (zs.drop k) ((gaT rs (crd (gaS rs) p).1).drop k)))) (fun k hk => by
    have hk' : k < rs.length := by omega
    have e1 := drop_nth zs k (by omega)
    have e2 := drop_nth (gaT rs (crd (gaS rs) p).1) k (by rw [gaT_length]; exact hk')
    have e3 := drop_nth (gaS rs) k (by rw [gaS_length]; exact hk')
    have e4 : gI rs (crd ((gaS rs).drop (k + 1)) p).2 k = nth (gaT rs (crd (gaS rs) p).1) k := by
      rw [gaT_nth hk', crd_at _ _ (by rw [gaS_length]; exact hk')]; rfl
    simp only [gstep, e4]
    rw [e1, e2, e3]
    simp only [crd, place, prod, insB, gw, w_mull]
    rw [Int.mul_comm (prod _) (nth zs k), Bool.and_comm]) k hk
  have h1 : (gaS rs).drop N = [] := List.drop_eq_nil_of_le (by rw [gaS_length]; omega)
  have h2 : (gaT rs (crd (gaS rs) p).1).drop N = [] := List.drop_eq_nil_of_le (by rw [gaT_length]; omega)
  have h3 : zs.drop N = [] := List.drop_eq_nil_of_le (by omega)
  have e0 : (((p, 0), (1, true)) : (Int × Int) × (Int × Bool)) = (((crd [] p).2, wrap64 (place [] [])), (wrap64 (prod []), insB [] [])) := by simp [crd, place, prod, insB, wrap64]
  rw [← this, h1, h2, h3, e0]
theorem g_all {N : Nat} {rs : List (List Int)} {zs : List Int} (hN : N = rs.length) (hl : N = zs.length) (p : Nat) : gB rs zs p (dn N N) = insB zs (gaT rs (cr (gaS rs) p)) ∧ gV rs zs p (dn N N) = wrap64 (place zs (gaT rs (cr (gaS rs) p))) := by
  have h := gfold rs zs hN hl p N (Nat.le_refl _)
  rw [Nat.sub_self] at h
  unfold gB gV
  rw [h]
  exact ⟨rfl, rfl⟩
theorem g_some {N : Nat} {rs : List (List Int)} {zs : List Int} (hN : N = rs.length) (hl : N = zs.length) (p : Nat) {k : Nat} (hk : k ≤ N) (h : gB rs zs p (dn N k) = false) : insB zs (gaT rs (cr (gaS rs) p)) = false := by
  have e := gfold rs zs hN hl p k hk
  unfold gB at h
  rw [e] at h
  cases hq : insB zs (gaT rs (cr (gaS rs) p))
  · rfl
  · rw [← h]; exact (insB_drop (N - k) hq).symm
/-! ### Numbers one behind the other -/
def runL (f : Int) (m : Nat) : List Int := (List.range m).map fun j => f + (j : Nat)
theorem runL_length (f : Int) (m : Nat) : (runL f m).length = m := by simp [runL]
theorem runL_nth (f : Int) {m j : Nat} (h : j < m) : nth (runL f m) j = f + j := by simp [runL, nth, h]
/-! ### Take, Drop -/
def endL (n l : Int) : List Int := runL (if 0 ≤ n then 0 else l + n) (tks n).toNat
def tkR (s n : List Int) : List (List Int) := (List.range n.length).map fun k => endL (nth n k) (nth s k)
theorem tkR_length (s n : List Int) : (tkR s n).length = n.length := by simp [tkR]
theorem tkR_at (s n : List Int) {k : Nat} (h : k < n.length) : rl (tkR s n) k = endL (nth n k) (nth s k) := by simp [tkR, rl, h]
theorem tks_nn (x : Int) : 0 ≤ tks x := by unfold tks; split <;> omega
theorem tkR_S (s n : List Int) : gaS (tkR s n) = tkS n := by
  refine nth_ext (by rw [gaS_length, tkR_length, tkS_length]) fun k hk => ?_
  rw [gaS_length, tkR_length] at hk
  rw [gaS_nth (by rw [tkR_length]; exact hk), tkR_at s n hk, tkS_nth n hk, endL, runL_length]
  have := tks_nn (nth n k)
  omega
theorem tkR_T {s n t : List Int} (ht : insB (tkS n) t = true) : gaT (tkR s n) t = addL t (tkU s n) := by
  have hl := insB_len ht
  rw [tkS_length] at hl
  refine nth_ext (by rw [gaT_length, tkR_length, addL_length, hl]) fun k hk => ?_
  rw [gaT_length, tkR_length] at hk
  have hb := ins_at ht (x := k) (by rw [tkS_length]; exact hk)
  rw [tkS_nth n hk] at hb
  rw [gaT_nth (by rw [tkR_length]; exact hk), tkR_at s n hk, endL, runL_nth _ (by omega), addL_nth _ _ (by omega), tkU_nth s n hk]
  omega
theorem tk_ga {s n dz : List Int} {c : Bool} (he : errOf (tkS n) = 0) : gaD c s dz (tkR s n) = tkD n c s dz := by
  unfold gaD tkD ptD
  rw [tkR_S]
  exact TA_congr he fun t ht => by unfold gaC ptC; rw [tkR_T ht]
def rst (n l : Int) : Int := if n < 0 then max (l + n) 0 else -max (l - n) 0
def lft (s n : List Int) : List Int := (List.range n.length).map fun k => rst (nth n k) (nth s k)
theorem lft_length (s n : List Int) : (lft s n).length = n.length := by simp [lft]
theorem lft_nth (s n : List Int) {k : Nat} (h : k < n.length) : nth (lft s n) k = rst (nth n k) (nth s k) := by simp [lft, nth, h]
theorem rst_tks {n l : Int} (h : 0 ≤ l) : tks (rst n l) = drs l n ∧ (if 0 ≤ rst n l then 0 else l + rst n l) = dru l n := by
  unfold rst tks drs dru
  repeat' split
  all_goals omega
theorem lft_S {s n : List Int} (hs : AllIn s) (hl : n.length = s.length) : tkS (lft s n) = drS s n := by
  refine nth_ext (by rw [tkS_length, lft_length, drS_length]) fun k hk => ?_
  rw [tkS_length, lft_length] at hk
  rw [tkS_nth _ (by rw [lft_length]; exact hk), lft_nth s n hk, drS_nth s n hk]
  exact (rst_tks (hs.nth k).1).1
theorem lft_U {s n : List Int} (hs : AllIn s) (hl : n.length = s.length) : tkU s (lft s n) = drU s n := by
  refine nth_ext (by rw [tkU_length, lft_length, drU_length]) fun k hk => ?_
  rw [tkU_length, lft_length] at hk
  rw [tkU_nth _ _ (by rw [lft_length]; exact hk), lft_nth s n hk, drU_nth s n hk]
  exact (rst_tks (hs.nth k).1).2
/-! ### Along one axis -/
def idR (s : List Int) : List (List Int) := s.map fun l => runL 0 l.toNat
def alR (s : List Int) (x : Nat) (L : List Int) : List (List Int) := (idR s).set x L
theorem idR_length (s : List Int) : (idR s).length = s.length := by simp [idR]
theorem idR_at (s : List Int) {k : Nat} (h : k < s.length) : rl (idR s) k = runL 0 (nth s k).toNat := by simp [idR, rl, nth, h]
theorem alR_length (s : List Int) (x : Nat) (L : List Int) : (alR s x L).length = s.length := by simp [alR, idR]
theorem rl_set (rs : List (List Int)) (x : Nat) (L : List Int) (h : x < rs.length) (k : Nat) : rl (rs.set x L) k = if k = x then L else rl rs k := by
  unfold rl
  simp only [List.getD_eq_getElem?_getD, List.getElem?_set]
  by_cases e : x = k
  · subst e; simp [h]
  · rw [if_neg e, if_neg (Ne.symm e)]
theorem alR_at (s : List Int) {x : Nat} (L : List Int) (hx : x < s.length) {k : Nat} (h : k < s.length) : rl (alR s x L) k = if k = x then L else runL 0 (nth s k).toNat := by
  unfold alR
  rw [rl_set _ _ _ (by rw [idR_length]; exact hx), idR_at s h]
theorem alR_S {s : List Int} (hs : AllIn s) {x : Nat} (L : List Int) (hx : x < s.length) : gaS (alR s x L) = s.set x L.length := by
  refine nth_ext (by rw [gaS_length, alR_length, List.length_set]) fun k hk => ?_
  rw [gaS_length, alR_length] at hk
  rw [gaS_nth (by rw [alR_length]; exact hk), alR_at s L hx hk, nth_set _ _ _ _ hx]
  split
  · rfl
  · rw [runL_length]; have := hs.nth k; omega
theorem alR_T {s t : List Int} {x : Nat} {L : List Int} (hx : x < s.length) (ht : insB (s.set x L.length) t = true) : gaT (alR s x L) t = t.set x (nth L (nth t x).toNat) := by
  have h := (insS hx).1 ht
  refine nth_ext (by rw [gaT_length, alR_length, List.length_set, h.1]) fun k hk => ?_
  rw [gaT_length, alR_length] at hk
  rw [gaT_nth (by rw [alR_length]; exact hk), alR_at s L hx hk, nth_set _ _ _ _ (by omega)]
  split
  · rename_i e; rw [e]
  · rename_i e; have := h.2.1 k hk e; rw [runL_nth _ (by omega)]; omega
/-! ### Keep, Spread -/
def kpl (m : List Int) : Nat → List Int
  | 0 => []
  | i + 1 => if nth m i = 1 then kpl m i ++ [(i : Int)] else kpl m i
theorem kpl_fact {m : List Int} (h : mskB m = true) : ∀ i, i ≤ m.length → ((kpl m i).length : Int) = rnk m i ∧ ∀ j, j < (kpl m i).length → nth (kpl m i) j = pos1 m j
  | 0, _ => ⟨rfl, fun j hj => by simp [kpl] at hj⟩
  | i + 1, hi => by
    obtain ⟨h1, h2⟩ := kpl_fact h i (by omega)
    rw [rnk_succ m (by omega)]
    simp only [kpl]
    rcases mskB_nth h (j := i) (by omega) with e | e
    · rw [if_neg (by omega)]; exact ⟨by omega, h2⟩
    · rw [if_pos e]
      refine ⟨by simp only [List.length_append, List.length_cons, List.length_nil]; omega, fun j hj => ?_⟩
      by_cases hlt : j < (kpl m i).length
      · rw [nth_append_left _ _ _ hlt]; exact h2 j hlt
      · simp only [List.length_append, List.length_cons, List.length_nil] at hj
        obtain rfl : j = (kpl m i).length := by omega
        have := pos1_rnk h (i := i) (by omega) e
        rw [← h1, Int.toNat_natCast] at this
        rw [this]
        simp [nth]
theorem kpl_le (m : List Int) : ∀ i, (kpl m i).length ≤ i
  | 0 => Nat.le_refl _
  | i + 1 => by
    have := kpl_le m i
    simp only [kpl]
    split
    · simp only [List.length_append, List.length_cons, List.length_nil]; omega
    · omega
theorem kpl_64 (m : List Int) : ∀ i j, nth (kpl m i) j ≤ i ∧ 0 ≤ nth (kpl m i) j
  | 0, j => by simp [kpl, nth]
  | i + 1, j => by
    have := kpl_64 m i j
    simp only [kpl]
    split
    · by_cases hlt : j < (kpl m i).length
      · rw [nth_append_left _ _ _ hlt]; omega
      · by_cases he : j = (kpl m i).length
        · subst he; simp [nth]; omega
        · have : nth (kpl m i ++ [(i : Int)]) j = 0 := by
            unfold nth
            rw [List.getD_eq_getElem?_getD, List.getElem?_eq_none (by simp only [List.length_append, List.length_cons, List.length_nil]; omega)]; rfl
          omega
    · omega
theorem kp_ga {m : List Int} {x : Nat} {c : Bool} {s dz : List Int} (h : kpE m x c s dz = 0) : gaS (alR s x (kpl m m.length)) = kpS m x s ∧ gaD c s dz (alR s x (kpl m m.length)) = kpD m x s dz := by
  obtain ⟨h1, h2, h3, h4⟩ := kpZ.1 h
  have hz := errOf_zero.1 (flawE_zero h1).1
  have hk := kpl_fact h4 m.length (Nat.le_refl _)
  rw [rnk_all] at hk
  have e : gaS (alR s x (kpl m m.length)) = kpS m x s := by rw [alR_S hz.2.1 _ h2, hk.1]; rfl
  refine ⟨e, ?_⟩
  unfold gaD kpD
  rw [e]
  refine TA_congr (kp_err h) fun t ht => ?_
  have ht' : insB (s.set x (kpl m m.length).length) t = true := by rw [hk.1]; exact ht
  have hb := (insS h2).1 ht'
  have eT : gaT (alR s x (kpl m m.length)) t = kpT m x t := by rw [alR_T h2 ht', hk.2 _ (by omega)]; rfl
  unfold gaC
  rw [eT, if_pos (kp_in h ht).1]
def spl (m : List Int) : List Int := (List.range m.length).map fun k => if nth m k = 1 then rnk m k else -1
theorem spl_length (m : List Int) : (spl m).length = m.length := by simp [spl]
theorem spl_nth (m : List Int) {k : Nat} (h : k < m.length) : nth (spl m) k = if nth m k = 1 then rnk m k else -1 := by simp [spl, nth, h]
theorem sp_ga {m : List Int} {x : Nat} {c : Bool} {s dz : List Int} (h : spE m x c s dz = 0) : gaS (alR s x (spl m)) = spS m x s ∧ gaD c s dz (alR s x (spl m)) = spD m x c s dz := by
  obtain ⟨h1, h2, h3, h4, h5⟩ := spZ.1 h
  have hz := errOf_zero.1 (flawE_zero h1).1
  have e : gaS (alR s x (spl m)) = spS m x s := by rw [alR_S hz.2.1 _ h2, spl_length]; rfl
  refine ⟨e, ?_⟩
  unfold gaD spD
  rw [e]
  refine TA_congr h5 fun t ht => ?_
  have ht' : insB (s.set x (spl m).length) t = true := by rw [spl_length]; exact ht
  have hb := (insS h2).1 ht'
  rw [spl_length] at hb
  have hj : (nth t x).toNat < m.length := by omega
  have eT := alR_T h2 ht'
  rw [spl_nth m hj] at eT
  unfold gaC spC
  rcases mskB_nth h3 hj with e0 | e1
  · rw [if_neg (by rw [e0]; decide)] at eT
    rw [eT, if_pos e0, if_neg]
    intro hq
    have := ins_at hq h2
    rw [nth_set_self (by omega)] at this
    omega
  · rw [if_pos e1] at eT
    rw [eT, if_neg (show ¬ nth m (nth t x).toNat = 0 by rw [e1]; decide), if_pos (sp_in h ht (by rw [e1]; decide))]
theorem sp_err6 {m : List Int} {x : Nat} {s : List Int} (hs : AllIn s) (hx : x < s.length) : gaS (alR s x (spl m)) = spS m x s := by rw [alR_S hs _ hx, spl_length]; rfl
end Go.Proofs.Ytcpmendkocnlhab
/-! Cutf: A slice of slices of integers. -/
namespace Go.Proofs.Ytcpmendkocnlhab
open Go.RowKit
set_option linter.unusedVariables false

abbrev Rw : Type := (Option Addr × Nat) × List Int
def rv (r : Rw) : Value := .slice r.1.1 r.2.length r.1.2
def rwa (rs : List Rw) (j : Nat) : Rw := rs.getD j ((none, 0), [])
def rwl (rs : List Rw) : List (List Int) := rs.map fun r => r.2
theorem rwl_length (rs : List Rw) : (rwl rs).length = rs.length := by simp [rwl]
theorem rwl_at (rs : List Rw) (j : Nat) : rl (rwl rs) j = (rwa rs j).2 := by
  unfold rl rwl rwa
  simp only [List.getD_eq_getElem?_getD, List.getElem?_map]
  cases rs[j]? <;> rfl
theorem rwa_out (rs : List Rw) {j : Nat} (h : rs.length ≤ j) : rwa rs j = ((none, 0), []) := by
  unfold rwa; rw [List.getD_eq_getElem?_getD, List.getElem?_eq_none h]; rfl
theorem rwa_snoc (rs : List Rw) (r : Rw) (j : Nat) : rwa (rs ++ [r]) j = if j = rs.length then r else rwa rs j := by
  unfold rwa
  simp only [List.getD_eq_getElem?_getD]
  by_cases h : j < rs.length
  · rw [List.getElem?_append_left h, if_neg (by omega)]
  · by_cases e : j = rs.length
    · subst e; simp
    · rw [List.getElem?_eq_none (by simp; omega), if_neg e, List.getElem?_eq_none (by omega)]
theorem rwa_set (rs : List Rw) (x : Nat) (r : Rw) (h : x < rs.length) (j : Nat) : rwa (rs.set x r) j = if j = x then r else rwa rs j := by
  unfold rwa
  simp only [List.getD_eq_getElem?_getD, List.getElem?_set]
  by_cases e : x = j
  · subst e; simp [h]
  · rw [if_neg e, if_neg (Ne.symm e)]
theorem rwl_set (rs : List Rw) (x : Nat) (r : Rw) : rwl (rs.set x r) = (rwl rs).set x r.2 := by simp [rwl]
theorem rwl_snoc (rs : List Rw) (r : Rw) : rwl (rs ++ [r]) = rwl rs ++ [r.2] := by simp [rwl]
theorem rv_out : rv ((none, 0), []) = .slice none 0 0 := rfl
/-- Each of the lists lies in blocks from lo on. -/
def NewR (lo : Nat) (W : World) (rs : List Rw) : Prop := ∀ j, j < rs.length → NewC lo W (rwa rs j).1.1 (rwa rs j).2 (rwa rs j).1.2
def IsR (n : Nat) (W : World) (a : Option Addr) (rs : List Rw) : Prop :=
  (rs = [] ∨ ∃ b off, a = some ⟨b, off, none⟩ ∧ b < n ∧ ∀ j, j < rs.length → W.cell? ⟨b, off + j, none⟩ = some (rv (rwa rs j))) ∧ ∀ j, j < rs.length → IsC n W (rwa rs j).1.1 (rwa rs j).2 (rwa rs j).1.2
section
variable {n n' lo : Nat} {W W' : World} {a : Option Addr} {rs : List Rw}
theorem IsR.below (hB : Below n W W') (h : IsR n W a rs) : IsR n W' a rs := by
  refine ⟨?_, fun j hj => (h.2 j hj).below hB⟩
  rcases h.1 with e | ⟨b, off, e, hb, hc⟩
  · exact .inl e
  · exact .inr ⟨b, off, e, hb, fun j hj => (hB.cell (p := ⟨b, off + j, none⟩) hb).trans (hc j hj)⟩
theorem IsR.mono (h : n ≤ n') (k : IsR n W a rs) : IsR n' W a rs := by
  refine ⟨?_, fun j hj => (k.2 j hj).mono h⟩
  rcases k.1 with e | ⟨b, off, e, hb, hc⟩
  · exact .inl e
  · exact .inr ⟨b, off, e, by omega, hc⟩
theorem IsR.at (h : IsR n W a rs) {j : Nat} (hj : j < rs.length) : ∃ b off, a = some ⟨b, off, none⟩ ∧ b < n ∧ ∀ j, j < rs.length → W.cell? ⟨b, off + j, none⟩ = some (rv (rwa rs j)) := by
  rcases h.1 with e | h
  · subst e; simp at hj
  · exact h
theorem IsR.row (h : IsR n W a rs) {j : Nat} (hj : j < rs.length) : IsC n W (rwa rs j).1.1 (rwa rs j).2 (rwa rs j).1.2 := h.2 j hj
theorem IsR.kept {Bs : Nat} (hk : Kpt n Bs W W') (h : IsR n W a rs) : IsR n W' a rs := by
  refine ⟨?_, fun j hj => ⟨(h.2 j hj).1.kept hk, (h.2 j hj).2⟩⟩
  rcases h.1 with e | ⟨b, off, e, hb, hc⟩
  · exact .inl e
  · exact .inr ⟨b, off, e, hb, fun j hj => (World.cell?_of_block (w := W) (hk b (.inl hb))).trans (hc j hj)⟩
theorem NewR.nil (lo : Nat) (W : World) : NewR lo W [] := fun j hj => by simp at hj
theorem NewR.go (hB : Below W.heap.size W W') (h : NewR lo W rs) : NewR lo W' rs := fun j hj => (h j hj).go hB
theorem NewR.set {p : Addr} (hp : p.block < lo) (v : Value) (h : NewR lo W rs) : NewR lo (W.setCell p v) rs := fun j hj => ⟨(h j hj).1.set hp v, (h j hj).2⟩
theorem NewR.snoc {g : Option Addr} {c : Nat} {z : List Int} (h : NewR lo W rs) (hz : NewC lo W g z c) : NewR lo W (rs ++ [((g, c), z)]) := fun j hj => by
  rw [rwa_snoc]
  split
  · exact hz
  · rename_i e
    simp only [List.length_append, List.length_cons, List.length_nil] at hj
    exact h j (by omega)
/-- A row of slices that is whole, as a slice of slices. -/
theorem NewR.is {B : Nat} {t : TypeId} (h : NewR lo W rs) (hr : W.rowIs B t rs.length (fun j => rv (rwa rs j))) : IsR W.heap.size W (some ⟨B, 0, none⟩) rs :=
  ⟨.inr ⟨B, 0, rfl, hr.lt, fun j hj => by rw [Nat.zero_add]; exact hr.cell hj⟩, fun j hj => (h j hj).ints⟩
theorem row_snoc {B n : Nat} {t : TypeId} (g : Option Addr) (c : Nat) (z : List Int) (h : W.rowIs B t n (fun j => rv (rwa rs j))) : (W.setCell ⟨B, rs.length, none⟩ (.slice g z.length c)).rowIs B t n (fun j => rv (rwa (rs ++ [((g, c), z)]) j)) := by
  refine (h.set rs.length _).congr fun j hj => ?_
  rw [rwa_snoc]
  by_cases e : j = rs.length
  · rw [if_pos e, if_pos e]; rfl
  · rw [if_neg e, if_neg e]
theorem row_setR {B n : Nat} {t : TypeId} (g : Option Addr) (c : Nat) (z : List Int) {x : Nat} (hx : x < rs.length) (h : W.rowIs B t n (fun j => rv (rwa rs j))) : (W.setCell ⟨B, x, none⟩ (.slice g z.length c)).rowIs B t n (fun j => rv (rwa (rs.set x ((g, c), z)) j)) := by
  refine (h.set x _).congr fun j hj => ?_
  rw [rwa_set _ _ _ hx]
  by_cases e : j = x
  · rw [if_pos e, if_pos e]; rfl
  · rw [if_neg e, if_neg e]
end
end Go.Proofs.Ytcpmendkocnlhab
/-! Cuts: The small functions of package cut: fills, numbers one behind the other, what is asked of a mask, blocks. -/
namespace Go.Proofs.Ytcpmendkocnlhab
open Go.RowKit
set_option linter.unusedVariables false

set_option maxRecDepth 100000 in
set_option maxHeartbeats 1000000 in
theorem block_any (a : Option Addr) (cap : Nat) (zs : List Int) (x : Nat) (hx : x < zs.length) (he : errOf zs = 0) (n₀ : Nat) (w : World) (hI : IsC n₀ w a zs cap) :
    Calls Try.prog 31 #[.int .i64 (x : Nat), .slice a zs.length cap] w fun e w' => e = .returned (.int .i64 (blk zs x)) ∧ w' = w := by
  obtain ⟨hI, hcap⟩ := hI
  obtain ⟨b, off, rfl, hb, hcell⟩ := hI.at hx
  have hz := errOf_zero.1 he
  have hl6 : zs.length ≤ 6 := hz.1
  have HA : Hid (AllIn zs ∧ prod zs ≤ 4096) := ⟨hz.2.1, hz.2.2⟩
  have HC : Hid (∀ j, j < zs.length → w.cell? ⟨b, off + j, none⟩ = some (.int .i64 (nth zs j))) := hcell
  obtain ⟨m, hm⟩ : ∃ m, zs.length = x + m := ⟨zs.length - x, by omega⟩
  obtain ⟨s, hs⟩ : ∃ s, s = zs.drop x := ⟨_, rfl⟩
  have hsl : s.length = m := by rw [hs, List.length_drop]; omega
  have HS : Hid (s.length = m ∧ (∀ j, j < m → nth s j = nth zs (x + j)) ∧ AllIn s ∧ prod s = blk zs x) := ⟨hsl, fun j hj => by rw [hs]; simp [nth], by rw [hs]; exact HA.out.1.drop _, by rw [hs]; rfl⟩
  have HW : Hid (∀ k, k < m → 0 ≤ prod (s.take (k + 1)) ∧ prod (s.take (k + 1)) ≤ 1152921504606846976) := by
    intro k hk
    by_cases h5 : k + 1 ≤ 5
    · refine prod_60 (fun y hy => HS.out.2.2.1 y (List.mem_of_mem_take hy)) ?_
      rw [List.length_take]; omega
    · have e : s.take (k + 1) = zs := by
        have hx0 : x = 0 := by omega
        rw [List.take_of_length_le (by omega), hs, hx0, List.drop_zero]
      rw [e]
      have := prod_nonneg HA.out.1
      have := HA.out.2
      omega
  clear hs hsl hcell HA
  have hx1 : x < 9223372036854775806 := by omega
  have hm6 : m ≤ 6 := by omega
  go_enter Try.func31, Try.ntmps31
  go_wp2_with fail
  go_loop [5, 12] (fun pv i => ∃ k : Nat, k ≤ m ∧ i = .int .i64 k ∧ pv = .int .i64 (prod (s.take k))) (fun _ i => m - (intOf i).toNat)
  case atStart => exact ⟨0, Nat.zero_le _, rfl, rfl⟩
  case round =>
    obtain ⟨k, hk, rfl, rfl⟩ := hrel
    by_cases hlt : k < m
    · have hc : w.cell? ⟨b, off + x + k, none⟩ = some (.int .i64 (nth s k)) := by
        rw [HS.out.2.1 k hlt, ← HC.out (x + k) (by omega), Nat.add_assoc]
      have HP : Hid (prod (s.take k) * nth s k = prod (s.take (k + 1)) ∧ 0 ≤ prod (s.take (k + 1)) ∧ prod (s.take (k + 1)) ≤ 1152921504606846976) :=
        ⟨(prod_take1 s k (by rw [HS.out.1]; exact hlt)).symm, HW.out k hlt⟩
      obtain ⟨P, hP⟩ : ∃ P, P = prod (s.take k) := ⟨_, rfl⟩
      obtain ⟨Q, hQ⟩ : ∃ Q, Q = prod (s.take (k + 1)) := ⟨_, rfl⟩
      rw [← hP]
      have HPQ : Hid (P * nth s k = Q ∧ 0 ≤ Q ∧ Q ≤ 1152921504606846976) := by rw [hP, hQ]; exact HP.out
      have HQ : Hid (Q = prod (s.take (k + 1))) := hQ
      have hw : IntKind.i64.wrap (P * nth s k) = Q := by rw [HPQ.out.1]; exact IntWalk.i64_in _ (by have := HPQ.out.2; omega)
      clear hP hQ HP
      go_wp2_with fail
      exact ⟨⟨k + 1, by omega, by go_num, int_eq HQ.out⟩, by simp [intOf]; omega⟩
    · obtain rfl : k = m := by omega
      have hfin : Hid (prod (s.take k) = blk zs x) := by
        have h := HS.out
        rw [List.take_of_length_le (by omega)]
        exact h.2.2.2
      go_wp2_with fail
      go_ret
      exact ⟨ret_int hfin.out, rfl⟩
end Go.Proofs.Ytcpmendkocnlhab
/-! Cutp: What the program asks of two arrays that are to be joined. -/
namespace Go.Proofs.Ytcpmendkocnlhab
open Go.RowKit
set_option linter.unusedVariables false

/-- What is wrong with two arrays on an axis, ahead of all that is reckoned. -/
def jnP (x : Int) (c : Bool) (s dz : List Int) (c' : Bool) (s' dz' : List Int) : Int :=
  if flawE c s dz ≠ 0 then flawE c s dz else if flawE c' s' dz' ≠ 0 then flawE c' s' dz' else if s.length ≠ s'.length then 3 else if x < 0 ∨ (s.length : Int) ≤ x then 5 else if othB x.toNat s s' = false then 4 else if c ≠ c' then 6 else 0
section
variable {x : Int} {c : Bool} {s dz : List Int} {c' : Bool} {s' dz' : List Int}
theorem jnP_zero : jnP x c s dz c' s' dz' = 0 ↔ flawE c s dz = 0 ∧ flawE c' s' dz' = 0 ∧ s.length = s'.length ∧ 0 ≤ x ∧ x.toNat < s.length ∧ othB x.toNat s s' = true ∧ c = c' := by
  unfold jnP
  by_cases h1 : flawE c s dz = 0
  · rw [if_neg (by simpa using h1)]
    by_cases h2 : flawE c' s' dz' = 0
    · rw [if_neg (by simpa using h2)]
      by_cases h3 : s.length = s'.length
      · rw [if_neg (by simpa using h3)]
        by_cases h4 : x < 0 ∨ (s.length : Int) ≤ x
        · rw [if_pos h4]; exact ⟨fun e => absurd e (by decide), fun e => by omega⟩
        · rw [if_neg h4]
          cases h5 : othB x.toNat s s'
          · simp
          · rw [if_neg (by simp)]
            by_cases h6 : c = c'
            · rw [if_neg (by simpa using h6)]
              exact ⟨fun e => ⟨h1, h2, h3, by omega, by omega, rfl, h6⟩, fun e => rfl⟩
            · rw [if_pos h6]; exact ⟨fun e => absurd e (by decide), fun e => absurd e.2.2.2.2.2.2 h6⟩
      · rw [if_pos h3]; exact ⟨fun e => absurd e (by decide), fun e => absurd e.2.2.1 h3⟩
    · rw [if_pos h2]; exact ⟨fun e => absurd e h2, fun e => absurd e.2.1 h2⟩
  · rw [if_pos h1]; exact ⟨fun e => absurd e h1, fun e => absurd e.1 h1⟩
theorem jnE_pair (h : jnP x c s dz c' s' dz' ≠ 0) : jnE x c s dz c' s' dz' = jnP x c s dz c' s' dz' := by
  unfold jnE jnP at *
  by_cases h1 : flawE c s dz = 0
  · rw [if_neg (show ¬ flawE c s dz ≠ 0 by simpa using h1)] at h
    rw [if_neg (show ¬ flawE c s dz ≠ 0 by simpa using h1), if_neg (show ¬ flawE c s dz ≠ 0 by simpa using h1)]
    by_cases h2 : flawE c' s' dz' = 0
    · rw [if_neg (show ¬ flawE c' s' dz' ≠ 0 by simpa using h2)] at h
      rw [if_neg (show ¬ flawE c' s' dz' ≠ 0 by simpa using h2), if_neg (show ¬ flawE c' s' dz' ≠ 0 by simpa using h2)]
      by_cases h3 : s.length = s'.length
      · rw [if_neg (show ¬ s.length ≠ s'.length by simpa using h3)] at h
        rw [if_neg (show ¬ s.length ≠ s'.length by simpa using h3), if_neg (show ¬ s.length ≠ s'.length by simpa using h3)]
        by_cases h4 : x < 0 ∨ (s.length : Int) ≤ x
        · rw [if_pos h4, if_pos h4]
        · rw [if_neg h4] at h
          rw [if_neg h4, if_neg h4]
          by_cases h5 : othB x.toNat s s' = false
          · rw [if_pos h5, if_pos h5]
          · rw [if_neg h5] at h
            rw [if_neg h5, if_neg h5]
            by_cases h6 : c = c'
            · rw [if_neg (show ¬ c ≠ c' by simpa using h6)] at h; exact absurd rfl h
            · rw [if_pos h6, if_pos h6]
      · rw [if_pos h3, if_pos h3]
    · rw [if_pos h2, if_pos h2]
  · rw [if_pos h1, if_pos h1]
theorem jnE_fit (h : jnP x c s dz c' s' dz' = 0) : jnE x c s dz c' s' dz' = errOf (jnS x.toNat s s') := by
  obtain ⟨h1, h2, h3, h4, h5, h6, h7⟩ := jnP_zero.1 h
  unfold jnE
  rw [if_neg (by simpa using h1), if_neg (by simpa using h2), if_neg (by simpa using h3), if_neg (by omega), if_neg (by rw [h6]; decide), if_neg (by simpa using h7)]
theorem jnP_a (h : flawE c s dz ≠ 0) : jnP x c s dz c' s' dz' = flawE c s dz := by unfold jnP; rw [if_pos h]
theorem jnP_b (h1 : flawE c s dz = 0) (h : flawE c' s' dz' ≠ 0) : jnP x c s dz c' s' dz' = flawE c' s' dz' := by unfold jnP; rw [if_neg (by simpa using h1), if_pos h]
theorem jnP_3 (h1 : flawE c s dz = 0) (h2 : flawE c' s' dz' = 0) (h : s.length ≠ s'.length) : jnP x c s dz c' s' dz' = 3 := by unfold jnP; rw [if_neg (by simpa using h1), if_neg (by simpa using h2), if_pos h]
theorem jnP_5 (h1 : flawE c s dz = 0) (h2 : flawE c' s' dz' = 0) (h3 : s.length = s'.length) (h : x < 0 ∨ (s.length : Int) ≤ x) : jnP x c s dz c' s' dz' = 5 := by unfold jnP; rw [if_neg (by simpa using h1), if_neg (by simpa using h2), if_neg (by simpa using h3), if_pos h]
theorem jnP_4 (h1 : flawE c s dz = 0) (h2 : flawE c' s' dz' = 0) (h3 : s.length = s'.length) (h4 : ¬ (x < 0 ∨ (s.length : Int) ≤ x)) (h : othB x.toNat s s' = false) : jnP x c s dz c' s' dz' = 4 := by unfold jnP; rw [if_neg (by simpa using h1), if_neg (by simpa using h2), if_neg (by simpa using h3), if_neg h4, if_pos h]
theorem jnP_6 (h1 : flawE c s dz = 0) (h2 : flawE c' s' dz' = 0) (h3 : s.length = s'.length) (h4 : ¬ (x < 0 ∨ (s.length : Int) ≤ x)) (h5 : othB x.toNat s s' = true) (h : c ≠ c') : jnP x c s dz c' s' dz' = 6 := by unfold jnP; rw [if_neg (by simpa using h1), if_neg (by simpa using h2), if_neg (by simpa using h3), if_neg h4, if_neg (by rw [h5]; decide), if_pos h]
theorem jnP_0 (h1 : flawE c s dz = 0) (h2 : flawE c' s' dz' = 0) (h3 : s.length = s'.length) (h4 : ¬ (x < 0 ∨ (s.length : Int) ≤ x)) (h5 : othB x.toNat s s' = true) (h : c = c') : jnP x c s dz c' s' dz' = 0 := jnP_zero.2 ⟨h1, h2, h3, by omega, by omega, h5, h⟩
theorem oth_bad {x k : Nat} (hk : k < s.length) (hn : k ≠ x) (h : nth s k ≠ nth s' k) : othB x s s' = false := by
  cases e : othB x s s'
  · rfl
  · exact absurd (othB_iff.1 e k hk hn) h
end
set_option maxRecDepth 100000 in
set_option maxHeartbeats 4000000 in
theorem pair_any (x : Int) (hx : In64 x) (c : Bool) (sa : Option Addr) (sc : Nat) (sz : List Int) (da : Option Addr) (dc : Nat) (dz : List Int) (c' : Bool) (sa' : Option Addr) (sc' : Nat) (sz' : List Int) (da' : Option Addr) (dc' : Nat) (dz' : List Int) (h1 : sz.length ≤ 9223372036854775807) (h2 : dz.length ≤ 9223372036854775807) (h1' : sz'.length ≤ 9223372036854775807) (h2' : dz'.length ≤ 9223372036854775807) (w : World)
    (hs : IsInts w.heap.size w sa sz) (hd : IsInts w.heap.size w da dz) (hs' : IsInts w.heap.size w sa' sz') (hd' : IsInts w.heap.size w da' dz') :
    Calls Try.prog 29 #[.int .i64 x, .agg #[.bool c, .slice sa sz.length sc, .slice da dz.length dc], .agg #[.bool c', .slice sa' sz'.length sc', .slice da' dz'.length dc']] w fun e w' => e = .returned (errV (jnP x c sz dz c' sz' dz')) ∧ Below w.heap.size w w' := by
  have HI : Hid (IsInts w.heap.size w sa sz ∧ IsInts w.heap.size w da dz ∧ IsInts w.heap.size w sa' sz' ∧ IsInts w.heap.size w da' dz') := ⟨hs, hd, hs', hd'⟩
  have HB0 : Hid (Below w.heap.size w ((w.alloc (.cells #[.bool c, .slice sa sz.length sc, .slice da dz.length dc] 24)).alloc (.cells #[.bool c', .slice sa' sz'.length sc', .slice da' dz'.length dc'] 24))) := ((Below.refl _ w).alloc (Nat.le_refl _) _).alloc (by simp) _
  have pa := (Abx.new w (.bool c) (.slice sa sz.length sc) (.slice da dz.length dc)).al (.cells #[.bool c', .slice sa' sz'.length sc', .slice da' dz'.length dc'] 24)
  have pb := Abx.new1 w (.cells #[.bool c, .slice sa sz.length sc, .slice da dz.length dc] 24) (.bool c') (.slice sa' sz'.length sc') (.slice da' dz'.length dc')
  have p0 := pa.c0
  have p1 := pa.c1
  have p2 := pa.c2
  obtain ⟨hx0, hx1⟩ := hx
  clear hs hd hs' hd'
  by_cases h3 : flawE c sz dz = 0
  · have H3 : Hid (flawE c sz dz = 0) := h3
    clear h3
    go_enter Try.func29, Try.ntmps29
    go_wp2_with fail
    refine (check_ok c sa sc sz da dc dz h1 h2 _ ((HI.out.1.below HB0.out).mono HB0.out.size) ((HI.out.2.1.below HB0.out).mono HB0.out.size) H3.out).mono ?_
    rintro e v1 ⟨rfl, hC⟩
    have HB1 : Hid (Below w.heap.size w v1) := HB0.out.trans (hC.mono HB0.out.size)
    have HP1 : Hid (Abx v1 w.heap.size (.bool c) (.slice sa sz.length sc) (.slice da dz.length dc)) := pa.go hC
    have HQ1 : Hid (Abx v1 (w.heap.size + 1) (.bool c') (.slice sa' sz'.length sc') (.slice da' dz'.length dc')) := pb.go hC
    clear hC pa pb p0 p1 p2 HB0
    have q0 := HQ1.out.c0
    have q1 := HQ1.out.c1
    have q2 := HQ1.out.c2
    by_cases h4 : flawE c' sz' dz' = 0
    · have H4 : Hid (flawE c' sz' dz' = 0) := h4
      clear h4
      go_wp2_with fail
      refine (check_ok c' sa' sc' sz' da' dc' dz' h1' h2' v1 ((HI.out.2.2.1.below HB1.out).mono HB1.out.size) ((HI.out.2.2.2.below HB1.out).mono HB1.out.size) H4.out).mono ?_
      rintro e v2 ⟨rfl, hC⟩
      have HB2 : Hid (Below w.heap.size w v2) := HB1.out.trans (hC.mono HB1.out.size)
      have HP2 : Hid (Abx v2 w.heap.size (.bool c) (.slice sa sz.length sc) (.slice da dz.length dc)) := HP1.out.go hC
      have HQ2 : Hid (Abx v2 (w.heap.size + 1) (.bool c') (.slice sa' sz'.length sc') (.slice da' dz'.length dc')) := HQ1.out.go hC
      clear hC q0 q1 q2 HP1 HQ1 HB1
      have a1 := HP2.out.c1
      have b1 := HQ2.out.c1
      by_cases hl : sz.length = sz'.length
      · have HL : Hid (sz.length = sz'.length) := hl
        have hne : ((sz.length : Int) != (sz'.length : Int)) = false := by simp [hl]
        clear hl
        by_cases hax : x < 0 ∨ (sz.length : Int) ≤ x
        · have HE : Hid (jnP x c sz dz c' sz' dz' = 5) := jnP_5 H3.out H4.out HL.out hax
          rcases hax with hax | hax
          all_goals
            go_wp2_with fail
            go_ret
            exact ⟨by rw [HE.out]; rfl, HB2.out⟩
        · obtain ⟨xn, rfl⟩ : ∃ xn : Nat, x = (xn : Int) := ⟨x.toNat, by omega⟩
          have HX : Hid (¬ ((xn : Int) < 0 ∨ (sz.length : Int) ≤ (xn : Int))) := hax
          have hxl : xn < sz.length := by omega
          have t0 : ¬ ((sz.length : Int) ≤ (xn : Int)) := by omega
          clear hax hx0 hx1
          go_wp2_with fail
          clear hne t0
          go_loopw [42] (fun i wr => ∃ k : Nat, k ≤ sz.length ∧ i = .int .i64 k ∧ Hid (∀ j, j < k → j ≠ xn → nth sz j = nth sz' j) ∧ wr = v2) (fun i _ => sz.length - (intOf i).toNat)
          case atStart => exact ⟨0, Nat.zero_le _, rfl, fun j hj => absurd hj (Nat.not_lt_zero j), rfl⟩
          case round =>
            obtain ⟨k, hk, rfl, HA, hv⟩ := hrel
            obtain rfl := hv.symm
            by_cases hlt : k < sz.length
            · obtain ⟨bs, os, rfl, hbs, hcS⟩ := (HI.out.1.below HB2.out).at hlt
              have cs := hcS k hlt
              have hlt' : k < sz'.length := by rw [← HL.out]; exact hlt
              obtain ⟨bt, ot, rfl, hbt, hcT⟩ := (HI.out.2.2.1.below HB2.out).at hlt'
              have ct := hcT k hlt'
              clear hcS hcT
              by_cases hkx : k = xn
              · have HA2 : Hid (∀ j, j < k + 1 → j ≠ xn → nth sz j = nth sz' j) := fun j hj hn => HA.out j (by omega) hn
                have t1 : ((k : Int) != (xn : Int)) = false := by simp [hkx]
                clear hkx
                go_wp2_with fail
                exact ⟨⟨k + 1, by omega, by go_num, HA2, by first | rfl | trivial⟩, by simp [intOf]; omega⟩
              · have t1 : ((k : Int) != (xn : Int)) = true := by simp; omega
                have t2 : ¬ ((k : Int) = (xn : Int)) := by omega
                by_cases hc : nth sz k = nth sz' k
                · have HA2 : Hid (∀ j, j < k + 1 → j ≠ xn → nth sz j = nth sz' j) := fun j hj hn => by
                    by_cases e : j = k
                    · subst e; exact hc
                    · exact HA.out j (by omega) hn
                  rw [hc] at cs
                  clear hc hkx
                  go_wp2_with fail
                  exact ⟨⟨k + 1, by omega, by go_num, HA2, by first | rfl | trivial⟩, by simp [intOf]; omega⟩
                · have HE : Hid (jnP (xn : Int) c sz dz c' sz' dz' = 4) := jnP_4 H3.out H4.out HL.out HX.out (by rw [Int.toNat_natCast]; exact oth_bad hlt hkx hc)
                  have t3 : (nth sz k != nth sz' k) = true := by simpa using hc
                  clear hkx
                  go_wp2_with fail
                  go_ret
                  exact ⟨by rw [HE.out]; rfl, HB2.out⟩
            · obtain rfl : k = sz.length := by omega
              have HO : Hid (othB (xn : Int).toNat sz sz' = true) := by show _ = _; rw [Int.toNat_natCast]; exact othB_iff.2 HA.out
              have e0 := HP2.out.c0
              have g0 := HQ2.out.c0
              by_cases hcc : c = c'
              · have HE : Hid (jnP (xn : Int) c sz dz c' sz' dz' = 0) := jnP_0 H3.out H4.out HL.out HX.out HO.out hcc
                have t3 : (c != c') = false := by simp [hcc]
                have t4 : (c == c') = true := by simp [hcc]
                clear hcc
                go_wp2_with fail
                go_ret
                exact ⟨by rw [HE.out]; rfl, HB2.out⟩
              · have HE : Hid (jnP (xn : Int) c sz dz c' sz' dz' = 6) := jnP_6 H3.out H4.out HL.out HX.out HO.out hcc
                have t3 : (c != c') = true := by simpa using hcc
                have t4 : (c == c') = false := by simpa using hcc
                go_wp2_with fail
                go_ret
                exact ⟨by rw [HE.out]; rfl, HB2.out⟩
      · have HE : Hid (jnP x c sz dz c' sz' dz' = 3) := jnP_3 H3.out H4.out hl
        have hne : ((sz.length : Int) != (sz'.length : Int)) = true := by simp; omega
        go_wp2_with fail
        go_ret
        exact ⟨by rw [HE.out]; rfl, HB2.out⟩
    · have H4 : Hid (flawE c' sz' dz' ≠ 0) := h4
      have HE : Hid (jnP x c sz dz c' sz' dz' = flawE c' sz' dz') := jnP_b H3.out h4
      clear h4
      go_wp2_with fail
      refine (check_no c' sa' sc' sz' da' dc' dz' h1' h2' v1 ((HI.out.2.2.1.below HB1.out).mono HB1.out.size) ((HI.out.2.2.2.below HB1.out).mono HB1.out.size) H4.out).mono ?_
      rintro e v2 ⟨rfl, hC⟩
      have HB2 : Hid (Below w.heap.size w v2) := HB1.out.trans (hC.mono HB1.out.size)
      clear hC
      go_wp2_with fail
      go_ret
      exact ⟨by first | (rw [HE.out, errV_pos H4.out]; done) | (rw [HE.out, errV_pos H4.out]; rfl), HB2.out⟩
  · have H3 : Hid (flawE c sz dz ≠ 0) := h3
    have HE : Hid (jnP x c sz dz c' sz' dz' = flawE c sz dz) := jnP_a h3
    clear h3
    go_enter Try.func29, Try.ntmps29
    go_wp2_with fail
    refine (check_no c sa sc sz da dc dz h1 h2 _ ((HI.out.1.below HB0.out).mono HB0.out.size) ((HI.out.2.1.below HB0.out).mono HB0.out.size) H3.out).mono ?_
    rintro e v1 ⟨rfl, hC⟩
    have HB1 : Hid (Below w.heap.size w v1) := HB0.out.trans (hC.mono HB0.out.size)
    clear hC pa pb p0 p1 p2 HB0
    go_wp2_with fail
    go_ret
    exact ⟨by first | (rw [HE.out, errV_pos H3.out]; done) | (rw [HE.out, errV_pos H3.out]; rfl), HB1.out⟩
end Go.Proofs.Ytcpmendkocnlhab
/-! Appc: A part of a list put behind a list of the call's own: what append(s, x[i:j]...) does. -/
namespace Go.Proofs.Ytcpmendkocnlhab
open Go.RowKit
set_option linter.unusedVariables false

/-- The walk has come to an operation x[i:j]: it looks, and turns nothing. -/
theorem at_slice {ops : Array Oper} {rest : List Oper} {d : Option Tmp} {t : TypeId} {x : Operand} {l h m : Option Operand} {ty : TypeId} {pos : String} {af : Array Edge} {g : Option (Nat × Bool)} {a : Act} {Q : Exit → Act → World → Prop} {W : World} (k : wpList Try.prog ops Q (Oper.mk d (.slice t x l h m) ty pos af g :: rest) a W) :
    wpList Try.prog ops Q (Oper.mk d (.slice t x l h m) ty pos af g :: rest) a W := k
theorem run_cut (W : World) (da : Option Addr) (n dc P P2 : Nat) (h1 : P ≤ P2) (h2 : P2 ≤ dc) :
    (Instr.sliceAt 22 (.slice da n dc) (some (.int .i64 (P : Int))) (some (.int .i64 (P2 : Int))) none).run Try.prog W = .ok (sliced da P P2 dc 1) W := by
  obtain ⟨i0, hi, hz0, hz1, hz2⟩ := info_parts Try.infoInt
  have he : Try.prog.elem 22 = 3 := by kernel_rfl
  have hu : Try.prog.underlying 22 = some (.slice (Try.prog.elem 22)) := by rw [he]; exact Try.underlying22
  rw [run_sliceAt_slice (w := W) (h := hu), run_slice_lh (w := W) (ht := hu) (h0 := by omega) (h1 := by omega) (h2 := by omega), he]
  simp [sizeOf, typeInfo, hi, hz1, Result.andThen]
theorem run_app_none (W : World) (ty : TypeId) (g : Option Addr) (n cap c : Nat) (h : n ≤ cap) :
    (Builtin.append_ #[22, 22] ty #[.slice g n cap, .slice none 0 c]).run Try.prog W = .ok (.slice g n cap) W := by
  obtain ⟨i0, hi, hz0, hz1, hz2⟩ := info_parts Try.infoInt
  have ht : Try.prog.underlying 22 = some (.slice 3) := Try.underlying22
  cases g with
  | none => simp [Builtin.append_, run_underlying ht, sizeOf, typeInfo, hi, Builtin.lenOf, Builtin.firstCells, h]
  | some x => simp [Builtin.append_, run_underlying ht, sizeOf, typeInfo, hi, Builtin.lenOf, Builtin.firstCells, storeCells, h]
theorem app_cut {ops : Array Oper} {rest : List Oper} {o1 o2 : Oper} {a : Act} {Q : Exit → Act → World → Prop} (g1 : o1.guard = none) (d1 : Nat) (hd1 : o1.dst = some d1) (X L H : Operand) (ho1 : o1.op = .slice 22 X (some L) (some H) none)
    (g2 : o2.guard = none) (S T : Operand) (ho2 : o2.op = .call { callee := .builtin .append, args := #[S, T], argTypes := #[22, 22] })
    (W : World) (base : Nat) (v : Value) (xs : List Int) (m : Nat) (hm : xs.length = m) (da : Option Addr) (dz : List Int) (n dc P P2 : Nat) (l h : Int) (hl : l = (P : Int)) (hh : h = (P2 : Int)) (h1 : P ≤ P2) (h2 : P2 ≤ dz.length)
    (hX : a.eval X = .slice da n dc) (hL : a.eval L = .int .i64 l) (hH : a.eval H = .int .i64 h) (hS : ∀ u, (a.put (some d1) u).eval S = v) (hT : ∀ u, (a.put (some d1) u).eval T = u)
    (hown : W.ownsRow base 3 1 v m (xs.map (Value.int .i64))) (hI : IsC W.heap.size W da dz dc) (hlen : m + dz.length ≤ 1000000) (hbase : base ≤ W.heap.size)
    (k : ∀ u v' w1, w1.ownsRow base 3 1 v' (m + (P2 - P)) ((xs ++ (dz.drop P).take (P2 - P)).map (Value.int .i64)) → Below base W w1 → wpList Try.prog ops Q rest ((a.put (some d1) u).put o2.dst v') w1) :
    wpList Try.prog ops Q (o1 :: o2 :: rest) a W := by
  subst hl hh
  refine wpList_plain g1 fun K hK => ?_
  unfold Oper.wp execOp
  simp only [ho1, Option.map_some, hX, hL, hH, Option.map_none, Sem.run_bind, Sem.run_pure, Result.andThen_ok, run_cut W da n dc P P2 h1 (by have := hI.2; omega)]
  refine hK _ _ ?_
  rw [hd1]
  obtain ⟨i0, hi, hz0, hz1, hz2⟩ := info_parts Try.infoInt
  have hsl : sliced da P P2 dc 1 = .slice (if dc = P then da else da.map (·.add (P * 1))) (P2 - P) (dc - P) := rfl
  rw [hsl]
  cases da with
  | none =>
    have hz : dz = [] := by
      rcases hI.1 with h | ⟨_, _, h, _⟩
      · exact h
      · cases h
    subst hz
    simp only [List.length_nil, Nat.le_zero] at h2
    subst h2
    obtain rfl : P = 0 := by omega
    obtain ⟨g, cap, hv, hN⟩ := own_cap (by rw [← hm] at hown; exact hown)
    refine wpList_plain g2 fun K2 hK2 => ?_
    unfold Oper.wp execOp
    have e0 : (if dc = 0 then none else (none : Option Addr).map (·.add (0 * 1))) = none := by split <;> rfl
    simp only [ho2, resolve, invoke, builtin, Sem.run_bind, Sem.run_pure, Result.andThen_ok, List.map_toArray, List.map_cons, List.map_nil, hS, hT, e0, Nat.sub_self, Nat.sub_zero]
    rw [hv, run_app_none W _ g xs.length cap dc hN.2]
    refine hK2 _ _ ?_
    refine k _ _ W ?_ (Below.refl _ _)
    rw [← hv]
    simpa using hown
  | some ad =>
    have hne : ∀ j u, (((dz.drop P).take (P2 - P)).map (Value.int .i64))[j]? = some u → W.cell? ((if dc = P then ad else ad.add (P * 1)).add j) = some u := by
      intro j u hj
      rw [List.getElem?_map] at hj
      by_cases hlj : j < P2 - P
      · have hPd : P + j < dz.length := by omega
        obtain ⟨b, off, e, hb, hc⟩ := hI.1.at hPd
        cases e
        rw [if_neg (by have := hI.2; omega), List.getElem?_take, if_pos hlj, List.getElem?_drop, List.getElem?_eq_getElem hPd] at *
        simp only [Option.map_some] at hj
        obtain rfl := Option.some.inj hj
        rw [← nth_get dz (P + j) hPd, ← hc (P + j) hPd]
        have e : ((⟨b, off, none⟩ : Addr).add (P * 1)).add j = ⟨b, off + (P + j), none⟩ := by
          unfold Addr.add
          rw [Nat.mul_one, ← Nat.add_assoc]
          by_cases e1 : P = 0 <;> by_cases e2 : j = 0 <;> simp [e1, e2]
        rw [e]
      · rw [List.getElem?_take, if_neg hlj] at hj; cases hj
    have ev : (if dc = P then some ad else (some ad).map (·.add (P * 1))) = some (if dc = P then ad else ad.add (P * 1)) := by split <;> rfl
    rw [ev]
    refine wpList_append_own _ g2 S T 22 ho2 base 3 i0 (.int .i64 0) 1 8 Try.underlying22 hi hz0 hz1 hz2 rfl (by decide) v m (xs.map (Value.int .i64)) (hS _) hown _ (P2 - P) (dc - P) (((dz.drop P).take (P2 - P)).map (Value.int .i64)) (hT _) ?_ hne (fun x hx => by obtain ⟨y, _, rfl⟩ := List.mem_map.1 hx; rfl) (by unfold maxLen; omega) (by omega) hbase ?_
    · simp only [List.length_map, List.length_take, List.length_drop, Nat.mul_one]; omega
    · intro v' w1 hown1 hgrow _
      refine k _ v' w1 ?_ (grown_below hown hgrow hbase)
      rw [List.map_append]
      exact hown1
end Go.Proofs.Ytcpmendkocnlhab
/-! Clone: slices.Clone of a list of integers. -/
namespace Go.Proofs.Ytcpmendkocnlhab
open Go.RowKit
set_option linter.unusedVariables false

theorem empty_own (w : World) (t : TypeId) : (w.alloc (.cells #[] t)).ownsRow w.heap.size t 1 (.slice (some ⟨w.heap.size, 0, none⟩) 0 0) 0 [] :=
  ⟨rfl, .inr ⟨w.heap.size, 0, #[], rfl, Nat.le_refl _, World.alloc_heap_new w _, Nat.le_refl _, by unfold maxLen; omega, rfl, rfl⟩⟩
set_option maxRecDepth 100000 in
set_option maxHeartbeats 1000000 in
theorem clone_any (a : Option Addr) (cap : Nat) (zs : List Int) (h1 : zs.length ≤ 100000) (w : World) (hI : IsInts w.heap.size w a zs) :
    Calls Try.prog 30 #[.slice a zs.length cap] w fun e w' => ∃ g c, e = .returned (.slice g zs.length c) ∧ NewC w.heap.size w' g zs c ∧ Below w.heap.size w w' := by
  have q0 : ∀ (w : World) (a : Option Addr) (n c n' c' : Nat), (binOp .eql 22 (.slice a n c) (.slice none n' c')).run Try.prog w = .ok (.bool a.isNone) w := fun w a n c n' c' => Lib.run_eql_slice_nil w _ _ a n c n' c' Try.underlying22
  obtain ⟨i0, hi, hz0, hz1, hz2⟩ := info_parts Try.infoInt
  cases a with
  | none =>
    have hz : zs = [] := by
      rcases hI with h | ⟨_, _, h, _⟩
      · exact h
      · cases h
    subst hz
    go_enter Try.func30, Try.ntmps30
    go_wp2_with fail
    go_ret
    exact ⟨none, 0, rfl, ⟨.inl rfl, Nat.le_refl _⟩, Below.refl _ _⟩
  | some ad =>
    have H0 := empty_own w 3
    have hI' := (hI.below ((Below.refl _ w).alloc (Nat.le_refl _) (.cells #[] 3)))
    have hnews : ∀ j u, (zs.map (Value.int .i64))[j]? = some u → (w.alloc (.cells #[] 3)).cell? (ad.add j) = some u := by
      intro j u hj
      rw [List.getElem?_map] at hj
      by_cases hl : j < zs.length
      · obtain ⟨b, off, e, hb, hc⟩ := hI'.at hl
        cases e
        rw [List.getElem?_eq_getElem hl] at hj
        simp only [Option.map_some] at hj
        obtain rfl := Option.some.inj hj
        rw [← nth_get zs j hl]
        have e : (⟨b, off, none⟩ : Addr).add j = ⟨b, off + j, none⟩ := by
          unfold Addr.add; split
          · rename_i h0; subst h0; rfl
          · rfl
        rw [e]; exact hc j hl
      · rw [List.getElem?_eq_none (by omega)] at hj; cases hj
    clear hI hI'
    go_enter Try.func30, Try.ntmps30
    go_wp2_with (at_builtin; refine wpList_append_own _ rfl _ _ 22 rfl w.heap.size 3 i0 (.int .i64 0) 1 8 Try.underlying22 hi hz0 hz1 hz2 rfl (by decide) _ _ _ rfl H0 ad zs.length cap (zs.map (Value.int .i64)) rfl (by simp) hnews (fun x hx => by obtain ⟨y, _, rfl⟩ := List.mem_map.1 hx; rfl) (by unfold maxLen; omega) (by omega) (by simp) ?_; intro v' w3 hown' hgrow3 hnil3)
    rw [List.nil_append, Nat.zero_add] at hown'
    have hB : Below w.heap.size w w3 := ((Below.refl _ w).alloc (Nat.le_refl _) _).grown hgrow3 (by simp) (own_ge H0)
    obtain ⟨g, c, rfl, hIJ⟩ := own_cap hown'
    go_wp2_with fail
    go_ret
    exact ⟨g, c, rfl, hIJ, hB⟩
end Go.Proofs.Ytcpmendkocnlhab
/-! Cut5: What package cut's Join tells. -/
namespace Go.Proofs.Ytcpmendkocnlhab
open Go.RowKit
set_option linter.unusedVariables false

theorem count_l (a : Option Addr) (cap : Nat) (zs : List Int) (l : Nat) (hl : zs.length = l) (N : Nat) (hreach : l ≤ 9223372036854775807) (w : World) (hI : IsInts w.heap.size w a zs) (he : errOf zs = 0) (hN : (N : Int) = prod zs) :
    Calls Try.prog 18 #[.slice a l cap] w fun e w' => e = .returned (.tuple #[.int .i64 (N : Int), .nilIface]) ∧ Below w.heap.size w w' := by
  subst hl
  rw [hN]
  exact count_ok a cap zs hreach w hI he
theorem count_lno (a : Option Addr) (cap : Nat) (zs : List Int) (l : Nat) (hl : zs.length = l) (hreach : l ≤ 9223372036854775807) (w : World) (hI : IsInts w.heap.size w a zs) (he : errOf zs ≠ 0) :
    Calls Try.prog 18 #[.slice a l cap] w fun e w' => e = .returned (.tuple #[.int .i64 0, .iface 40 (.int .i64 (errOf zs))]) ∧ Below w.heap.size w w' := by
  subst hl
  exact count_no a cap zs hreach w hI he
/-- A row, one cell of which was stored over. -/
theorem new_put {lo : Nat} {W : World} {b off : Nat} {zs : List Int} (h0 : lo ≤ b) (hb : b < W.heap.size) (hc : ∀ j, j < zs.length → W.cell? ⟨b, off + j, none⟩ = some (.int .i64 (nth zs j))) (hz : ∀ j, W.frozen? ⟨b, off + j, none⟩ = false) {i : Nat} (hi : i < zs.length) (v : Int) :
    NewInts lo (W.setCell ⟨b, off + i, none⟩ (.int .i64 v)) (some ⟨b, off, none⟩) (zs.set i v) := by
  refine .inr ⟨b, off, rfl, h0, by simpa [World.setCell] using hb, fun j hj => ?_, fun j => by rw [World.frozen?_setCell]; exact hz j⟩
  rw [List.length_set] at hj
  rw [nth_set _ _ _ _ hi]
  by_cases e : j = i
  · subst e
    rw [if_pos rfl]
    exact World.cell?_setCell_same _ _ _ (hc j hj)
  · rw [if_neg e, World.cell?_setCell_other _ _ _ _ (by intro e2; simp only [Addr.mk.injEq] at e2; omega)]
    exact hc j hj
theorem block_n (a : Option Addr) (cap : Nat) (zs : List Int) (x A : Nat) (hA : (A : Int) = blk zs x) (hx : x < zs.length) (he : errOf zs = 0) (n₀ : Nat) (w : World) (hI : IsC n₀ w a zs cap) :
    Calls Try.prog 31 #[.int .i64 (x : Nat), .slice a zs.length cap] w fun e w' => e = .returned (.int .i64 (A : Int)) ∧ w' = w := by
  rw [hA]
  exact block_any a cap zs x hx he n₀ w hI
theorem make_cap (N : Nat) (h : N ≤ 100000) (W : World) : (Instr.makeSlice 22 (.int .i64 0) (.int .i64 (N : Int))).run Try.prog W = .ok (.slice (some ⟨W.heap.size, 0, none⟩) 0 N) (W.alloc (.cells (madeCells #[.int .i64 0] N) 3)) := by
  obtain ⟨i0, hi, hz0, hz1, hz2⟩ := info_parts Try.infoInt
  have hr := run_make (P := Try.prog) W 22 3 i0 (.int .i64 0) Try.underlying22 hi hz0 .i64 .i64 0 (N : Int) (by omega) (by omega) (by rw [hz2]; omega) (by omega)
  rw [hr, hz1, Int.toNat_natCast, Nat.mul_one]
  rfl
set_option maxRecDepth 100000 in
set_option maxHeartbeats 8000000 in
theorem jn_holds : CJn := by
  intro x c sa sc sz da dc dz c' sa' sc' sz' da' dc' dz' w hx h1 h2 h1' h2' hs hd hs' hd' T T'
  have HI : Hid (IsC w.heap.size w sa sz sc ∧ IsC w.heap.size w da dz dc ∧ IsC w.heap.size w sa' sz' sc' ∧ IsC w.heap.size w da' dz' dc') := ⟨hs, hd, hs', hd'⟩
  have HX : Hid (In64 x) := hx
  clear hs hd hs' hd' T T' hx
  have HB0 : Hid (Below w.heap.size w (((w.alloc (.cells #[.bool c, .slice sa sz.length sc, .slice da dz.length dc] 24)).alloc (.cells #[.bool c', .slice sa' sz'.length sc', .slice da' dz'.length dc'] 24)).alloc (.cells #[.bool false, .slice none 0 0, .slice none 0 0] 24))) := (((Below.refl _ w).alloc (Nat.le_refl _) _).alloc (by simp) _).alloc (by simp; omega) _
  have pa := ((Abx.new w (.bool c) (.slice sa sz.length sc) (.slice da dz.length dc)).al (.cells #[.bool c', .slice sa' sz'.length sc', .slice da' dz'.length dc'] 24)).al (.cells #[.bool false, .slice none 0 0, .slice none 0 0] 24)
  have pb := (Abx.new1 w (.cells #[.bool c, .slice sa sz.length sc, .slice da dz.length dc] 24) (.bool c') (.slice sa' sz'.length sc') (.slice da' dz'.length dc')).al (.cells #[.bool false, .slice none 0 0, .slice none 0 0] 24)
  have pr := Abx.new ((w.alloc (.cells #[.bool c, .slice sa sz.length sc, .slice da dz.length dc] 24)).alloc (.cells #[.bool c', .slice sa' sz'.length sc', .slice da' dz'.length dc'] 24)) (.bool false) (.slice none 0 0) (.slice none 0 0)
  simp only [World.size_alloc] at pr
  have p0 := pa.c0
  have p1 := pa.c1
  have p2 := pa.c2
  have q0 := pb.c0
  have q1 := pb.c1
  have q2 := pb.c2
  by_cases h3 : jnP x c sz dz c' sz' dz' = 0
  · have H3 : Hid (jnP x c sz dz c' sz' dz' = 0) := h3
    obtain ⟨hf, hf', hl, hx0, hx1, ho, hcc⟩ := jnP_zero.1 h3
    obtain ⟨xn, rfl⟩ : ∃ xn : Nat, x = (xn : Int) := ⟨x.toNat, by omega⟩
    rw [Int.toNat_natCast] at hx1 ho
    have HF : Hid (flawE c sz dz = 0 ∧ flawE c' sz' dz' = 0 ∧ sz.length = sz'.length ∧ othB xn sz sz' = true ∧ c = c') := ⟨hf, hf', hl, ho, hcc⟩
    have hx1' : xn < sz'.length := by omega
    have hl6 : sz.length ≤ 6 := (flawE_short hf).1
    have hd4 : dz.length ≤ 4096 := (flawE_short hf).2
    have hd4' : dz'.length ≤ 4096 := (flawE_short hf').2
    have HJ : Hid (jnE (xn : Int) c sz dz c' sz' dz' = errOf (jnS xn sz sz')) := by have := jnE_fit h3; rwa [Int.toNat_natCast] at this
    clear h3 hf hf' hl ho hcc hx0
    go_enter Try.func12, Try.ntmps12
    go_wp2_with fail
    have hp := pair_any (xn : Int) HX.out c sa sc sz da dc dz c' sa' sc' sz' da' dc' dz' h1 h2 h1' h2' (((w.alloc (.cells #[.bool c, .slice sa sz.length sc, .slice da dz.length dc] 24)).alloc (.cells #[.bool c', .slice sa' sz'.length sc', .slice da' dz'.length dc'] 24)).alloc (.cells #[.bool false, .slice none 0 0, .slice none 0 0] 24)) ((HI.out.1.1.below HB0.out).mono HB0.out.size) ((HI.out.2.1.1.below HB0.out).mono HB0.out.size) ((HI.out.2.2.1.1.below HB0.out).mono HB0.out.size) ((HI.out.2.2.2.1.below HB0.out).mono HB0.out.size)
    rw [H3.out] at hp
    refine hp.mono ?_
    clear hp
    rintro e v1 ⟨rfl, hC⟩
    have HA1 : Hid (Abx v1 w.heap.size (.bool c) (.slice sa sz.length sc) (.slice da dz.length dc)) := pa.go hC
    have HQ1 : Hid (Abx v1 (w.heap.size + 1) (.bool c') (.slice sa' sz'.length sc') (.slice da' dz'.length dc')) := pb.go hC
    have HR1 : Hid (Abx v1 (w.heap.size + 1 + 1) (.bool false) (.slice none 0 0) (.slice none 0 0)) := pr.go hC
    have HB1 : Hid (Below w.heap.size w v1) := HB0.out.trans (hC.mono HB0.out.size)
    clear hC pa pb pr p0 p1 p2 q0 q1 q2 HB0
    have a1 := HA1.out.c1
    have er0 : errV 0 = .nilIface := rfl
    rw [er0]
    clear er0
    go_wp2_with fail
    refine (clone_any sa sc sz (by omega) v1 ((HI.out.1.1.below HB1.out).mono HB1.out.size)).mono ?_
    rintro e v2 ⟨ga, gc, rfl, hN, hC⟩
    have HA2 : Hid (Abx v2 w.heap.size (.bool c) (.slice sa sz.length sc) (.slice da dz.length dc)) := HA1.out.go hC
    have HQ2 : Hid (Abx v2 (w.heap.size + 1) (.bool c') (.slice sa' sz'.length sc') (.slice da' dz'.length dc')) := HQ1.out.go hC
    have HR2 : Hid (Abx v2 (w.heap.size + 1 + 1) (.bool false) (.slice none 0 0) (.slice none 0 0)) := HR1.out.go hC
    have HB2 : Hid (Below w.heap.size w v2) := HB1.out.trans (hC.mono HB1.out.size)
    have hzv : w.heap.size + 1 + 1 < v1.heap.size := HR1.out.lt
    have hzv2 : v1.heap.size ≤ v2.heap.size := hC.size
    clear hC a1 HA1 HQ1 HR1 HB1
    obtain ⟨hN0, hgc⟩ := hN
    rcases hN0 with hN0 | ⟨bg, og, rfl, hbg, hbg2, hcG, hfG⟩
    · rw [hN0] at hx1; simp at hx1
    have cg := hcG xn hx1
    have fg := hfG xn
    have b1 := HQ2.out.c1
    obtain ⟨bt, ot, rfl, hbt, hcT⟩ := (HI.out.2.2.1.1.below HB2.out).at hx1'
    have ct := hcT xn hx1'
    have hz1 := (errOf_zero.1 (flawE_zero HF.out.1).1).2.1.nth xn
    have hz2 := (errOf_zero.1 (flawE_zero HF.out.2.1).1).2.1.nth xn
    have HG : Hid ((∀ j, j < sz.length → v2.cell? ⟨bg, og + j, none⟩ = some (.int .i64 (nth sz j))) ∧ ∀ j, v2.frozen? ⟨bg, og + j, none⟩ = false) := ⟨hcG, hfG⟩
    clear hcG hfG hcT
    have hbne : bt ≠ bg := by omega
    have hwr : IntKind.i64.wrap (nth sz xn + nth sz' xn) = nth sz xn + nth sz' xn := IntWalk.i64_in _ (by omega)
    go_wp2_with fail
    refine anyT_begin 10 (fun w' => w'.cell? ⟨w.heap.size + 1, 1, none⟩ = some (.slice (some ⟨bt, ot, none⟩) sz'.length sc') ∧ w'.cell? ⟨bt, ot + xn, none⟩ = some (.int .i64 (nth sz' xn)) ∧ w'.cell? ⟨bg, og + xn, none⟩ = some (.int .i64 (nth sz xn))) 12 #[false, false, false, false, false, false, false, false, false, false, false, false] (by kernel_rfl) rfl rfl ?_
    refine anyT_put 0 27 ?rv0 #[true, false, false, false, false, false, false, false, false, false, false, false] rfl rfl rfl (by kernel_rfl) (by kernel_rfl) (by kernel_rfl) (fun _ _ _ h => h) (by decide) ?ry0 (fun _ => ⟨b1, ct, cg⟩) ?rm0
    case ry0 => first | exact Or.inl ⟨by rfl, by intro w'; go_simp; first | done | rfl⟩
    case rm0 =>
    simp only [Act.put, List.setIfInBounds_toArray, List.set_cons_zero, List.set_cons_succ]
    refine anyT_put 1 28 ?rv1 #[true, true, false, false, false, false, false, false, false, false, false, false] rfl rfl rfl (by kernel_rfl) (by kernel_rfl) (by kernel_rfl) (fun _ _ _ h => h) (by decide) ?ry1 (fun _ => ⟨b1, ct, cg⟩) ?rm1
    case ry1 => first | exact Or.inl ⟨by rfl, by intro w'; go_simp; first | done | rfl⟩
    case rm1 =>
    simp only [Act.put, List.setIfInBounds_toArray, List.set_cons_zero, List.set_cons_succ]
    refine anyT_put 2 29 ?rv2 #[true, true, true, false, false, false, false, false, false, false, false, false] rfl rfl rfl (by kernel_rfl) (by kernel_rfl) (by kernel_rfl) (fun _ _ _ h => h) (by decide) ?ry2 (fun _ => ⟨b1, ct, cg⟩) ?rm2
    case ry2 => first | exact Or.inl ⟨by rfl, by intro w'; go_simp; first | done | rfl⟩
    case rm2 =>
    simp only [Act.put, List.setIfInBounds_toArray, List.set_cons_zero, List.set_cons_succ]
    refine anyT_take 3 30 ?rv3 #[true, true, true, true, false, false, false, false, false, false, false, false] rfl rfl rfl (by kernel_rfl) (by kernel_rfl) (by kernel_rfl) (fun _ _ _ h => h) (by kernel_rfl) (by decide) (by kernel_rfl) ?ry3 (⟨b1, ct, cg⟩) ?rm3
    case ry3 => first | exact Or.inl ⟨by rfl, by intro w' hw'; (try dsimp only at hw'); go_simp; first | done | rfl⟩
    case rm3 =>
    simp only [Act.put, List.setIfInBounds_toArray, List.set_cons_zero, List.set_cons_succ]
    refine anyT_put 4 31 ?rv4 #[true, true, true, true, true, false, false, false, false, false, false, false] rfl rfl rfl (by kernel_rfl) (by kernel_rfl) (by kernel_rfl) (fun _ _ _ h => h) (by decide) ?ry4 (fun _ => ⟨b1, ct, cg⟩) ?rm4
    case ry4 => first | exact Or.inl ⟨by rfl, by intro w'; go_simp; first | done | rfl⟩
    case rm4 =>
    simp only [Act.put, List.setIfInBounds_toArray, List.set_cons_zero, List.set_cons_succ]
    refine anyT_take 5 32 ?rv5 #[true, true, true, true, true, true, false, false, false, false, false, false] rfl rfl rfl (by kernel_rfl) (by kernel_rfl) (by kernel_rfl) (fun _ _ _ h => h) (by kernel_rfl) (by decide) (by kernel_rfl) ?ry5 (⟨b1, ct, cg⟩) ?rm5
    case ry5 => first | exact Or.inl ⟨by rfl, by intro w' hw'; (try dsimp only at hw'); go_simp; first | done | rfl⟩
    case rm5 =>
    simp only [Act.put, List.setIfInBounds_toArray, List.set_cons_zero, List.set_cons_succ]
    refine anyT_put 6 33 ?rv6 #[true, true, true, true, true, true, true, false, false, false, false, false] rfl rfl rfl (by kernel_rfl) (by kernel_rfl) (by kernel_rfl) (fun _ _ _ h => h) (by decide) ?ry6 (fun _ => ⟨b1, ct, cg⟩) ?rm6
    case ry6 => first | exact Or.inl ⟨by rfl, by intro w'; go_simp; first | done | rfl⟩
    case rm6 =>
    simp only [Act.put, List.setIfInBounds_toArray, List.set_cons_zero, List.set_cons_succ]
    refine anyT_put 7 34 ?rv7 #[true, true, true, true, true, true, true, true, false, false, false, false] rfl rfl rfl (by kernel_rfl) (by kernel_rfl) (by kernel_rfl) (fun _ _ _ h => h) (by decide) ?ry7 (fun _ => ⟨b1, ct, cg⟩) ?rm7
    case ry7 => first | exact Or.inl ⟨by rfl, by intro w'; go_simp; first | done | rfl⟩
    case rm7 =>
    simp only [Act.put, List.setIfInBounds_toArray, List.set_cons_zero, List.set_cons_succ]
    refine anyT_take 8 35 ?rv8 #[true, true, true, true, true, true, true, true, true, false, false, false] rfl rfl rfl (by kernel_rfl) (by kernel_rfl) (by kernel_rfl) (fun _ _ _ h => h) (by kernel_rfl) (by decide) (by kernel_rfl) ?ry8 (⟨b1, ct, cg⟩) ?rm8
    case ry8 => first | exact Or.inl ⟨by rfl, by intro w' hw'; (try dsimp only at hw'); go_simp; first | done | rfl⟩
    case rm8 =>
    simp only [Act.put, List.setIfInBounds_toArray, List.set_cons_zero, List.set_cons_succ]
    refine anyT_put 9 36 ?rv9 #[true, true, true, true, true, true, true, true, true, true, false, false] rfl rfl rfl (by kernel_rfl) (by kernel_rfl) (by kernel_rfl) (fun _ _ _ h => h) (by decide) ?ry9 (fun _ => ⟨b1, ct, cg⟩) ?rm9
    case ry9 => first | exact Or.inl ⟨by rfl, by intro w'; go_simp; first | done | rfl⟩
    case rm9 =>
    simp only [Act.put, List.setIfInBounds_toArray, List.set_cons_zero, List.set_cons_succ]
    refine anyT_one 10 #[true, true, true, true, true, true, true, true, true, true, true, false] (by kernel_rfl) rfl rfl (fun K hK => ?_)
    go_simp
    refine hK.out _ _ (fun h => absurd h (by decide)) ?_
    clear hK K
    refine anyT_one 11 #[true, true, true, true, true, true, true, true, true, true, true, true] (by kernel_rfl) rfl rfl (fun K hK => ?_)
    go_simp
    refine hK.out _ _ (fun h => absurd h (by decide)) ?_
    clear hK K
    refine anyT_done (by kernel_rfl) ?_

    clear hwr
    obtain ⟨v3, hv3⟩ : ∃ v3, v3 = (v2.setCell ⟨bg, og + xn, none⟩ (.int .i64 (nth sz xn + nth sz' xn))).drew := ⟨_, rfl⟩
    rw [← hv3]
    obtain ⟨S, hS⟩ : ∃ S, S = jnS xn sz sz' := ⟨_, rfl⟩
    have HS : Hid (S = jnS xn sz sz' ∧ S.length = sz.length ∧ NewInts v1.heap.size v3 (some ⟨bg, og, none⟩) S) := by
      refine ⟨hS, by rw [hS, jnS_length], ?_⟩
      rw [hv3, hS]
      exact (new_put hbg hbg2 HG.out.1 HG.out.2 hx1 (nth sz xn + nth sz' xn)).dr
    have HA3 : Hid (Abx v3 w.heap.size (.bool c) (.slice sa sz.length sc) (.slice da dz.length dc)) := by rw [hv3]; exact (HA2.out.ot (a := ⟨bg, og + xn, none⟩) (by show w.heap.size ≠ bg; omega) _).dr
    have HQ3 : Hid (Abx v3 (w.heap.size + 1) (.bool c') (.slice (some ⟨bt, ot, none⟩) sz'.length sc') (.slice da' dz'.length dc')) := by rw [hv3]; exact (HQ2.out.ot (a := ⟨bg, og + xn, none⟩) (by show w.heap.size + 1 ≠ bg; omega) _).dr
    have HR3 : Hid (Abx v3 (w.heap.size + 1 + 1) (.bool false) (.slice none 0 0) (.slice none 0 0)) := by rw [hv3]; exact (HR2.out.ot (a := ⟨bg, og + xn, none⟩) (by show w.heap.size + 1 + 1 ≠ bg; omega) _).dr
    have HB3 : Hid (Below w.heap.size w v3) := by rw [hv3]; exact (HB2.out.setCell (p := ⟨bg, og + xn, none⟩) (by show w.heap.size ≤ bg; omega) _).drew
    rw [← hS] at HJ
    clear hv3 hS HG HA2 HQ2 HR2 HB2 b1 ct cg fg hbg2 hbt hbne hz1 hz2
    go_wp2_with fail
    by_cases he : errOf S = 0
    · have HE : Hid (errOf S = 0 ∧ jnE (xn : Int) c sz dz c' sz' dz' = 0) := ⟨he, HJ.out.trans he⟩
      obtain ⟨O, A, B, hA, hB, hDl, hDp, hdl, hD4, hDn⟩ := jn_lens HE.out.2
      obtain ⟨D, hD⟩ : ∃ D, D = jnD xn sz dz sz' dz' := ⟨_, rfl⟩
      rw [← hD] at hDl hDp hD4 hDn
      rw [← HS.out.1] at hDp
      obtain ⟨N, hN⟩ : ∃ N, N = D.length := ⟨_, rfl⟩
      have HNN : Hid ((N : Int) = prod S ∧ D.length = N ∧ N = O * (A + B) ∧ D = jnD xn sz dz sz' dz') := ⟨by rw [hN]; exact hDp, hN.symm, by rw [hN]; exact hDl, hD⟩
      have hN4 : N ≤ 4096 := by omega
      have HAB : Hid ((A : Int) = blk sz xn ∧ (B : Int) = blk sz' xn ∧ (0 < A + B → dz.length = O * A ∧ dz'.length = O * B) ∧ ∀ k j : Nat, k < O → j < A + B → nth D (k * (A + B) + j) = if j < A then nth dz (k * A + j) else nth dz' (k * B + (j - A))) := ⟨hA, hB, hdl, hDn⟩
      clear he hDl hDp hD4 hDn hdl hA hB hN hD
      refine (count_l (some ⟨bg, og, none⟩) gc S sz.length HS.out.2.1 N (by omega) v3 HS.out.2.2.ints HE.out.1 HNN.out.1).mono ?_
      rintro e v4 ⟨rfl, hC⟩
      have HA4 : Hid (Abx v4 w.heap.size (.bool c) (.slice sa sz.length sc) (.slice da dz.length dc)) := HA3.out.go hC
      have HQ4 : Hid (Abx v4 (w.heap.size + 1) (.bool c') (.slice (some ⟨bt, ot, none⟩) sz'.length sc') (.slice da' dz'.length dc')) := HQ3.out.go hC
      have HR4 : Hid (Abx v4 (w.heap.size + 1 + 1) (.bool false) (.slice none 0 0) (.slice none 0 0)) := HR3.out.go hC
      have HB4 : Hid (Below w.heap.size w v4) := HB3.out.trans (hC.mono HB3.out.size)
      have HS4 : Hid (NewInts v1.heap.size v4 (some ⟨bg, og, none⟩) S) := HS.out.2.2.go hC
      clear hC HA3 HQ3 HR3 HB3
      have a1 := HA4.out.c1
      have b1 := HQ4.out.c1
      go_wp2_with fail
      go_quiet (first | (go_at_call_of 31 sc; refine Calls.quiet_of_same (block_n sa sc sz xn A HAB.out.1 hx1 (flawE_zero HF.out.1).1 v4.heap.size _ ?_); exact ((HI.out.1.below HB4.out).mono HB4.out.size)) | (go_at_call_of 31 sc'; refine Calls.quiet_of_same (block_n (some ⟨bt, ot, none⟩) sc' sz' xn B HAB.out.2.1 hx1' (flawE_zero HF.out.2.1).1 v4.heap.size _ ?_); exact ((HI.out.2.2.1.below HB4.out).mono HB4.out.size)))
      obtain ⟨u, hu⟩ : ∃ u, u = v4.drewN nq := ⟨_, rfl⟩
      rw [← hu]
      have HA5 : Hid (Abx u w.heap.size (.bool c) (.slice sa sz.length sc) (.slice da dz.length dc)) := by rw [hu]; exact HA4.out
      have HQ5 : Hid (Abx u (w.heap.size + 1) (.bool c') (.slice (some ⟨bt, ot, none⟩) sz'.length sc') (.slice da' dz'.length dc')) := by rw [hu]; exact HQ4.out
      have HR5 : Hid (Abx u (w.heap.size + 1 + 1) (.bool false) (.slice none 0 0) (.slice none 0 0)) := by rw [hu]; exact HR4.out
      have HB5 : Hid (Below w.heap.size w u) := by rw [hu]; exact below_drewN HB4.out _
      have HS5 : Hid (NewInts v1.heap.size u (some ⟨bg, og, none⟩) S) := by rw [hu]; exact HS4.out
      clear hu HA4 HQ4 HR4 HB4 HS4 a1 b1
      have hmk := make_cap N (by omega)
      go_wp2_with fail
      clear hmk
      go_loopw [14, 15] (fun v i wr => ∃ k : Nat, k ≤ N ∧ i = .int .i64 k ∧ wr.ownsRow u.heap.size 3 1 v (D.take (k * (A + B))).length ((D.take (k * (A + B))).map (Value.int .i64)) ∧ (k * (A + B) ≤ N) ∧ Below u.heap.size u wr) (fun _ i _ => N - (intOf i).toNat)
      case atStart =>
        refine ⟨0, Nat.zero_le _, rfl, ?_, by simp, (Below.refl _ u).alloc (Nat.le_refl _) _⟩
        simp only [Nat.zero_mul, List.take_zero, List.length_nil, List.map_nil]
        exact World.ownsRow_made u _ N (Nat.le_refl _) (by unfold maxLen; omega) (by simp [madeCells])
      case round =>
        obtain ⟨k, hk, rfl, hown, hkN, hBu⟩ := hrel
        have hB : Below w.heap.size w wr := HB5.out.trans (hBu.mono HB5.out.size)
        obtain ⟨g, cap, rfl, hNw⟩ := own_cap hown
        obtain ⟨L, hL⟩ : ∃ L, L = (D.take (k * (A + B))).length := ⟨_, rfl⟩
        have hLk : L = k * (A + B) := by rw [hL, List.length_take, HNN.out.2.1]; omega
        rw [← hL] at hown
        rw [← hL]
        by_cases hlt : L < N
        · have hkO : k < O := by
            have h := HNN.out.2.2.1
            rw [h, hLk] at hlt
            exact Nat.lt_of_mul_lt_mul_right hlt
          have hT : 0 < A + B := by
            have h := HNN.out.2.2.1
            by_cases h0 : A + B = 0
            · rw [h0, Nat.mul_zero] at h; omega
            · omega
          obtain ⟨hdl, hdl'⟩ := HAB.out.2.2.1 hT
          have hON : O ≤ N := by rw [HNN.out.2.2.1]; exact Nat.le_mul_of_pos_right _ hT
          have HTK : Hid (D.take ((k + 1) * (A + B)) = D.take (k * (A + B)) ++ (dz.drop (k * A)).take A ++ (dz'.drop (k * B)).take B) := jn_take (HNN.out.2.1.trans HNN.out.2.2.1) hdl hdl' hkO HAB.out.2.2.2
          obtain ⟨P, hP⟩ : ∃ P, P = k * A := ⟨_, rfl⟩
          obtain ⟨R, hR⟩ : ∃ R, R = k * B := ⟨_, rfl⟩
          have hPA : P + A ≤ dz.length := by
            have : (k + 1) * A ≤ O * A := Nat.mul_le_mul_right _ hkO
            rw [Nat.add_mul, Nat.one_mul] at this; omega
          have hRB : R + B ≤ dz'.length := by
            have : (k + 1) * B ≤ O * B := Nat.mul_le_mul_right _ hkO
            rw [Nat.add_mul, Nat.one_mul] at this; omega
          have hw1 : IntKind.i64.wrap ((k : Int) * (A : Int)) = (P : Int) := by
            have : (k : Int) * (A : Int) = (P : Int) := by rw [hP]; simp
            rw [this]; exact IntWalk.i64_in _ (by omega)
          have hw2 : IntKind.i64.wrap (((k : Int) + 1) * (A : Int)) = ((P + A : Nat) : Int) := by
            have : ((k : Int) + 1) * (A : Int) = ((P + A : Nat) : Int) := by rw [hP, Int.add_mul]; simp
            rw [this]; exact IntWalk.i64_in _ (by omega)
          have hw3 : IntKind.i64.wrap ((k : Int) * (B : Int)) = (R : Int) := by
            have : (k : Int) * (B : Int) = (R : Int) := by rw [hR]; simp
            rw [this]; exact IntWalk.i64_in _ (by omega)
          have hw4 : IntKind.i64.wrap (((k : Int) + 1) * (B : Int)) = ((R + B : Nat) : Int) := by
            have : ((k : Int) + 1) * (B : Int) = ((R + B : Nat) : Int) := by rw [hR, Int.add_mul]; simp
            rw [this]; exact IntWalk.i64_in _ (by omega)
          have HPR : Hid (P = k * A ∧ R = k * B ∧ L = k * (A + B) ∧ (k + 1) * (A + B) = L + A + B ∧ L + A + B ≤ N) := by
            have e1 : (k + 1) * (A + B) = k * (A + B) + (A + B) := by rw [Nat.add_mul, Nat.one_mul]
            have e2 : (k + 1) * (A + B) ≤ O * (A + B) := Nat.mul_le_mul_right _ hkO
            have e3 := HNN.out.2.2.1
            refine ⟨hP, hR, hLk, ?_, ?_⟩
            · omega
            · omega
          have hk4 : k < 4096 := by omega
          have hkN1 : k < N := by omega
          have e2 := (HA5.out.go hBu).c2
          have hzw : u.heap.size ≤ wr.heap.size := hBu.size
          have HQ : Hid (Below u.heap.size u wr ∧ Below w.heap.size w wr) := ⟨hBu, hB⟩
          have HID : Hid (IsC wr.heap.size wr da dz dc) := (HI.out.2.1.below hB).mono hB.size
          have HLl : Hid ((D.take (k * (A + B))).length = L) := hL.symm
          have hLn : L + dz.length ≤ 1000000 := by omega
          clear hP hR hLk hL hBu hB hNw hkN hdl hdl' hT hkO
          generalize D.take (k * (A + B)) = X at *
          go_wp2_with (first
            | ((with_reducible refine at_slice ?_); refine app_cut rfl 73 rfl _ _ _ rfl rfl _ _ rfl wr u.heap.size _ X L HLl.out da dz dz.length dc P (P + A) _ _ rfl rfl (by omega) hPA rfl rfl rfl (fun u => rfl) (fun u => rfl) hown HID.out hLn hzw ?_; intro y1 z1 w1 hown1 hB1
               rw [Nat.add_sub_cancel_left] at hown1
               have hXl : Hid ((X ++ (dz.drop P).take A).length = L + A) := (by show _ = _; rw [List.length_append, HLl.out, List.length_take, List.length_drop]; omega)
               have hBu1 : Below u.heap.size u w1 := HQ.out.1.trans hB1
               have hB1' : Below w.heap.size w w1 := HQ.out.2.trans (hB1.mono (by have := HB5.out.size; omega))
               have g2 := (HQ5.out.go hBu1).c2
               have HID2 : Hid (IsC w1.heap.size w1 da' dz' dc') := (HI.out.2.2.2.below hB1').mono hB1'.size
               have hzw1 : u.heap.size ≤ w1.heap.size := hBu1.size
               have HQ1 : Hid (Below u.heap.size u w1) := hBu1
               have hLn2 : L + A + dz'.length ≤ 1000000 := (by omega)
               clear hB1' hBu1 hB1 e2 hown
               obtain ⟨g1, cap1, rfl, hNw1⟩ := own_cap (by rw [← hXl.out] at hown1; exact hown1)
               rw [hXl.out] at hown1 ⊢
               clear hNw1)
            | ((with_reducible refine at_slice ?_); refine app_cut rfl 85 rfl _ _ _ rfl rfl _ _ rfl w1 u.heap.size _ (X ++ (dz.drop P).take A) (L + A) hXl.out da' dz' dz'.length dc' R (R + B) _ _ rfl rfl (by omega) hRB rfl rfl rfl (fun u => rfl) (fun u => rfl) hown1 HID2.out hLn2 hzw1 ?_; intro y2 z2 w2 hown2 hB2))
          rw [Nat.add_sub_cancel_left] at hown2
          refine ⟨⟨k + 1, by omega, by go_num, ?_, ?_, HQ1.out.trans hB2⟩, by simp [intOf]; omega⟩
          · rw [HTK.out, ← HPR.out.1, ← HPR.out.2.1]
            have e : (X ++ (dz.drop P).take A ++ (dz'.drop R).take B).length = L + A + B := by
              rw [List.length_append, hXl.out, List.length_take, List.length_drop]; omega
            rw [e]
            exact hown2
          · rw [HPR.out.2.2.2.1]; exact HPR.out.2.2.2.2
        · have hLN : L = N := by omega
          have HDT : Hid (D.take (k * (A + B)) = D) := List.take_of_length_le (by rw [HNN.out.2.1, ← hLk]; omega)
          subst hLN
          have HY : Hid (NewC u.heap.size wr g D cap) := by have h := hNw; rw [HDT.out] at h; exact h
          have HB6 : Hid (Below w.heap.size w wr) := hB
          have HR6 : Hid (Abx wr (w.heap.size + 1 + 1) (.bool false) (.slice none 0 0) (.slice none 0 0)) := HR5.out.go hBu
          have HS6 : Hid (NewInts v1.heap.size wr (some ⟨bg, og, none⟩) S) := HS5.out.go hBu
          have e0 := (HA5.out.go hBu).c0
          have r0 := HR6.out.c0
          have r1 := HR6.out.c1
          have r2 := HR6.out.c2
          have f0 := HR6.out.fr 0
          have f1 := HR6.out.fr 1
          have f2 := HR6.out.fr 2
          have hzu : w.heap.size + 1 + 1 < u.heap.size := HR5.out.lt
          clear hown hBu hB hNw hL hLk hkN hlt hk
          go_wp2_with fail
          have F := HR6.out.set3 (.bool c) (.slice (some ⟨bg, og, none⟩) sz.length gc) (.slice g L cap)
          have q0 := F.c0
          have q1 := F.c1
          have q2 := F.c2
          refine bodyPost_ret (v := .tuple #[.agg #[.bool c, .slice (some ⟨bg, og, none⟩) sz.length gc, .slice g L cap], .nilIface]) (by simp [results, Try.results12, go_sem, q0, q1, q2]) rfl ?_
          have k1 := (HS6.out.set3 (b := w.heap.size + 1 + 1) (by omega) (.bool c) (.slice (some ⟨bg, og, none⟩) sz.length gc) (.slice g L cap)).low (lo' := w.heap.size) (by omega)
          have k2 := (HY.out.set3 (b := w.heap.size + 1 + 1) (by omega) (.bool c) (.slice (some ⟨bg, og, none⟩) sz.length gc) (.slice g L cap)).low (lo' := w.heap.size) (by omega)
          have k3 := bel_set3 HB6.out (b := w.heap.size + 1 + 1) (by omega) (.bool c) (.slice (some ⟨bg, og, none⟩) sz.length gc) (.slice g L cap)
          have hUB := UB.mkok (c := c) (xc := gc) (yc := cap) HE.out.2 ⟨k1, by rw [HS.out.2.1]; exact hgc⟩ k2 k3
          rw [HS.out.2.1, HNN.out.2.1, HNN.out.2.2.2, HS.out.1] at hUB
          exact hUB
    · have HE : Hid (errOf S ≠ 0) := he
      clear he
      refine (count_lno (some ⟨bg, og, none⟩) gc S sz.length HS.out.2.1 (by omega) v3 HS.out.2.2.ints HE.out).mono ?_
      rintro e v4 ⟨rfl, hC⟩
      have HR4 : Hid (Abx v4 (w.heap.size + 1 + 1) (.bool false) (.slice none 0 0) (.slice none 0 0)) := HR3.out.go hC
      have HB4 : Hid (Below w.heap.size w v4) := HB3.out.trans (hC.mono HB3.out.size)
      clear hC
      have r0 := HR4.out.c0
      have r1 := HR4.out.c1
      have r2 := HR4.out.c2
      have f0 := HR4.out.fr 0
      have f1 := HR4.out.fr 1
      have f2 := HR4.out.fr 2
      go_wp2_with fail
      have F := HR4.out.set3 (.bool false) (.slice none 0 0) (.slice none 0 0)
      have q0 := F.c0
      have q1 := F.c1
      have q2 := F.c2
      exact bodyPost_ret (v := .tuple #[.agg #[.bool false, .slice none 0 0, .slice none 0 0], .iface 40 (.int .i64 (errOf S))]) (by simp [results, Try.results12, go_sem, q0, q1, q2]) rfl (UB.mkno HJ.out HE.out (bel_set3 HB4.out (by omega) _ _ _))
  · have H3 : Hid (jnP x c sz dz c' sz' dz' ≠ 0) := h3
    have HE : Hid (jnE x c sz dz c' sz' dz' = jnP x c sz dz c' sz' dz') := jnE_pair h3
    clear h3
    go_enter Try.func12, Try.ntmps12
    go_wp2_with fail
    have hp := pair_any x HX.out c sa sc sz da dc dz c' sa' sc' sz' da' dc' dz' h1 h2 h1' h2' (((w.alloc (.cells #[.bool c, .slice sa sz.length sc, .slice da dz.length dc] 24)).alloc (.cells #[.bool c', .slice sa' sz'.length sc', .slice da' dz'.length dc'] 24)).alloc (.cells #[.bool false, .slice none 0 0, .slice none 0 0] 24)) ((HI.out.1.1.below HB0.out).mono HB0.out.size) ((HI.out.2.1.1.below HB0.out).mono HB0.out.size) ((HI.out.2.2.1.1.below HB0.out).mono HB0.out.size) ((HI.out.2.2.2.1.below HB0.out).mono HB0.out.size)
    rw [errV_pos H3.out] at hp
    refine hp.mono ?_
    clear hp
    rintro e v1 ⟨rfl, hC⟩
    have HA1 : Hid (Abx v1 w.heap.size (.bool c) (.slice sa sz.length sc) (.slice da dz.length dc)) := pa.go hC
    have HQ1 : Hid (Abx v1 (w.heap.size + 1) (.bool c') (.slice sa' sz'.length sc') (.slice da' dz'.length dc')) := pb.go hC
    have HR1 : Hid (Abx v1 (w.heap.size + 1 + 1) (.bool false) (.slice none 0 0) (.slice none 0 0)) := pr.go hC
    have HB1 : Hid (Below w.heap.size w v1) := HB0.out.trans (hC.mono HB0.out.size)
    clear hC pa pb pr p0 p1 p2 q0 q1 q2 HB0
    have r0 := HR1.out.c0
    have r1 := HR1.out.c1
    have r2 := HR1.out.c2
    have f0 := HR1.out.fr 0
    have f1 := HR1.out.fr 1
    have f2 := HR1.out.fr 2
    go_wp2_with fail
    have F := HR1.out.set3 (.bool false) (.slice none 0 0) (.slice none 0 0)
    have q0 := F.c0
    have q1 := F.c1
    have q2 := F.c2
    exact bodyPost_ret (v := .tuple #[.agg #[.bool false, .slice none 0 0, .slice none 0 0], .iface 40 (.int .i64 (jnP x c sz dz c' sz' dz'))]) (by simp [results, Try.results12, go_sem, q0, q1, q2]) rfl (UB.mkno HE.out H3.out (bel_set3 HB1.out (by omega) _ _ _))
end Go.Proofs.Ytcpmendkocnlhab
