/-
  Plain mathematics of arrays folded along an axis: reversed and moved round; the last one so far; joined; along two axes.
-/
import Derived.Test.YtgaelbgeoobgiaaFldn
import Derived.Test.YtgaelbgeoobgiaaEachm
namespace Go.Proofs.Ytgaelbgeoobgiaa
open Go.RowKit
set_option linter.unusedVariables false

theorem nth_reverse {l : List Int} {j : Nat} (h : j < l.length) : nth l.reverse j = nth l (l.length - 1 - j) := by
  unfold nth
  rw [List.getD_eq_getElem?_getD, List.getD_eq_getElem?_getD, List.getElem?_reverse h]
theorem nth_app_else (a b : List Int) (j : Nat) (h : ¬ j < a.length) : nth (a ++ b) j = nth b (j - a.length) := by
  unfold nth
  rw [List.getD_eq_getElem?_getD, List.getD_eq_getElem?_getD, List.getElem?_append_right (by omega)]
theorem nth_range12 {n j : Nat} {g : Nat → Int} (h : j < n) : nth ((List.range n).map g) j = g j := by simp [nth, h]
theorem nth_drop12 (l : List Int) (m j : Nat) : nth (l.drop m) j = nth l (m + j) := by
  unfold nth
  rw [List.getD_eq_getElem?_getD, List.getD_eq_getElem?_getD, List.getElem?_drop]
section
variable {f : Int} {s dz : List Int} {x : Nat}
/-- All indices along the axis are indices. -/
theorem xin_line (hx : x < s.length) {t : List Int} (ht : insB (xout x s) t = true) {v : Int} (h0 : 0 ≤ v) (h1 : v < nth s x) : (xin x 0 t).set x v = xin x v t ∧ insB s (xin x v t) = true := by
  have hl := xout_length hx
  have hl2 := insB_len ht
  exact ⟨xin_set (by omega), ins_xin hx ht ⟨h0, h1⟩⟩
theorem rdL_nth (hx : x < s.length) {t : List Int} (ht : insB (xout x s) t = true) {j : Nat} (hj : j < (nth s x).toNat) : nth (rdL s dz x t) j = cel s dz (xin x j t) := by
  unfold rdL
  rw [lnL_nth hj]
  have := xin_line hx ht (v := (j : Int)) (by omega) (by omega)
  rw [Int.zero_add, this.1]
theorem rdL_length (s dz : List Int) (x : Nat) (t : List Int) : (rdL s dz x t).length = (nth s x).toNat := lnL_length _ _ _ _ _ _
theorem rdL_map (hx : x < s.length) {t : List Int} (ht : insB (xout x s) t = true) : rdL s dz x t = (List.range (nth s x).toNat).map fun j : Nat => cel s dz (xin x j t) := by
  refine nth_ext (by rw [rdL_length]; simp) fun j hj => ?_
  rw [rdL_length] at hj
  rw [rdL_nth hx ht hj, nth_range12 hj]
theorem xin_in (hx : x < s.length) {t : List Int} (ht : insB (xout x s) t = true) (v : Int) : nth (xin x v t) x = v := by
  have hl := xout_length hx
  have hl2 := insB_len ht
  exact xin_at (by omega)
/-! ### Reversed, moved round -/
theorem rd_rev (hm : Mon f) (he : errOf s = 0) (hx : x < s.length) (ho : errOf (xout x s) = 0) (T : ∀ j, In64 (nth dz j)) : rdD f s (GA s dz s (revT s x)) x = rdD f s dz x := by
  refine TA_congr ho fun t ht => ?_
  have e : rdL s (GA s dz s (revT s x)) x t = (rdL s dz x t).reverse := by
    refine nth_ext (by rw [List.length_reverse, rdL_length, rdL_length]) fun j hj => ?_
    rw [rdL_length] at hj
    rw [nth_reverse (by rw [rdL_length]; exact hj), rdL_length, rdL_nth hx ht hj, rdL_nth hx ht (by omega)]
    have h1 := xin_line hx ht (v := (j : Int)) (by omega) (by omega)
    rw [GA_TA, TA_at he h1.2]
    congr 1
    unfold revT
    have hl := xout_length hx
    have hl2 := insB_len ht
    rw [xin_in hx ht, xin_set (by omega)]
    congr 1
    omega
  rw [e]
  exact hm.perm (List.reverse_perm _) fun y hy => lnL_64 T _ _ _ _ y (List.mem_reverse.1 hy)
theorem rd_rot (hm : Mon f) (he : errOf s = 0) (hx : x < s.length) (ho : errOf (xout x s) = 0) (T : ∀ j, In64 (nth dz j)) (n : Int) : rdD f s (GA s dz s (rotT s n x)) x = rdD f s dz x := by
  refine TA_congr ho fun t ht => ?_
  obtain ⟨L, hL⟩ : ∃ L, L = (nth s x).toNat := ⟨_, rfl⟩
  obtain ⟨m, hm'⟩ : ∃ m, m = (n % nth s x).toNat := ⟨_, rfl⟩
  have e : rdL s (GA s dz s (rotT s n x)) x t = (rdL s dz x t).drop m ++ (rdL s dz x t).take m := by
    refine nth_ext (by rw [List.length_append, List.length_drop, List.length_take, rdL_length, rdL_length]; omega) fun j hj => ?_
    rw [rdL_length, ← hL] at hj
    have hL0 : 0 < nth s x := by omega
    have hLe : (L : Int) = nth s x := by omega
    have hm0 := Int.emod_nonneg n (show nth s x ≠ 0 by omega)
    have hm1 := Int.emod_lt_of_pos n hL0
    have hmm : (m : Int) = n % nth s x := by omega
    have hdm := Int.mul_ediv_add_emod n (nth s x)
    have hmL : m < L := by omega
    have hl := xout_length hx
    have hl2 := insB_len ht
    rw [rdL_nth hx ht (by omega)]
    have h1 := xin_line hx ht (v := (j : Int)) (by omega) (by omega)
    rw [GA_TA, TA_at he h1.2]
    unfold rotT
    rw [xin_in hx ht, xin_set (by omega)]
    by_cases hc : j < L - m
    · rw [nth_append_left _ _ _ (by rw [List.length_drop, rdL_length]; omega), nth_drop12, rdL_nth hx ht (by omega)]
      congr 2
      exact emod_is (by omega) (by omega) (n / nth s x) (by rw [show ((m + j : Nat) : Int) = (m : Int) + j by omega, hmm]; omega)
    · rw [nth_app_else _ _ _ (by rw [List.length_drop, rdL_length]; omega), List.length_drop, rdL_length, ← hL, nth_take _ _ _ (by omega), rdL_nth hx ht (by omega)]
      congr 2
      refine emod_is (by omega) (by omega) (n / nth s x + 1) ?_
      rw [Int.mul_add, Int.mul_one]
      omega
  rw [e]
  have hp : ((rdL s dz x t).drop m ++ (rdL s dz x t).take m).Perm (rdL s dz x t) := List.perm_append_comm.trans (by rw [List.take_append_drop])
  exact hm.perm hp fun y hy => lnL_64 T _ _ _ _ y (hp.mem_iff.1 hy)
/-! ### The last one so far is all; the first one is the first cell -/
theorem scL_at {t : List Int} (ht : insB s t = true) (hx : x < s.length) {v : Nat} (hv : (v : Int) < nth s x) : scL s dz x (t.set x v) = lnL s dz x t 0 (v + 1) := by
  have hlt := insB_len ht
  unfold scL
  rw [nth_set_self (by omega), lnL_set]
  congr 1
theorem sc_first {c : Bool} {X : Int} (h : scE f X c s dz = 0) (hX : X.toNat = x) (h1 : 1 ≤ nth s x) : TA (s.set x 1) (cel s (scD f s dz x)) = TA (s.set x 1) (cel s dz) := by
  obtain ⟨hl, hs⟩ := scE_zero.1 h
  obtain ⟨_, hf, hx, hc⟩ := lnE_zero.1 hl
  rw [hX] at hx
  have he := (flawE_zero hf).1
  refine TA_congr (err_set he hx.2 (by omega) (by omega)) fun t ht => ?_
  have h2 := (insS hx.2).1 ht
  have ht' : insB s t = true := ins_mk h2.1 fun k hk => by
    by_cases e : k = x
    · subst e; omega
    · exact h2.2.1 k hk e
  unfold scD
  rw [TA_at he ht']
  have h0 : nth t x = 0 := by omega
  unfold scL
  rw [h0, show ((0 : Int) + 1).toNat = 0 + 1 from rfl, lnL_cons]
  show fdV f [_] = _
  rw [fdV_one, set_get (by omega) h0.symm]
theorem sc_last {c : Bool} {X : Int} (h : scE f X c s dz = 0) (hX : X.toNat = x) (h1 : 1 ≤ nth s x) :
    rdE f X c s dz = 0 ∧ TA (s.set x 1) (fun t => cel s (scD f s dz x) (t.set x (nth t x + (nth s x - 1)))) = rdD f s dz x := by
  obtain ⟨hl, hs⟩ := scE_zero.1 h
  obtain ⟨_, hf, hx, hc⟩ := lnE_zero.1 hl
  rw [hX] at hx hs
  have he := (flawE_zero hf).1
  have ho := err_xout hx.2 he h1
  have key : ∀ t, insB (xout x s) t = true → insB s (xin x (nth s x - 1) t) = true ∧ scL s dz x (xin x (nth s x - 1) t) = rdL s dz x t := fun t ht => by
    have h2 := xin_line hx.2 ht (v := nth s x - 1) (by omega) (by omega)
    refine ⟨h2.2, ?_⟩
    unfold scL rdL
    rw [xin_in hx.2 ht, ← h2.1, lnL_set]
    congr 1
    omega
  refine ⟨?_, ?_⟩
  · refine rdE_zero.2 ⟨hl, fun e => by rw [hX] at e; omega, by rw [hX]; exact ho, fun t ht => ?_⟩
    rw [hX] at ht ⊢
    have := key t ht
    rw [← this.2]
    exact hs _ this.1
  · rw [TA_one hx.2 (err_set he hx.2 (by omega) (by omega)) ho]
    refine TA_congr ho fun t ht => ?_
    have hlx := xout_length hx.2
    have hlt := insB_len ht
    have h2 := key t ht
    rw [xin_in hx.2 ht, xin_set (by omega), Int.zero_add]
    unfold scD
    rw [TA_at he h2.1, h2.2]
/-! ### Joined -/
theorem rd_join {c c' : Bool} {s' dz' : List Int} (h : jnE x c s dz c' s' dz' = 0) (hm : Mon f) (ho : errOf (xout x s) = 0) (T : ∀ j, In64 (nth dz j)) (T' : ∀ j, In64 (nth dz' j)) :
    xout x (jnS x s s') = xout x s ∧ xout x s' = xout x s ∧ rdD f (jnS x s s') (jnD x s dz s' dz') x = TA (xout x s) (fun t => twoV f (fdV f (rdL s dz x t)) (fdV f (rdL s' dz' x t))) := by
  obtain ⟨hf, hf', hl, hx, hoth, hc, he⟩ := jnZ.1 h
  have e1 : xout x (jnS x s s') = xout x s := xout_set _
  have e2 : xout x s' = xout x s := by
    have hs : s' = s.set x (nth s' x) := by
      refine nth_ext (by simp [hl]) fun k hk => ?_
      rw [nth_set _ _ _ _ hx]
      split
      · rename_i e; rw [e]
      · rename_i e; exact (othB_iff.1 hoth k (by omega) e).symm
    rw [hs, xout_set]
  refine ⟨e1, e2, ?_⟩
  have hb := (errOf_zero.1 (flawE_zero hf).1).2.1.nth x
  have hb' := (errOf_zero.1 (flawE_zero hf').1).2.1.nth x
  unfold rdD
  rw [e1]
  refine TA_congr ho fun t ht => ?_
  have hjx : x < (jnS x s s').length := by rw [jnS_length]; exact hx
  have ht1 : insB (xout x (jnS x s s')) t = true := by rw [e1]; exact ht
  have ht2 : insB (xout x s') t = true := by rw [e2]; exact ht
  have hlx := xout_length hx
  have hlt := insB_len ht
  have e : rdL (jnS x s s') (jnD x s dz s' dz') x t = rdL s dz x t ++ rdL s' dz' x t := by
    refine nth_ext (by rw [List.length_append, rdL_length, rdL_length, rdL_length, jnS_at hx]; omega) fun j hj => ?_
    rw [rdL_length, jnS_at hx] at hj
    rw [rdL_nth hjx ht1 (by rw [jnS_at hx]; exact hj)]
    have h1 := xin_line hjx ht1 (v := (j : Int)) (by omega) (by rw [jnS_at hx]; omega)
    unfold jnD
    rw [TA_at he h1.2]
    unfold jnC
    rw [xin_in hjx ht1]
    by_cases hc : (j : Int) < nth s x
    · rw [if_pos hc, nth_append_left _ _ _ (by rw [rdL_length]; omega), rdL_nth hx ht (by omega)]
    · rw [if_neg hc, nth_app_else _ _ _ (by rw [rdL_length]; omega), rdL_length, rdL_nth (by omega) ht2 (by omega), xin_set (by omega)]
      congr 2
      omega
  show fdV f (rdL (jnS x s s') (jnD x s dz s' dz') x t) = _
  rw [e]
  exact hm.app (lnL_64 T' _ _ _ _) (lnL_64 T _ _ _ _)
/-- Two arrays of one shape, cell by cell. -/
theorem e2_mon {S : List Int} {u v : List Int → Int} (hm : Mon f) (he : errOf S = 0) : e2E f false S (TA S u) false S (TA S v) = 0 ∧ shp S S = S ∧ e2V f false S (TA S u) false S (TA S v) = TA S (fun t => twoV f (u t) (v t)) := by
  have hfl : ∀ g : List Int → Int, flawE false S (TA S g) = 0 := fun g => TA_flaw he (fun e => absurd e (by decide))
  have hF : e2F f false S (TA S u) false S (TA S v) = 0 := e2F_zero.2 ⟨by have := hm.fn; omega, hfl u, hfl v, .inr (.inr rfl), fun h => by simp at h⟩
  have hS : shp S S = S := by unfold shp; split <;> rfl
  have hO : e2O f false S (TA S u) false S (TA S v) = true := by
    unfold e2O
    rw [List.all_eq_true]
    intro i _
    show (tcE f (false == false) _ _ == 0) = true
    unfold tcE
    simp [hm.te]
  refine ⟨?_, hS, ?_⟩
  · unfold e2E; rw [if_neg (not_not_intro hF), if_pos hO]
  · have hN : e2N S S = (prod S).toNat := by unfold e2N; rw [hS]
    refine nth_ext (by rw [e2V_length, TA_length, hN]) fun i hi => ?_
    rw [e2V_length, hN] at hi
    rw [e2V_nth _ _ _ _ _ _ _ (by rw [hN]; exact hi), TA_nth hi]
    have hcy : ∀ g : List Int → Int, e2C (TA S g) i = g (cr S i) := fun g => by
      unfold e2C cyA
      rw [TA_length, if_neg (by omega), Nat.mod_eq_of_lt hi, TA_nth hi]
    rw [hcy, hcy]
    simp [tcV]
/-! ### Along two axes -/
theorem rd_two {i j : Nat} (hij : i < j) (hj : j < s.length) (hm : Mon f) (T : ∀ j, In64 (nth dz j)) (h1 : errOf (xout j s) = 0) (h2 : errOf (xout i s) = 0) (h3 : errOf (xout i (xout j s)) = 0) :
    xout (j - 1) (xout i s) = xout i (xout j s) ∧ rdD f (xout j s) (rdD f s dz j) i = rdD f (xout i s) (rdD f s dz i) (j - 1) := by
  have e0 := xout_swap (i := i) (j := j) (s := s) hij hj
  refine ⟨e0.symm, ?_⟩
  have hi : i < s.length := by omega
  have hlj := xout_length hj
  have hli := xout_length hi
  have ni : nth (xout j s) i = nth s i := by rw [xout_nth i hj, if_pos hij]
  have nj : nth (xout i s) (j - 1) = nth s j := by rw [xout_nth (j - 1) hi, if_neg (by omega), show j - 1 + 1 = j by omega]
  unfold rdD
  rw [← e0]
  refine TA_congr h3 fun t ht => ?_
  have ht2 : insB (xout (j - 1) (xout i s)) t = true := by rw [← e0]; exact ht
  have hlt := insB_len ht
  have hll := xout_length (x := i) (s := xout j s) (by omega)
  have a1 : rdL (xout j s) (TA (xout j s) fun t => fdV f (rdL s dz j t)) i t = (List.range (nth s i).toNat).map fun k : Nat => fdV f ((List.range (nth s j).toNat).map fun m : Nat => cel s dz (xin j m (xin i k t))) := by
    rw [rdL_map (by omega) ht, ni]
    refine List.map_congr_left fun k hk => ?_
    have hk' := List.mem_range.1 hk
    have hin := xin_line (x := i) (s := xout j s) (by omega) ht (v := (k : Int)) (by omega) (by rw [ni]; omega)
    rw [TA_at h1 hin.2, rdL_map hj hin.2]
  have a2 : rdL (xout i s) (TA (xout i s) fun t => fdV f (rdL s dz i t)) (j - 1) t = (List.range (nth s j).toNat).map fun m : Nat => fdV f ((List.range (nth s i).toNat).map fun k : Nat => cel s dz (xin j m (xin i k t))) := by
    rw [rdL_map (by omega) ht2, nj]
    refine List.map_congr_left fun m hk => ?_
    have hk' := List.mem_range.1 hk
    have hin := xin_line (x := j - 1) (s := xout i s) (by omega) ht2 (v := (m : Int)) (by omega) (by rw [nj]; omega)
    rw [TA_at h2 hin.2, rdL_map hi hin.2]
    congr 1
    refine List.map_congr_left fun k _ => ?_
    rw [xin_swap hij (by omega)]
  rw [a1, a2]
  exact hm.fubini (List.range (nth s j).toNat) (g := fun (k m : Nat) => cel s dz (xin j m (xin i k t))) fun k m => cel_64 T _
end
end Go.Proofs.Ytgaelbgeoobgiaa
