/-
  Plain mathematics: heads and tails, arrays joined; nothing of the program.
-/
import Derived.Test.YtgaelbgeoobgiabDoorCutm
namespace Go.Proofs.YtgaelbgeoobgiabDoor
open Go.RowKit
set_option linter.unusedVariables false

section
variable {s t : List Int} {x : Nat} {v : Int}
theorem insS (hx : x < s.length) : insB (s.set x v) t = true ↔ t.length = s.length ∧ (∀ k, k < s.length → k ≠ x → 0 ≤ nth t k ∧ nth t k < nth s k) ∧ 0 ≤ nth t x ∧ nth t x < v := by
  constructor
  · intro h
    have hl := insB_len h
    rw [List.length_set] at hl
    have h' := (insB_iff (by rw [List.length_set]; exact hl)).1 h
    rw [List.length_set] at h'
    refine ⟨hl, fun k hk hn => ?_, ?_⟩
    · have := h' k hk
      rwa [nth_set _ _ _ _ hx, if_neg hn] at this
    · have := h' x hx
      rwa [nth_set _ _ _ _ hx, if_pos rfl] at this
  · rintro ⟨hl, h1, h2⟩
    rw [insB_iff (by rw [List.length_set]; exact hl), List.length_set]
    intro k hk
    rw [nth_set _ _ _ _ hx]
    split
    · rename_i e; subst e; exact h2
    · rename_i e; exact h1 k hk e
theorem ins_all (h : insB s t = true) : t.length = s.length ∧ ∀ k, k < s.length → 0 ≤ nth t k ∧ nth t k < nth s k := ⟨insB_len h, fun k hk => ins_at h hk⟩
theorem ins_mk (hl : t.length = s.length) (h : ∀ k, k < s.length → 0 ≤ nth t k ∧ nth t k < nth s k) : insB s t = true := (insB_iff hl).2 h
theorem set_get (hx : x < s.length) (h : v = nth s x) : s.set x v = s := by
  refine nth_ext (by simp) fun k hk => ?_
  rw [nth_set _ _ _ _ hx]
  split
  · rename_i e; rw [e, h]
  · rfl
theorem set_set (u : Int) : (s.set x u).set x v = s.set x v := by simp
theorem nth_set_self (hx : x < s.length) : nth (s.set x v) x = v := by rw [nth_set _ _ _ _ hx, if_pos rfl]
theorem nth_set_ne (hx : x < s.length) {k : Nat} (h : k ≠ x) : nth (s.set x v) k = nth s k := by rw [nth_set _ _ _ _ hx, if_neg h]
theorem err_set (he : errOf s = 0) (hx : x < s.length) (h0 : 0 ≤ v) (h1 : v ≤ nth s x) : errOf (s.set x v) = 0 := by
  have hb := errOf_zero.1 he
  refine err_mono (b := s) (by simp) (fun k hk => ?_) he
  rw [nth_set _ _ _ _ hx]
  split
  · rename_i e; subst e; exact ⟨h0, h1⟩
  · have := hb.2.1.nth k; omega
/-- The product, one axis apart. -/
def rest (s : List Int) (x : Nat) : Int := prod (s.take x) * prod (s.drop (x + 1))
theorem prod_set (hx : x < s.length) (v : Int) : prod (s.set x v) = v * rest s x := by
  have e := al_split (s.set x v) (x := x) (by rw [List.length_set]; exact hx)
  rw [nth_set_self hx] at e
  have e1 : (s.set x v).take x = s.take x := by
    rw [List.take_set]
    exact List.set_eq_of_length_le (by rw [List.length_take]; omega)
  have e2 : stp (s.set x v) x = prod (s.drop (x + 1)) := by
    unfold stp
    rw [List.drop_set]
    simp
  rw [e, e1, e2]
  unfold rest
  rw [← Int.mul_assoc, Int.mul_comm (prod (s.take x)) v, Int.mul_assoc]
theorem prod_get (hx : x < s.length) : prod s = nth s x * rest s x := by
  have := prod_set hx (nth s x)
  rwa [set_get hx rfl] at this
end
/-! ### Head and tail -/
def zer (n : Nat) : List Int := List.replicate n 0
theorem zer_nth (n k : Nat) : nth (zer n) k = 0 := nth_replicate n k
section
variable {c : Bool} {s dz : List Int} {x : Nat} {n : Int}
theorem add_zer (t u : List Int) (h : ∀ k, k < t.length → nth u k = 0) : addL t u = t :=
  nth_ext (addL_length t u) fun k hk => by rw [addL_length] at hk; rw [addL_nth t u hk, h k hk]; omega
theorem tk_head (hf : flawE c s dz = 0) (hx : x < s.length) (h0 : 0 ≤ n) (h1 : n ≤ nth s x) : tkE (s.set x n) c s dz = 0 ∧ tkS (s.set x n) = s.set x n ∧ tkD (s.set x n) c s dz = TA (s.set x n) (cel s dz) := by
  have he := (flawE_zero hf).1
  have hb := errOf_zero.1 he
  have hn : ∀ k, k < (s.set x n).length → 0 ≤ nth (s.set x n) k ∧ nth (s.set x n) k ≤ 4096 := fun k hk => by
    rw [nth_set _ _ _ _ hx]
    have := hb.2.1.nth k
    split
    · rename_i e; subst e; omega
    · exact this
  have hS : tkS (s.set x n) = s.set x n := nth_ext (tkS_length _) fun k hk => by
    rw [tkS_length] at hk
    rw [tkS_nth _ hk]
    unfold tks
    rw [if_pos (hn k hk).1]
  have hbig : tkBig (s.set x n) = false := by
    unfold tkBig
    rw [List.any_eq_false]
    intro y hy
    obtain ⟨j, hj, rfl⟩ := List.mem_iff_getElem.1 hy
    have := hn j hj
    rw [← nth_get _ j hj]
    simp; omega
  have hE := err_set he hx h0 h1
  refine ⟨tkE_zero.2 ⟨hf, by simp, hbig, by rw [hS]; exact hE⟩, hS, ?_⟩
  unfold tkD ptD
  rw [hS]
  refine TA_congr hE fun t ht => ?_
  have hi := (insS hx).1 ht
  have ha : addL t (tkU s (s.set x n)) = t := add_zer _ _ fun k hk => by
    rw [tkU_nth _ _ (by rw [List.length_set]; omega), if_pos (hn k (by rw [List.length_set]; omega)).1]
  unfold ptC
  rw [ha, if_pos]
  refine ins_mk hi.1 fun k hk => ?_
  by_cases e : k = x
  · subst e; omega
  · exact hi.2.1 k hk e
theorem dr_tail (hf : flawE c s dz = 0) (hx : x < s.length) (h0 : 0 ≤ n) (h1 : n ≤ nth s x) : drE ((zer s.length).set x n) c s dz = 0 ∧ drS s ((zer s.length).set x n) = s.set x (nth s x - n) ∧ drD ((zer s.length).set x n) c s dz = TA (s.set x (nth s x - n)) (fun t => cel s dz (t.set x (nth t x + n))) := by
  have he := (flawE_zero hf).1
  have hb := errOf_zero.1 he
  have hz : x < (zer s.length).length := by simp [zer]; exact hx
  have hl : ((zer s.length).set x n).length = s.length := by simp [zer]
  have hS : drS s ((zer s.length).set x n) = s.set x (nth s x - n) := nth_ext (by rw [drS_length, hl, List.length_set]) fun k hk => by
    rw [drS_length] at hk
    rw [drS_nth _ _ hk, nth_set _ _ _ _ hz, nth_set _ _ _ _ hx]
    have := hb.2.1.nth k
    unfold drs
    by_cases e : k = x
    · subst e
      rw [if_pos rfl, if_pos rfl]
      repeat' split
      all_goals omega
    · rw [if_neg e, if_neg e, zer_nth]
      repeat' split
      all_goals omega
  have hE := err_set (v := nth s x - n) he hx (by omega) (by omega)
  refine ⟨drE_zero.2 ⟨hf, hl⟩, hS, ?_⟩
  unfold drD ptD
  rw [hS]
  refine TA_congr hE fun t ht => ?_
  have hi := (insS hx).1 ht
  have hxt : x < t.length := by omega
  have ha : addL t (drU s ((zer s.length).set x n)) = t.set x (nth t x + n) := nth_ext (by rw [addL_length, List.length_set]) fun k hk => by
    rw [addL_length] at hk
    rw [addL_nth _ _ hk, drU_nth _ _ (by omega), nth_set _ _ _ _ hz, nth_set _ _ _ _ hxt]
    unfold dru
    by_cases e : k = x
    · subst e
      rw [if_pos rfl, if_pos rfl, if_neg (by omega), if_pos h0]
    · rw [if_neg e, if_neg e, zer_nth]
      repeat' split
      all_goals omega
  unfold ptC
  rw [ha, if_pos]
  refine ins_mk (by rw [List.length_set]; exact hi.1) fun k hk => ?_
  rw [nth_set _ _ _ _ hxt]
  split
  · rename_i e; subst e; omega
  · rename_i e; exact hi.2.1 k hk e
/-- The last ones are all but the others. -/
theorem tk_last (hf : flawE c s dz = 0) (hx : x < s.length) (h0 : 0 ≤ n) (h1 : n ≤ nth s x) : tkE (s.set x (n - nth s x)) c s dz = 0 ∧ tkS (s.set x (n - nth s x)) = s.set x (nth s x - n) ∧ tkD (s.set x (n - nth s x)) c s dz = TA (s.set x (nth s x - n)) (fun t => cel s dz (t.set x (nth t x + n))) := by
  have he := (flawE_zero hf).1
  have hb := errOf_zero.1 he
  have hbx := hb.2.1.nth x
  have hS : tkS (s.set x (n - nth s x)) = s.set x (nth s x - n) := nth_ext (by rw [tkS_length, List.length_set, List.length_set]) fun k hk => by
    rw [tkS_length] at hk
    rw [tkS_nth _ hk, nth_set _ _ _ _ hx, nth_set _ _ _ _ hx]
    have := hb.2.1.nth k
    unfold tks
    by_cases e : k = x
    · subst e; rw [if_pos rfl, if_pos rfl]; split <;> omega
    · rw [if_neg e, if_neg e]; split <;> omega
  have hbig : tkBig (s.set x (n - nth s x)) = false := by
    unfold tkBig
    rw [List.any_eq_false]
    intro y hy
    obtain ⟨j, hj, rfl⟩ := List.mem_iff_getElem.1 hy
    rw [← nth_get _ j hj, nth_set _ _ _ _ hx]
    have := hb.2.1.nth j
    split <;> (simp; omega)
  have hE := err_set (v := nth s x - n) he hx (by omega) (by omega)
  refine ⟨tkE_zero.2 ⟨hf, by simp, hbig, by rw [hS]; exact hE⟩, hS, ?_⟩
  unfold tkD ptD
  rw [hS]
  refine TA_congr hE fun t ht => ?_
  have hi := (insS hx).1 ht
  have hxt : x < t.length := by omega
  have ha : addL t (tkU s (s.set x (n - nth s x))) = t.set x (nth t x + n) := nth_ext (by rw [addL_length, List.length_set]) fun k hk => by
    rw [addL_length] at hk
    rw [addL_nth _ _ hk, tkU_nth _ _ (by rw [List.length_set]; omega), nth_set _ _ _ _ hx, nth_set _ _ _ _ hxt]
    by_cases e : k = x
    · subst e; rw [if_pos rfl, if_pos rfl, if_neg (by omega)]; omega
    · have := hb.2.1.nth k
      rw [if_neg e, if_neg e, if_pos this.1]; omega
  unfold ptC
  rw [ha, if_pos]
  refine ins_mk (by rw [List.length_set]; exact hi.1) fun k hk => ?_
  rw [nth_set _ _ _ _ hxt]
  split
  · rename_i e; subst e; omega
  · rename_i e; exact hi.2.1 k hk e
/-- All but the last ones are the first ones. -/
theorem dr_last (hf : flawE c s dz = 0) (hx : x < s.length) (h0 : 0 ≤ n) (h1 : n ≤ nth s x) : drE ((zer s.length).set x (n - nth s x)) c s dz = 0 ∧ drS s ((zer s.length).set x (n - nth s x)) = s.set x n ∧ drD ((zer s.length).set x (n - nth s x)) c s dz = TA (s.set x n) (cel s dz) := by
  have he := (flawE_zero hf).1
  have hb := errOf_zero.1 he
  have hbx := hb.2.1.nth x
  have hz : x < (zer s.length).length := by simp [zer]; exact hx
  have hl : ((zer s.length).set x (n - nth s x)).length = s.length := by simp [zer]
  have hS : drS s ((zer s.length).set x (n - nth s x)) = s.set x n := nth_ext (by rw [drS_length, hl, List.length_set]) fun k hk => by
    rw [drS_length] at hk
    rw [drS_nth _ _ hk, nth_set _ _ _ _ hz, nth_set _ _ _ _ hx]
    have := hb.2.1.nth k
    unfold drs
    by_cases e : k = x
    · subst e
      rw [if_pos rfl, if_pos rfl]
      repeat' split
      all_goals omega
    · rw [if_neg e, if_neg e, zer_nth]
      repeat' split
      all_goals omega
  have hE := err_set (v := n) he hx h0 h1
  refine ⟨drE_zero.2 ⟨hf, hl⟩, hS, ?_⟩
  unfold drD ptD
  rw [hS]
  refine TA_congr hE fun t ht => ?_
  have hi := (insS hx).1 ht
  have ha : addL t (drU s ((zer s.length).set x (n - nth s x))) = t := add_zer _ _ fun k hk => by
    rw [drU_nth _ _ (by omega), nth_set _ _ _ _ hz]
    unfold dru
    by_cases e : k = x
    · subst e
      rw [if_pos rfl]
      repeat' split
      all_goals omega
    · rw [if_neg e, zer_nth]
      repeat' split
      all_goals omega
  unfold ptC
  rw [ha, if_pos]
  refine ins_mk hi.1 fun k hk => ?_
  by_cases e : k = x
  · subst e; omega
  · exact hi.2.1 k hk e
end
/-! ### Joined -/
section
variable {c : Bool} {s dz s' dz' : List Int} {x : Nat}
theorem jn_flaw {X : Int} {c' : Bool} (h : jnE X c s dz c' s' dz' = 0) : flawE c (jnS X.toNat s s') (jnD X.toNat s dz s' dz') = 0 := by
  obtain ⟨h1, h2, h3, h4, h5, h6, h7, h8⟩ := jnE_zero.1 h
  subst h7
  have ho := othB_iff.1 h6
  refine TA_flaw h8 fun hc t ht => ?_
  have hi := (insS h5).1 ht
  unfold jnC
  split
  · rename_i hlt
    exact cel_ch h1 hc (ins_mk hi.1 fun k hk => by
      by_cases e : k = X.toNat
      · subst e; omega
      · exact hi.2.1 k hk e)
  · rename_i hlt
    refine cel_ch h2 hc (ins_mk (by rw [List.length_set]; omega) fun k hk => ?_)
    rw [nth_set _ _ _ _ (by omega)]
    split
    · rename_i e; subst e; omega
    · rename_i e
      rw [← ho k (by omega) e]
      exact hi.2.1 k (by omega) e
theorem jn_64 {X : Int} {c' : Bool} (h : jnE X c s dz c' s' dz' = 0) (T : ∀ j, In64 (nth dz j)) (T' : ∀ j, In64 (nth dz' j)) : ∀ j, In64 (nth (jnD X.toNat s dz s' dz') j) := TA_64 (jnE_zero.1 h).2.2.2.2.2.2.2 fun t ht => by
  unfold jnC
  split
  · exact cel_64 T _
  · exact cel_64 T' _
/-- Head and tail are all. -/
theorem jn_whole {n : Int} (hf : flawE c s dz = 0) (hx : x < s.length) (h0 : 0 ≤ n) (h1 : n ≤ nth s x) :
    jnE x c (s.set x n) (TA (s.set x n) (cel s dz)) c (s.set x (nth s x - n)) (TA (s.set x (nth s x - n)) (fun t => cel s dz (t.set x (nth t x + n)))) = 0 ∧ jnS x (s.set x n) (s.set x (nth s x - n)) = s
    ∧ jnD x (s.set x n) (TA (s.set x n) (cel s dz)) (s.set x (nth s x - n)) (TA (s.set x (nth s x - n)) (fun t => cel s dz (t.set x (nth t x + n)))) = dz := by
  obtain ⟨he, hd, _⟩ := flawE_zero hf
  have hb := errOf_zero.1 he
  have hE1 := err_set (v := n) he hx h0 h1
  have hE2 := err_set (v := nth s x - n) he hx (by omega) (by omega)
  have hS : jnS x (s.set x n) (s.set x (nth s x - n)) = s := by
    unfold jnS
    rw [nth_set_self hx, nth_set_self hx, set_set]
    exact set_get hx (by omega)
  have f1 : flawE c (s.set x n) (TA (s.set x n) (cel s dz)) = 0 := TA_flaw hE1 fun hc t ht => by
    have hi := (insS hx).1 ht
    exact cel_ch hf hc (ins_mk hi.1 fun k hk => by
      by_cases e : k = x
      · subst e; omega
      · exact hi.2.1 k hk e)
  have f2 : flawE c (s.set x (nth s x - n)) (TA (s.set x (nth s x - n)) (fun t => cel s dz (t.set x (nth t x + n)))) = 0 := TA_flaw hE2 fun hc t ht => by
    have hi := (insS hx).1 ht
    refine cel_ch hf hc (ins_mk (by rw [List.length_set]; exact hi.1) fun k hk => ?_)
    rw [nth_set _ _ _ _ (by omega)]
    split
    · rename_i e; subst e; omega
    · rename_i e; exact hi.2.1 k hk e
  refine ⟨jnE_zero.2 ⟨f1, f2, by simp, by omega, by simpa using hx, othB_iff.2 fun k hk e => ?_, rfl, by rw [Int.toNat_natCast, hS]; exact he⟩, hS, ?_⟩
  · rw [List.length_set] at hk
    rw [Int.toNat_natCast] at e
    rw [nth_set_ne hx e, nth_set_ne hx e]
  · unfold jnD
    rw [hS]
    refine TA_is he hd fun t ht => ?_
    have hi := ins_all ht
    have hxi := hi.2 x hx
    have hxt : x < t.length := by omega
    unfold jnC
    rw [nth_set_self hx]
    by_cases hlt : nth t x < n
    · rw [if_pos hlt]
      exact TA_at hE1 ((insS hx).2 ⟨hi.1, fun k hk _ => hi.2 k hk, hxi.1, hlt⟩)
    · rw [if_neg hlt, TA_at hE2 ((insS hx).2 ⟨by rw [List.length_set]; exact hi.1, fun k hk e => by rw [nth_set_ne hxt e]; exact hi.2 k hk, by rw [nth_set_self hxt]; omega, by rw [nth_set_self hxt]; omega⟩)]
      rw [nth_set_self hxt, set_set]
      congr 1
      exact set_get hxt (by omega)
end
end Go.Proofs.YtgaelbgeoobgiabDoor
