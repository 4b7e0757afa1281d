/-
  Plain mathematics of lists folded: sums so far, differences from the right, the greatest so far.
-/
import Derived.Test.YtcpmendkocnlhabFldl
namespace Go.Proofs.Ytcpmendkocnlhab
open Go.RowKit
set_option linter.unusedVariables false

section
variable {f N n : Int} {dz : List Int}
theorem place_vec (N k : Int) : place [N] [k] = k := by simp [place, prod]
theorem ins_vec {t : List Int} (h : insB [N] t = true) : ∃ k : Nat, t = [(k : Int)] ∧ (k : Int) < N := by
  match t, h with
  | [], h => simp [insB] at h
  | [a], h =>
    have := (ins_cons.1 h).1
    exact ⟨a.toNat, by rw [Int.toNat_of_nonneg this.1], by omega⟩
  | _ :: _ :: _, h => simp [insB] at h
theorem ins_vec' {k : Nat} (h : (k : Int) < N) : insB [N] [(k : Int)] = true := ins_cons.2 ⟨⟨by omega, h⟩, rfl⟩
theorem cel_vec (N : Int) (dz : List Int) (k : Nat) : cel [N] dz [(k : Int)] = nth dz k := by unfold cel; rw [place_vec]; rfl
theorem TA_vec {g : List Int → Int} (he : errOf [N] = 0) {m : Nat} (hm : (m : Int) = N) : TA [N] g = (List.range m).map fun i : Nat => g [(i : Int)] := by
  have hp : (prod [N]).toNat = m := by simp [prod]; omega
  refine nth_ext (by rw [TA_length, hp]; simp) fun i hi => ?_
  rw [TA_length, hp] at hi
  rw [nth_range12 hi]
  have h := TA_at (f := g) he (ins_vec' (N := N) (k := i) (by omega))
  rwa [cel_vec] at h
theorem ln_vec (k : Int) {a m : Nat} (h : a + m ≤ dz.length) : lnL [N] dz 0 [k] a m = (dz.drop a).take m := by
  refine nth_ext (by rw [lnL_length, List.length_take, List.length_drop]; omega) fun j hj => ?_
  rw [lnL_length] at hj
  rw [lnL_nth hj, nth_take _ _ _ hj, nth_drop12]
  show cel [N] dz [(a : Int) + j] = _
  rw [show (a : Int) + (j : Int) = ((a + j : Nat) : Int) by omega, cel_vec]
theorem sc_vec (he : errOf [N] = 0) (hd : (dz.length : Int) = N) : scD f [N] dz 0 = (List.range dz.length).map fun i : Nat => fdV f (dz.take (i + 1)) := by
  unfold scD
  rw [TA_vec he hd]
  refine List.map_congr_left fun i hi => ?_
  have hi' := List.mem_range.1 hi
  unfold scL
  show fdV f (lnL [N] dz 0 [(i : Int)] ((0 : Nat) : Int) ((i : Int) + 1).toNat) = _
  rw [show ((i : Int) + 1).toNat = i + 1 by omega, ln_vec _ (by omega), List.drop_zero]
theorem rd_vec (hd : (dz.length : Int) = N) : rdL [N] dz 0 [] = dz ∧ rdD f [N] dz 0 = [fdV f dz] := by
  have e : rdL [N] dz 0 [] = dz := by
    unfold rdL
    show lnL [N] dz 0 [0] ((0 : Nat) : Int) (nth [N] 0).toNat = dz
    rw [nth_zero, show N.toNat = dz.length by omega, ln_vec _ (by omega), List.drop_zero, List.take_length]
  refine ⟨e, ?_⟩
  unfold rdD
  show TA [] (fun t => fdV f (rdL [N] dz 0 t)) = _
  refine nth_ext (by rw [TA_length]; rfl) fun i hi => ?_
  rw [TA_length] at hi
  have hi0 : i = 0 := by have : (prod []).toNat = 1 := rfl; omega
  subst hi0
  rw [TA_nth hi]
  have : cr [] 0 = [] := List.eq_nil_of_length_eq_zero (cr_length [] 0)
  rw [this, e]
  rfl
theorem wd_vec (he : errOf (wdS n 0 [N]) = 0) (hd : (dz.length : Int) = N) (h1 : 1 ≤ n) (h2 : n ≤ N) : wdD f n [N] dz 0 = (List.range (dz.length - n.toNat + 1)).map fun i : Nat => fdV f ((dz.drop i).take n.toNat) := by
  unfold wdD
  have hS : wdS n 0 [N] = [N - n + 1] := rfl
  rw [hS] at he ⊢
  rw [TA_vec (m := dz.length - n.toNat + 1) he (by omega)]
  refine List.map_congr_left fun i hi => ?_
  have hi' := List.mem_range.1 hi
  unfold wdL
  show fdV f (lnL [N] dz 0 [(i : Int)] (i : Int) n.toNat) = _
  rw [ln_vec _ (by omega)]
theorem sc_vec_ok (hm : Mon f) (T : ∀ j, In64 (nth dz j)) (hf : flawE false [N] dz = 0) : scE f 0 false [N] dz = 0 :=
  scE_zero.2 ⟨lnE_zero.2 ⟨hm.fn, hf, ⟨by omega, by simp⟩, rfl⟩, fun t _ => hm.ok (lnL_64 T _ _ _ _)⟩
theorem wd_vec_ok (hm : Mon f) (T : ∀ j, In64 (nth dz j)) (hf : flawE false [N] dz = 0) : wdE f n 0 false [N] dz = if n < 1 ∨ N < n then 4 else 0 := by
  have hl : lnE f 0 false [N] dz = 0 := lnE_zero.2 ⟨hm.fn, hf, ⟨by omega, by simp⟩, rfl⟩
  by_cases h : n < 1 ∨ N < n
  · unfold wdE; rw [if_neg (not_not_intro hl), if_pos (show n < 1 ∨ nth [N] (0 : Int).toNat < n from h), if_pos h]
  · rw [if_neg h]
    exact wdE_zero.2 ⟨hl, ⟨by omega, show n ≤ N by omega⟩, fun t _ => hm.ok (lnL_64 T _ _ _ _)⟩
theorem d64 (T : ∀ j, In64 (nth dz j)) : L64 dz := fun x hx => by
  obtain ⟨j, hj, rfl⟩ := List.mem_iff_getElem.1 hx
  rw [← nth_get dz j hj]; exact T j
theorem L64.take {l : List Int} (h : L64 l) (k : Nat) : L64 (l.take k) := fun x hx => h x (List.mem_of_mem_take hx)
theorem L64.drop {l : List Int} (h : L64 l) (k : Nat) : L64 (l.drop k) := fun x hx => h x (List.mem_of_mem_drop hx)
/-! ### Sums so far lose nothing -/
theorem mon1 : Mon 1 := .inl rfl
theorem mon6 : Mon 6 := .inr (.inr (.inl rfl))
theorem fd_add : ∀ {l : List Int}, L64 l → fdV 1 l = wrap64 (sumI l)
  | [], _ => (w_small (n := 0) (by omega) (by omega)).symm
  | c :: l, h => by rw [mon1.step h, fd_add h.tail, tv1, w_addr]; rfl
theorem sum_take (l : List Int) {k : Nat} (h : k < l.length) : sumI (l.take (k + 1)) = sumI (l.take k) + nth l k := by
  rw [take_snoc l k h, sumI_append]
  show _ + (nth l k + 0) = _
  omega
/-- The sum ahead of a place. -/
def ahd1 (X : List Int) (i : Nat) : Int := if 0 < i then nth X (i - 1) else 0
theorem sc_add (he : errOf [N] = 0) (hd : (dz.length : Int) = N) (T : ∀ j, In64 (nth dz j)) : (scD 1 [N] dz 0).length = dz.length ∧ (∀ i, i < dz.length → nth (scD 1 [N] dz 0) i = wrap64 (sumI (dz.take (i + 1)))) ∧ ∀ i, i ≤ dz.length → ahd1 (scD 1 [N] dz 0) i = wrap64 (sumI (dz.take i)) := by
  have h1 : ∀ i, i < dz.length → nth (scD 1 [N] dz 0) i = wrap64 (sumI (dz.take (i + 1))) := fun i hi => by
    rw [sc_vec he hd, nth_range12 hi, fd_add ((d64 T).take _)]
  refine ⟨by rw [sc_vec he hd]; simp, h1, fun i hi => ?_⟩
  unfold ahd1
  by_cases h0 : 0 < i
  · rw [if_pos h0, h1 _ (by omega), show i - 1 + 1 = i by omega]
  · rw [if_neg h0, show i = 0 by omega]
    exact (w_small (n := 0) (by omega) (by omega)).symm
theorem sums_one (he : errOf [N] = 0) (hd : (dz.length : Int) = N) (T : ∀ j, In64 (nth dz j)) {i : Nat} (hi : i < dz.length) : wrap64 (nth (scD 1 [N] dz 0) i - ahd1 (scD 1 [N] dz 0) i) = nth dz i := by
  obtain ⟨_, h1, h2⟩ := sc_add he hd T
  rw [h1 i hi, h2 i (by omega), w_subl, w_subr, sum_take dz hi]
  rw [show sumI (dz.take i) + nth dz i - sumI (dz.take i) = nth dz i by omega]
  exact (T i).same
theorem sums_some (hf : flawE false [N] dz = 0) (T : ∀ j, In64 (nth dz j)) (h1 : 1 ≤ n) (h2 : n ≤ N) :
    (wdD 1 n [N] dz 0).length = dz.length - n.toNat + 1 ∧ ∀ i, i < dz.length - n.toNat + 1 → wrap64 (nth (scD 1 [N] dz 0) (i + n.toNat - 1) - ahd1 (scD 1 [N] dz 0) i) = nth (wdD 1 n [N] dz 0) i := by
  obtain ⟨he, hd', _⟩ := flawE_zero hf
  have hd : (dz.length : Int) = N := by rw [hd']; simp [prod]
  obtain ⟨_, g1, g2⟩ := sc_add he hd T
  have hw : errOf (wdS n 0 [N]) = 0 := wd_err (f := 1) (x := 0) (c := false) (dz := dz) (lnE_zero.2 ⟨mon1.fn, hf, ⟨by omega, by simp⟩, rfl⟩) (by show ¬ (n < 1 ∨ N < n); omega)
  refine ⟨by rw [wd_vec hw hd h1 h2]; simp, fun i hi => ?_⟩
  rw [g1 _ (by omega), g2 i (by omega), w_subl, w_subr, wd_vec hw hd h1 h2, nth_range12 hi, fd_add (((d64 T).drop _).take _)]
  congr 1
  rw [show i + n.toNat - 1 + 1 = i + n.toNat by omega]
  have e : dz.take (i + n.toNat) = dz.take i ++ (dz.drop i).take n.toNat := by rw [List.take_add]
  rw [e, sumI_append]
  omega
/-! ### Differences, from the right -/
def altI : List Int → Int
  | [] => 0
  | c :: l => c - altI l
theorem fd_sub : ∀ {l : List Int}, L64 l → fdE 2 l = 0 ∧ fdV 2 l = wrap64 (altI l)
  | [], _ => ⟨rfl, (w_small (n := 0) (by omega) (by omega)).symm⟩
  | [c], h => ⟨rfl, by rw [fdV_one]; show c = wrap64 (c - 0); rw [Int.sub_zero, h.head.same]⟩
  | c :: d :: r, h => by
    have ih := fd_sub h.tail
    rw [fdE_cons 2 c (by simp), fdV_cons 2 c (by simp), if_neg (by simp [ih.1]), if_neg (by simp [ih.1]), ih.2, tv2, w_subr]
    exact ⟨te0 (by decide) (by decide) (fun e => absurd e (by decide)) (fun e => absurd e (by decide)), rfl⟩
theorem alt_snoc (c : Int) : ∀ l : List Int, altI (l ++ [c]) = altI l + (if l.length % 2 = 0 then c else -c)
  | [] => by show c - 0 = 0 + c; omega
  | d :: l => by
    rw [List.cons_append, altI, altI, alt_snoc c l, List.length_cons]
    by_cases h : l.length % 2 = 0
    · rw [if_pos h, if_neg (by omega)]; omega
    · rw [if_neg h, if_pos (by omega)]; omega
/-- So far, from the left. -/
theorem alt_even {k : Nat} (h : k < dz.length) (h0 : k % 2 = 0) : wrap64 (wrap64 (altI (dz.take k)) + nth dz k) = wrap64 (altI (dz.take (k + 1))) := by
  rw [w_addl, take_snoc dz k h, alt_snoc, if_pos (by rw [List.length_take]; rw [Nat.min_eq_left (by omega)]; exact h0)]
theorem alt_odd {k : Nat} (h : k < dz.length) (h0 : k % 2 ≠ 0) : wrap64 (wrap64 (altI (dz.take k)) - nth dz k) = wrap64 (altI (dz.take (k + 1))) := by
  rw [w_subl, take_snoc dz k h, alt_snoc, if_neg (by rw [List.length_take]; rw [Nat.min_eq_left (by omega)]; exact h0)]
  congr 1
theorem swings (hf : flawE false [N] dz = 0) (T : ∀ j, In64 (nth dz j)) : rdE 2 0 false [N] dz = 0 ∧ xout 0 [N] = [] ∧ rdD 2 [N] dz 0 = [wrap64 (altI dz)] := by
  obtain ⟨he, hd', _⟩ := flawE_zero hf
  have hd : (dz.length : Int) = N := by rw [hd']; simp [prod]
  have h := fd_sub (d64 T)
  refine ⟨rdE_zero.2 ⟨lnE_zero.2 ⟨by omega, hf, ⟨by omega, by simp⟩, rfl⟩, fun e => e.2 rfl, rfl, fun t ht => ?_⟩, rfl, by rw [(rd_vec hd).2, h.2]⟩
  have e : t = [] := List.eq_nil_of_length_eq_zero (insB_len ht)
  rw [e]
  show fdE 2 (rdL [N] dz 0 []) = 0
  rw [(rd_vec (f := 2) hd).1]
  exact h.1
/-! ### The greatest so far -/
theorem mx_step (T : ∀ j, In64 (nth dz j)) {i : Nat} (h : i < dz.length) : fdV 6 (dz.take (i + 1)) = max (fdV 6 (dz.take i)) (nth dz i) := by
  have h1 : L64 [nth dz i] := fun x hx => by rw [List.mem_singleton.1 hx]; exact T i
  rw [take_snoc dz i h, mon6.app h1 ((d64 T).take i), fdV_one, tv6]
theorem sc_max (he : errOf [N] = 0) (hd : (dz.length : Int) = N) : (scD 6 [N] dz 0).length = dz.length ∧ ∀ i, i < dz.length → nth (scD 6 [N] dz 0) i = fdV 6 (dz.take (i + 1)) :=
  ⟨by rw [sc_vec he hd]; simp, fun i hi => by rw [sc_vec he hd, nth_range12 hi]⟩
theorem climbs (he : errOf [N] = 0) (hd : (dz.length : Int) = N) (T : ∀ j, In64 (nth dz j)) {i : Nat} (hi : i < dz.length) :
    nth dz i ≤ nth (scD 6 [N] dz 0) i ∧ (nth (scD 6 [N] dz 0) i = nth dz i ∨ 0 < i ∧ nth (scD 6 [N] dz 0) i = nth (scD 6 [N] dz 0) (i - 1)) ∧ (0 < i → nth (scD 6 [N] dz 0) (i - 1) ≤ nth (scD 6 [N] dz 0) i) := by
  obtain ⟨_, h1⟩ := sc_max he hd
  rw [h1 i hi, mx_step T hi]
  by_cases h0 : 0 < i
  · rw [h1 (i - 1) (by omega), show i - 1 + 1 = i by omega]
    exact ⟨by omega, by omega, by omega⟩
  · have e : i = 0 := by omega
    subst e
    have hT := T 0
    unfold In64 at hT
    have e2 : fdV 6 (dz.take 0) = -9223372036854775808 := rfl
    rw [e2]
    exact ⟨by omega, .inl (by omega), by omega⟩
theorem climbs_again (hf : flawE false [N] dz = 0) (T : ∀ j, In64 (nth dz j)) : flawE false [N] (scD 6 [N] dz 0) = 0 ∧ scD 6 [N] (scD 6 [N] dz 0) 0 = scD 6 [N] dz 0 := by
  obtain ⟨he, hd', _⟩ := flawE_zero hf
  have hd : (dz.length : Int) = N := by rw [hd']; simp [prod]
  have hfl : flawE false [N] (scD 6 [N] dz 0) = 0 := sc_flaw (x := 0) (sc_vec_ok mon6 T hf)
  refine ⟨hfl, ?_⟩
  have hT : ∀ j, In64 (nth (scD 6 [N] dz 0) j) := sc_64 (x := 0) he T
  have hl := (sc_max he hd).1
  obtain ⟨X, hX⟩ : ∃ X, X = scD 6 [N] dz 0 := ⟨_, rfl⟩
  have hc := fun i (hi : i < dz.length) => climbs he hd T hi
  rw [← hX] at hfl hT hl hc ⊢
  have hdX : (X.length : Int) = N := by omega
  have key : ∀ i, i < X.length → fdV 6 (X.take (i + 1)) = nth X i := fun i => by
    induction i with
    | zero =>
      intro h
      have hT0 := hT 0
      unfold In64 at hT0
      rw [mx_step hT h, show fdV 6 (X.take 0) = -9223372036854775808 from rfl]
      omega
    | succ i ih =>
      intro h
      rw [mx_step hT h, ih (by omega)]
      have := (hc (i + 1) (by omega)).2.2 (by omega)
      rw [Nat.add_sub_cancel] at this
      omega
  refine nth_ext (sc_max he hdX).1 fun i hi => ?_
  rw [(sc_max he hdX).1] at hi
  rw [(sc_max he hdX).2 i hi, key i hi]
end
end Go.Proofs.Ytcpmendkocnlhab
