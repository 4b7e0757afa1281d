/-
  Plain mathematics of products of arrays: a line with a line; a table in two parts, and its rows folded.
-/
import Derived.Test.YtcpmendkocnlhabPrdn
import Derived.Test.YtcpmendkocnlhabFldv
namespace Go.Proofs.Ytcpmendkocnlhab
open Go.RowKit
set_option linter.unusedVariables false

/-! ### A line with a line -/
section
variable {f g N : Int} {c c' : Bool} {dz dz' : List Int}
theorem len_vec (h : flawE c [N] dz = 0) : (dz.length : Int) = N := by have := (flawE_zero h).2.1; rw [this]; simp [prod]
theorem e2C_vec {i : Nat} (h : i < dz.length) : e2C dz i = nth dz i := by unfold e2C cyA; rw [if_neg (by omega), Nat.mod_eq_of_lt h]
theorem in_line (h1 : flawE c [N] dz = 0) (h2 : flawE c' [N] dz' = 0) : inL g c [N] dz c' [N] dz' [] = e2V g c [N] dz c' [N] dz' ∧ inO g c [N] dz c' [N] dz' [] = e2O g c [N] dz c' [N] dz' := by
  have l1 := len_vec h1
  have l2 := len_vec h2
  have hN : e2N [N] [N] = N.toNat := by unfold e2N shp; simp [prod]
  have hu : ∀ k, k < N.toNat → inU [N] dz [] k = e2C dz k ∧ inV [N] [N] dz' [] k = e2C dz' k := fun k hk => by
    rw [e2C_vec (by omega), e2C_vec (by omega)]
    exact ⟨cel_vec N dz k, cel_vec N dz' k⟩
  constructor
  · unfold inL e2V
    rw [hN]
    exact List.map_congr_left fun k hk => by rw [(hu k (List.mem_range.1 hk)).1, (hu k (List.mem_range.1 hk)).2]
  · unfold inO e2O
    rw [hN]
    have key : ∀ n, n ≤ N.toNat → ((List.range n).all fun k => tcE g (c == c') (inU [N] dz [] k) (inV [N] [N] dz' [] k) == 0) = (List.range n).all fun k => tcE g (c == c') (e2C dz k) (e2C dz' k) == 0 := fun n => by
      induction n with
      | zero => intro _; rfl
      | succ n ih =>
        intro hn
        rw [List.range_succ, List.all_append, List.all_append, ih (by omega), List.all_cons, List.all_cons, (hu n (by omega)).1, (hu n (by omega)).2]
        rfl
    exact key _ (Nat.le_refl _)
theorem in_lines (h1 : flawE c [N] dz = 0) (h2 : flawE c' [N] dz' = 0) :
    (inE f g c [N] dz c' [N] dz' = 0 ↔ e2E g c [N] dz c' [N] dz' = 0 ∧ rdE f 0 false [N] (e2V g c [N] dz c' [N] dz') = 0) ∧ inS [N] [N] = [] ∧ inD f g c [N] dz c' [N] dz' = rdD f [N] (e2V g c [N] dz c' [N] dz') 0 := by
  obtain ⟨hL, hO⟩ := in_line (g := g) h1 h2
  have l1 := len_vec h1
  have he := (flawE_zero h1).1
  have hN : e2N [N] [N] = N.toNat := by unfold e2N shp; simp [prod]
  have hV : ((e2V g c [N] dz c' [N] dz').length : Int) = N := by rw [e2V_length, hN]; omega
  have hfl : flawE false [N] (e2V g c [N] dz c' [N] dz') = 0 := flawE_okn he (by rw [hV]; simp [prod])
  have hr := rd_vec (f := f) hV
  refine ⟨?_, rfl, ?_⟩
  · rw [inE_zero, rdE_zero]
    have hx : ∀ t : List Int, insB [] t = true → t = [] := fun t ht => List.eq_nil_of_length_eq_zero (insB_len ht)
    constructor
    · rintro ⟨⟨hf, hg⟩, _, _, _, _, hc, hn, ht⟩
      have h0 := ht [] rfl
      unfold inX at h0
      by_cases ho : inO g c [N] dz c' [N] dz' [] = true
      · rw [if_pos ho, hL] at h0
        refine ⟨?_, lnE_zero.2 ⟨hf, hfl, ⟨by omega, by simp⟩, rfl⟩, hn, rfl, fun t ht2 => ?_⟩
        · unfold e2E
          rw [if_neg (not_not_intro (e2F_zero.2 ⟨by omega, h1, h2, .inr (.inr rfl), hc⟩)), if_pos (hO ▸ ho)]
        · rw [hx t ht2]
          show fdE f (rdL [N] _ 0 []) = 0
          rw [hr.1]
          exact h0
      · rw [if_neg ho] at h0
        exact absurd h0 (by decide)
    · rintro ⟨h3, h4, h5, _, h6⟩
      have hF : e2F g c [N] dz c' [N] dz' = 0 := Classical.byContradiction fun hn => by unfold e2E at h3; rw [if_pos hn] at h3; exact hn h3
      have hO2 : e2O g c [N] dz c' [N] dz' = true := Classical.byContradiction fun hn => by unfold e2E at h3; rw [if_neg (not_not_intro hF), if_neg hn] at h3; exact absurd h3 (by decide)
      obtain ⟨g1, _, _, _, g5⟩ := e2F_zero.1 hF
      refine ⟨⟨(lnE_zero.1 h4).1, by omega⟩, ⟨h1, h2⟩, ⟨by simp, by simp⟩, rfl, rfl, g5, h5, fun t ht => ?_⟩
      rw [hx t ht]
      unfold inX
      rw [if_pos (hO.trans hO2), hL, ← hr.1]
      exact h6 [] rfl
  · rw [hr.2]
    unfold inD
    show TA [] (fun t => fdV f (inL g c [N] dz c' [N] dz' t)) = _
    refine nth_ext (by rw [TA_length]; rfl) fun i hi => ?_
    rw [TA_length] at hi
    have hi0 : i = 0 := by have : (prod []).toNat = 1 := rfl; omega
    subst hi0
    rw [TA_nth hi]
    have : cr [] 0 = [] := List.eq_nil_of_length_eq_zero (cr_length [] 0)
    rw [this, hL]
    rfl
end
/-! ### A table in two parts -/
section
variable {f A B : Int} {c c' cc : Bool} {r u dz dz' du : List Int}
theorem cel_jn {i : Int} {v : List Int} (he : errOf ((A + B) :: r) = 0) (hv : insB r v = true) (hi : 0 ≤ i ∧ i < A + B) :
    cel ((A + B) :: r) (jnD 0 (A :: r) dz (B :: r) dz') (i :: v) = if i < A then cel (A :: r) dz (i :: v) else cel (B :: r) dz' ((i - A) :: v) := by
  have h : cel ((A + B) :: r) (TA ((A + B) :: r) (jnC 0 (A :: r) dz (B :: r) dz')) (i :: v) = jnC 0 (A :: r) dz (B :: r) dz' (i :: v) := TA_at he (ins_cons.2 ⟨hi, hv⟩)
  exact h
theorem ins_head {m : Int} {t : List Int} (h : insB (m :: r) t = true) : ∃ i v, t = i :: v ∧ (0 ≤ i ∧ i < m) ∧ insB r v = true := by
  match t, h with
  | [], h => simp [insB] at h
  | i :: v, h => exact ⟨i, v, rfl, (ins_cons.1 h).1, (ins_cons.1 h).2⟩
theorem ot_parts (hj : jnE 0 c (A :: r) dz c' (B :: r) dz' = 0) (h : otE f c ((A + B) :: r) (jnD 0 (A :: r) dz (B :: r) dz') cc u du = 0) :
    otE f c (A :: r) dz cc u du = 0 ∧ otE f c' (B :: r) dz' cc u du = 0 ∧ jnE 0 false (A :: r ++ u) (otD f c (A :: r) dz cc u du) false (B :: r ++ u) (otD f c' (B :: r) dz' cc u du) = 0 ∧
    jnS 0 (A :: r ++ u) (B :: r ++ u) = (A + B) :: r ++ u ∧ jnD 0 (A :: r ++ u) (otD f c (A :: r) dz cc u du) (B :: r ++ u) (otD f c' (B :: r) dz' cc u du) = otD f c ((A + B) :: r) (jnD 0 (A :: r) dz (B :: r) dz') cc u du := by
  obtain ⟨hf, hf', hl, hx, hoth, hcc, hej⟩ := (jnZ (x := 0)).1 hj
  obtain ⟨g1, ⟨_, g2⟩, g3, g4, g5⟩ := otE_zero.1 h
  subst hcc
  have hA := (errOf_zero.1 (flawE_zero hf).1).2.1 A (by simp)
  have hB := (errOf_zero.1 (flawE_zero hf').1).2.1 B (by simp)
  have he : errOf ((A + B) :: r) = 0 := hej
  have g3' : errOf ((A + B) :: (r ++ u)) = 0 := g3
  have sh : ∀ M : Int, 0 ≤ M → M ≤ A + B → errOf (M :: (r ++ u)) = 0 := fun M h0 h1 => by
    have := err_set (s := (A + B) :: (r ++ u)) (x := 0) (v := M) g3' (by simp) h0 (by show M ≤ A + B; exact h1)
    exact this
  have eA : errOf (A :: r ++ u) = 0 := sh A hA.1 (by omega)
  have eB : errOf (B :: r ++ u) = 0 := sh B hB.1 (by omega)
  -- the cells, one by one
  have cX : ∀ {i : Int} {v : List Int}, insB (r ++ u) v = true → 0 ≤ i ∧ i < A + B → otX f c ((A + B) :: r) (jnD 0 (A :: r) dz (B :: r) dz') cc u du (i :: v) = if i < A then otX f c (A :: r) dz cc u du (i :: v) else otX f c (B :: r) dz' cc u du ((i - A) :: v) := fun {i v} hv hi => by
    have hp := ins_parts hv
    unfold otX
    show tcE f (c == cc) (cel ((A + B) :: r) _ (i :: v.take r.length)) (cel u du (v.drop r.length)) = if i < A then tcE f (c == cc) (cel (A :: r) dz (i :: v.take r.length)) (cel u du (v.drop r.length)) else tcE f (c == cc) (cel (B :: r) dz' ((i - A) :: v.take r.length)) (cel u du (v.drop r.length))
    rw [cel_jn he hp.1 hi]
    by_cases h2 : i < A
    · rw [if_pos h2, if_pos h2]
    · rw [if_neg h2, if_neg h2]
  have cC : ∀ {i : Int} {v : List Int}, insB (r ++ u) v = true → 0 ≤ i ∧ i < A + B → otC f c ((A + B) :: r) (jnD 0 (A :: r) dz (B :: r) dz') cc u du (i :: v) = if i < A then otC f c (A :: r) dz cc u du (i :: v) else otC f c (B :: r) dz' cc u du ((i - A) :: v) := fun {i v} hv hi => by
    have hp := ins_parts hv
    unfold otC
    show tcV f (c == cc) (cel ((A + B) :: r) _ (i :: v.take r.length)) (cel u du (v.drop r.length)) = if i < A then tcV f (c == cc) (cel (A :: r) dz (i :: v.take r.length)) (cel u du (v.drop r.length)) else tcV f (c == cc) (cel (B :: r) dz' ((i - A) :: v.take r.length)) (cel u du (v.drop r.length))
    rw [cel_jn he hp.1 hi]
    by_cases h2 : i < A
    · rw [if_pos h2, if_pos h2]
    · rw [if_neg h2, if_neg h2]
  have oA : otE f c (A :: r) dz cc u du = 0 := otE_zero.2 ⟨g1, ⟨hf, g2⟩, eA, g4, fun t ht => by
    obtain ⟨i, v, rfl, hi, hv⟩ := ins_head (r := r ++ u) ht
    have h3 := g5 (i :: v) (ins_cons.2 ⟨⟨hi.1, by omega⟩, hv⟩)
    rw [cX hv ⟨hi.1, by omega⟩, if_pos hi.2] at h3
    exact h3⟩
  have oB : otE f c (B :: r) dz' cc u du = 0 := otE_zero.2 ⟨g1, ⟨hf', g2⟩, eB, g4, fun t ht => by
    obtain ⟨i, v, rfl, hi, hv⟩ := ins_head (r := r ++ u) ht
    have h3 := g5 ((i + A) :: v) (ins_cons.2 ⟨⟨by omega, by omega⟩, hv⟩)
    rw [cX hv ⟨by omega, by omega⟩, if_neg (by omega), show i + A - A = i by omega] at h3
    exact h3⟩
  refine ⟨oA, oB, ?_, rfl, ?_⟩
  · refine (jnZ (x := 0)).2 ⟨ot_flaw oA, ot_flaw oB, by simp, by simp, othB_iff.2 fun k hk hne => ?_, rfl, g3'⟩
    obtain ⟨q, rfl⟩ : ∃ q, k = q + 1 := ⟨k - 1, by omega⟩
    show nth (A :: (r ++ u)) (q + 1) = nth (B :: (r ++ u)) (q + 1)
    rw [nth_succ, nth_succ]
  · show TA ((A + B) :: (r ++ u)) (jnC 0 (A :: (r ++ u)) (otD f c (A :: r) dz cc u du) (B :: (r ++ u)) (otD f c (B :: r) dz' cc u du)) = TA ((A + B) :: (r ++ u)) (otC f c ((A + B) :: r) (jnD 0 (A :: r) dz (B :: r) dz') cc u du)
    refine TA_congr g3' fun t ht => ?_
    obtain ⟨i, v, rfl, hi, hv⟩ := ins_head ht
    rw [cC hv hi]
    show (if i < A then cel (A :: (r ++ u)) (TA (A :: (r ++ u)) (otC f c (A :: r) dz cc u du)) (i :: v) else cel (B :: (r ++ u)) (TA (B :: (r ++ u)) (otC f c (B :: r) dz' cc u du)) ((i - A) :: v)) = _
    by_cases h2 : i < A
    · rw [if_pos h2, if_pos h2]
      exact TA_at eA (ins_cons.2 ⟨⟨hi.1, h2⟩, hv⟩)
    · rw [if_neg h2, if_neg h2]
      exact TA_at eB (ins_cons.2 ⟨⟨by omega, by omega⟩, hv⟩)
end
/-- Its rows folded. -/
theorem ot_rows {N M : Int} {da dc : List Int} (ha : flawE false [N] da = 0) (hc : flawE false [M] dc = 0) (he : errOf [N, M] = 0) (Ta : ∀ j, In64 (nth da j)) (Tc : ∀ j, In64 (nth dc j)) :
    otE 3 false [N] da false [M] dc = 0 ∧ rdE 1 1 false [N, M] (otD 3 false [N] da false [M] dc) = 0 ∧ xout 1 [N, M] = [N] ∧ rdE 1 0 false [M] dc = 0 ∧ xout 0 [M] = [] ∧ rdD 1 [M] dc 0 = [fdV 1 dc] ∧
    e2E 3 false [N] da false [] [fdV 1 dc] = 0 ∧ shp [N] [] = [N] ∧ rdD 1 [N, M] (otD 3 false [N] da false [M] dc) 1 = e2V 3 false [N] da false [] [fdV 1 dc] := by
  have la := len_vec ha
  have lc := len_vec hc
  have eN := (flawE_zero ha).1
  have o : otE 3 false [N] da false [M] dc = 0 := otE_zero.2 ⟨by omega, ⟨ha, hc⟩, he, fun e => by simp at e, fun t _ => by
    unfold otX tcE
    rw [if_pos (show (false == false) = true from rfl)]
    exact srg13.pr.te _ _⟩
  have T3 : ∀ j, In64 (nth (otD 3 false [N] da false [M] dc) j) := ot_64 (f := 3) (c := false) (c' := false) (s := [N]) (s' := [M]) he Ta Tc
  have r1 : rdE 1 1 false [N, M] (otD 3 false [N] da false [M] dc) = 0 := by
    have hl : lnE 1 1 false [N, M] (otD 3 false [N] da false [M] dc) = 0 := lnE_zero.2 ⟨by omega, ot_flaw o, ⟨by omega, by show 1 < 2; omega⟩, rfl⟩
    rw [mon_rdE srg13.su T3, if_neg (not_not_intro hl)]
    exact eN
  have r2 : rdE 1 0 false [M] dc = 0 := by
    have hl : lnE 1 0 false [M] dc = 0 := lnE_zero.2 ⟨by omega, hc, ⟨by omega, by show 0 < 1; omega⟩, rfl⟩
    rw [mon_rdE srg13.su Tc, if_neg (not_not_intro hl)]
    rfl
  have hV := (rd_vec (f := 1) lc).2
  have hN : e2N [N] [] = N.toNat := by unfold e2N shp; simp [prod]
  have hF : e2F 3 false [N] da false [] [fdV 1 dc] = 0 := e2F_zero.2 ⟨by omega, ha, flawE_okn rfl rfl, .inr (.inl rfl), fun e => by simp at e⟩
  have e3 : e2E 3 false [N] da false [] [fdV 1 dc] = 0 := by
    unfold e2E
    rw [if_neg (not_not_intro hF), if_pos]
    unfold e2O
    rw [List.all_eq_true]
    intro i _
    unfold tcE
    rw [if_pos (show (false == false) = true from rfl), srg13.pr.te]
    rfl
  refine ⟨o, r1, rfl, r2, rfl, hV, e3, rfl, ?_⟩
  unfold rdD
  show TA [N] _ = _
  refine (TA_ext eN (by rw [e2V_length, hN]; simp [prod]) fun t ht => ?_).symm
  obtain ⟨i, rfl, hi⟩ := ins_vec ht
  have hi' : i < da.length := by omega
  rw [cel_vec, e2V_nth _ _ _ _ _ _ _ (by rw [hN]; omega), e2C_vec hi']
  have ec : e2C [fdV 1 dc] i = fdV 1 dc := by unfold e2C cyA; rw [if_neg (by simp)]; simp [nth, Nat.mod_one]
  have e0 : tcV 3 (false == false) (nth da i) (fdV 1 dc) = twoV 3 (nth da i) (fdV 1 dc) := by unfold tcV; rw [if_pos (show (false == false) = true from rfl)]
  rw [ec, e0]
  show _ = fdV 1 (rdL [N, M] (otD 3 false [N] da false [M] dc) 1 [(i : Int)])
  have hin : insB (xout 1 [N, M]) [(i : Int)] = true := ins_vec' hi
  rw [rdL_map (by simp) hin]
  have ed : dc = (List.range dc.length).map (nth dc) := nth_ext (by simp) fun j hj => by rw [nth_range12 hj]
  have hl := srg13.left (Ta i) (l := List.range dc.length) (u := nth dc) fun j _ => Tc j
  rw [← ed] at hl
  rw [hl]
  congr 1
  show _ = (List.range M.toNat).map _
  rw [show M.toNat = dc.length by omega]
  refine List.map_congr_left fun j hj => ?_
  have hj' := List.mem_range.1 hj
  have e1 : cel [N, M] (otD 3 false [N] da false [M] dc) [(i : Int), (j : Int)] = otC 3 false [N] da false [M] dc [(i : Int), (j : Int)] := TA_at he (ins_two' hi (by omega))
  have e2 : otC 3 false [N] da false [M] dc [(i : Int), (j : Int)] = tcV 3 (false == false) (cel [N] da [(i : Int)]) (cel [M] dc [(j : Int)]) := rfl
  have e4 : ∀ x y, tcV 3 (false == false) x y = twoV 3 x y := fun x y => by unfold tcV; rw [if_pos (show (false == false) = true from rfl)]
  have e5 : xin 1 (j : Int) [(i : Int)] = [(i : Int), (j : Int)] := rfl
  rw [e5, e1, e2, e4, cel_vec, cel_vec]
end Go.Proofs.Ytcpmendkocnlhab
