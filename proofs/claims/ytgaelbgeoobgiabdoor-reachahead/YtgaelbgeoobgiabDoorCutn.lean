/-
  Plain mathematics: arrays joined, kept and spread; nothing of the program.
-/
import Derived.Test.YtgaelbgeoobgiabDoorCutl
namespace Go.Proofs.YtgaelbgeoobgiabDoor
open Go.RowKit
set_option linter.unusedVariables false

theorem TA_none {s : List Int} {f : List Int → Int} (h : prod s = 0) : TA s f = [] := by unfold TA; rw [h]; rfl
/-- Indices of two joined: those of the first one, and of the second one. -/
theorem jn_left {s s' t : List Int} {x : Nat} (hx : x < s.length) (h : insB (jnS x s s') t = true) (hlt : nth t x < nth s x) : insB s t = true := by
  have hi := (insS hx).1 h
  exact ins_mk hi.1 fun k hk => by
    by_cases e : k = x
    · subst e; omega
    · exact hi.2.1 k hk e
theorem jn_right {s s' t : List Int} {x : Nat} (hx : x < s.length) (hl : s.length = s'.length) (ho : othB x s s' = true) (h : insB (jnS x s s') t = true) (hlt : ¬ nth t x < nth s x) : insB s' (t.set x (nth t x - nth s x)) = true := by
  have hi := (insS hx).1 h
  refine ins_mk (by rw [List.length_set]; omega) fun k hk => ?_
  rw [nth_set _ _ _ _ (by omega)]
  split
  · rename_i e; subst e; omega
  · rename_i e
    rw [← othB_iff.1 ho k (by omega) e]
    exact hi.2.1 k (by omega) e
theorem jnS_length (x : Nat) (s s' : List Int) : (jnS x s s').length = s.length := by simp [jnS]
theorem jnS_at {x : Nat} {s s' : List Int} (hx : x < s.length) : nth (jnS x s s') x = nth s x + nth s' x := nth_set_self hx
theorem jnS_ne {x : Nat} {s s' : List Int} (hx : x < s.length) {k : Nat} (h : k ≠ x) : nth (jnS x s s') k = nth s k := nth_set_ne hx h
theorem jnZ {x : Nat} {c : Bool} {s dz : List Int} {c' : Bool} {s' dz' : List Int} : jnE x c s dz c' s' dz' = 0 ↔ flawE c s dz = 0 ∧ flawE c' s' dz' = 0 ∧ s.length = s'.length ∧ x < s.length ∧ othB x s s' = true ∧ c = c' ∧ errOf (jnS x s s') = 0 := by
  rw [jnE_zero, Int.toNat_natCast]
  exact ⟨fun h => ⟨h.1, h.2.1, h.2.2.1, h.2.2.2.2⟩, fun h => ⟨h.1, h.2.1, h.2.2.1, by omega, h.2.2.2⟩⟩
section
variable {x : Nat} {c c1 c2 : Bool} {s dz s' dz' s'' dz'' : List Int}
theorem jn_flawN (h : jnE x c s dz c1 s' dz' = 0) : flawE c (jnS x s s') (jnD x s dz s' dz') = 0 := jn_flaw h
/-- Whichever two come first. -/
theorem jn_assoc (h1 : jnE x c s dz c1 s' dz' = 0) (h2 : jnE x c (jnS x s s') (jnD x s dz s' dz') c2 s'' dz'' = 0) :
    jnE x c1 s' dz' c2 s'' dz'' = 0 ∧ jnE x c s dz c1 (jnS x s' s'') (jnD x s' dz' s'' dz'') = 0 ∧ jnS x s (jnS x s' s'') = jnS x (jnS x s s') s''
    ∧ jnD x s dz (jnS x s' s'') (jnD x s' dz' s'' dz'') = jnD x (jnS x s s') (jnD x s dz s' dz') s'' dz'' := by
  obtain ⟨a1, a2, a3, a5, a6, a7, a8⟩ := jnZ.1 h1
  obtain ⟨b1, b2, b3, b5, b6, b7, b8⟩ := jnZ.1 h2
  subst a7 b7
  rw [jnS_length] at b3 b5
  have o1 := othB_iff.1 a6
  have o2 := othB_iff.1 b6
  have hx' : x < s'.length := by omega
  have o3 : ∀ k, k < s'.length → k ≠ x → nth s' k = nth s'' k := fun k hk e => by
    have := o2 k (by rw [jnS_length]; omega) e
    rw [jnS_ne a5 e] at this
    rw [← o1 k (by omega) e]; exact this
  have z1 := (errOf_zero.1 (flawE_zero a1).1).2.1.nth x
  have z2 := (errOf_zero.1 (flawE_zero a2).1).2.1.nth x
  have z3 := (errOf_zero.1 (flawE_zero b2).1).2.1.nth x
  have hxS : x < (jnS x s s').length := by rw [jnS_length]; exact a5
  have eS : jnS x s (jnS x s' s'') = jnS x (jnS x s s') s'' := by
    refine nth_ext (by rw [jnS_length, jnS_length, jnS_length]) fun k hk => ?_
    rw [jnS_length] at hk
    by_cases e : k = x
    · subst e
      rw [jnS_at a5, jnS_at hx', jnS_at hxS, jnS_at a5]
      omega
    · rw [jnS_ne a5 e, jnS_ne hxS e, jnS_ne a5 e]
  have eU : errOf (jnS x s' s'') = 0 := by
    refine err_mono (b := jnS x (jnS x s s') s'') (by rw [jnS_length, jnS_length, jnS_length]; omega) (fun k hk => ?_) b8
    rw [jnS_length] at hk
    by_cases e : k = x
    · subst e
      rw [jnS_at hx', jnS_at hxS, jnS_at a5]
      omega
    · have := (errOf_zero.1 (flawE_zero a1).1).2.1.nth k
      rw [jnS_ne hx' e, jnS_ne hxS e, jnS_ne a5 e, ← o1 k (by omega) e]
      omega
  have E3 : jnE x c s' dz' c s'' dz'' = 0 := jnZ.2 ⟨a2, b2, by omega, hx', othB_iff.2 o3, rfl, eU⟩
  have E4 : jnE x c s dz c (jnS x s' s'') (jnD x s' dz' s'' dz'') = 0 := jnZ.2 ⟨a1, jn_flawN E3, by rw [jnS_length]; exact a3, a5, othB_iff.2 fun k hk e => by rw [jnS_ne hx' e]; exact o1 k hk e, rfl, by rw [eS]; exact b8⟩
  refine ⟨E3, E4, eS, ?_⟩
  unfold jnD
  rw [eS]
  refine TA_congr b8 fun t ht => ?_
  have hi := (insS hxS).1 ht
  rw [jnS_length] at hi
  have hxt : x < t.length := by omega
  rw [jnS_at a5] at hi
  unfold jnC
  rw [jnS_at a5]
  by_cases g1 : nth t x < nth s x
  · rw [if_pos g1, if_pos (by omega), TA_at a8]
    · rw [if_pos g1]
    · exact (insS a5).2 ⟨by omega, fun k hk e => by have := hi.2.1 k (by omega) e; rwa [jnS_ne a5 e] at this, by omega, by omega⟩
  · rw [if_neg g1, TA_at eU]
    · rw [nth_set_self hxt, set_set]
      by_cases g2 : nth t x < nth s x + nth s' x
      · rw [if_pos (by omega), if_pos g2, TA_at a8]
        · rw [if_neg g1]
        · exact (insS a5).2 ⟨by omega, fun k hk e => by have := hi.2.1 k (by omega) e; rwa [jnS_ne a5 e] at this, by omega, by omega⟩
      · rw [if_neg (by omega), if_neg g2]
        congr 2
        omega
    · refine (insS hx').2 ⟨by rw [List.length_set]; omega, fun k hk e => ?_, ?_, ?_⟩
      · rw [nth_set_ne hxt e, ← o1 k (by omega) e]
        have := hi.2.1 k (by omega) e
        rwa [jnS_ne a5 e] at this
      · rw [nth_set_self hxt]; omega
      · rw [nth_set_self hxt]; omega
/-- With nothing joined it is itself. -/
theorem jn_none (hf : flawE c s dz = 0) (hx : x < s.length) : jnE x c s dz c (s.set x 0) (TA (s.set x 0) (cel s dz)) = 0 ∧ jnS x s (s.set x 0) = s ∧ jnD x s dz (s.set x 0) (TA (s.set x 0) (cel s dz)) = dz
    ∧ jnE x c (s.set x 0) (TA (s.set x 0) (cel s dz)) c s dz = 0 ∧ jnS x (s.set x 0) s = s ∧ jnD x (s.set x 0) (TA (s.set x 0) (cel s dz)) s dz = dz := by
  obtain ⟨he, hd, _⟩ := flawE_zero hf
  have z := (errOf_zero.1 he).2.1.nth x
  have p0 : prod (s.set x 0) = 0 := by rw [prod_set hx]; omega
  have w1 := jn_whole (n := nth s x) hf hx z.1 (Int.le_refl _)
  have w2 := jn_whole (n := 0) hf hx (Int.le_refl _) z.1
  rw [set_get hx rfl, TA_self he hd, show nth s x - nth s x = 0 by omega, TA_none p0] at w1
  rw [show nth s x - 0 = nth s x by omega, set_get (v := nth s x) hx rfl, TA_none p0, TA_is he hd fun t ht => by
    have hi := ins_all ht
    rw [set_get (by omega) (by omega)]] at w2
  rw [TA_none p0]
  exact ⟨w1.1, w1.2.1, w1.2.2, w2.1, w2.2.1, w2.2.2⟩
end
/-! ### Masks: kept and spread -/
def otm (m : List Int) : List Int := m.map fun v => 1 - v
theorem otm_length (m : List Int) : (otm m).length = m.length := by simp [otm]
theorem otm_nth (m : List Int) {j : Nat} (h : j < m.length) : nth (otm m) j = 1 - nth m j := by simp [otm, nth, h]
theorem otm_msk {m : List Int} (h : mskB m = true) : mskB (otm m) = true := by
  unfold mskB otm at *
  rw [List.all_map]
  refine List.all_eq_true.2 fun v hv => ?_
  have := List.all_eq_true.1 h v hv
  simp at this ⊢
  omega
theorem otm_sum : ∀ m : List Int, sumI (otm m) = m.length - sumI m
  | [] => by simp [otm, sumI]
  | v :: m => by
    have ih := otm_sum m
    unfold otm at *
    simp only [List.map_cons, sumI, ih, List.length_cons]
    omega
theorem otm_otm (m : List Int) : otm (otm m) = m := by
  refine nth_ext (by rw [otm_length, otm_length]) fun k hk => ?_
  rw [otm_length, otm_length] at hk
  rw [otm_nth _ (by rw [otm_length]; exact hk), otm_nth _ hk]
  omega
theorem msk_sum {m : List Int} (h : mskB m = true) : 0 ≤ sumI m ∧ sumI m ≤ m.length := by have := rnk_bd h m.length (Nat.le_refl _); rwa [rnk_all] at this
theorem kpZ {x : Nat} {m : List Int} {c : Bool} {s dz : List Int} : kpE m x c s dz = 0 ↔ flawE c s dz = 0 ∧ x < s.length ∧ (m.length : Int) = nth s x ∧ mskB m = true := by
  unfold kpE
  rw [Int.toNat_natCast]
  by_cases h : axE x c s dz = 0
  · have h' := axE_zero.1 h
    rw [Int.toNat_natCast] at h'
    rw [if_neg (by simpa using h)]
    by_cases h1 : (m.length : Int) = nth s x
    · rw [if_neg (by simpa using h1)]
      cases h2 : mskB m
      · simp
      · simp [h'.1, h'.2.2, h1]
    · rw [if_pos h1]; exact ⟨fun e => absurd e (by decide), fun e => absurd e.2.2.1 h1⟩
  · rw [if_pos h]; exact ⟨fun e => absurd e h, fun e => absurd (axE_zero.2 ⟨e.1, by omega, by rw [Int.toNat_natCast]; exact e.2.1⟩) h⟩
theorem spZ {x : Nat} {m : List Int} {c : Bool} {s dz : List Int} : spE m x c s dz = 0 ↔ flawE c s dz = 0 ∧ x < s.length ∧ mskB m = true ∧ sumI m = nth s x ∧ errOf (spS m x s) = 0 := by
  unfold spE
  rw [Int.toNat_natCast]
  by_cases h : axE x c s dz = 0
  · have h' := axE_zero.1 h
    rw [Int.toNat_natCast] at h'
    rw [if_neg (by simpa using h)]
    cases h2 : mskB m
    · simp
    · rw [if_neg (by simp)]
      by_cases h1 : sumI m = nth s x
      · rw [if_neg (by simpa using h1)]
        simp [h'.1, h'.2.2, h1]
      · rw [if_pos h1]; exact ⟨fun e => absurd e (by decide), fun e => absurd e.2.2.2.1 h1⟩
  · rw [if_pos h]; exact ⟨fun e => absurd e h, fun e => absurd (axE_zero.2 ⟨e.1, by omega, by rw [Int.toNat_natCast]; exact e.2.1⟩) h⟩
section
variable {x : Nat} {m : List Int} {c : Bool} {s dz : List Int}
theorem kp_err (h : kpE m x c s dz = 0) : errOf (kpS m x s) = 0 := by
  obtain ⟨h1, h2, h3, h4⟩ := kpZ.1 h
  have := msk_sum h4
  exact err_set (flawE_zero h1).1 h2 this.1 (by omega)
/-- What is kept is there. -/
theorem kp_in (h : kpE m x c s dz = 0) {t : List Int} (ht : insB (kpS m x s) t = true) : insB s (kpT m x t) = true ∧ nth m (nth (kpT m x t) x).toNat = 1 ∧ rnk m (nth (kpT m x t) x).toNat = nth t x := by
  obtain ⟨h1, h2, h3, h4⟩ := kpZ.1 h
  have hi := (insS h2).1 ht
  have hxt : x < t.length := by omega
  have hp := pos1_fact (m := m) (j := (nth t x).toNat) h4 (by omega)
  unfold kpT
  rw [nth_set_self hxt, Int.toNat_natCast]
  refine ⟨ins_mk (by rw [List.length_set]; exact hi.1) fun k hk => ?_, hp.2.1, by rw [hp.2.2]; omega⟩
  rw [nth_set _ _ _ _ hxt]
  split
  · rename_i e; subst e; omega
  · rename_i e; exact hi.2.1 k hk e
theorem kp_flaw (h : kpE m x c s dz = 0) : flawE c (kpS m x s) (kpD m x s dz) = 0 := TA_flaw (kp_err h) fun hc t ht => cel_ch (kpZ.1 h).1 hc (kp_in h ht).1
theorem kp_64 (h : kpE m x c s dz = 0) (T : ∀ j, In64 (nth dz j)) : ∀ j, In64 (nth (kpD m x s dz) j) := TA_64 (kp_err h) fun t _ => cel_64 T _
theorem sp_in (h : spE m x c s dz = 0) {t : List Int} (ht : insB (spS m x s) t = true) (h1 : nth m (nth t x).toNat ≠ 0) : insB s (t.set x (rnk m (nth t x).toNat)) = true := by
  obtain ⟨g1, g2, g3, g4, g5⟩ := spZ.1 h
  have hi := (insS g2).1 ht
  have hxt : x < t.length := by omega
  have hm := (mskB_nth g3 (j := (nth t x).toNat) (by omega)).resolve_left h1
  have r0 := rnk_bd g3 (nth t x).toNat (by omega)
  have r1 := rnk_le g3 (i := (nth t x).toNat + 1) (j := m.length) (by omega) (Nat.le_refl _)
  rw [rnk_succ m (by omega), rnk_all, hm] at r1
  refine ins_mk (by rw [List.length_set]; exact hi.1) fun k hk => ?_
  rw [nth_set _ _ _ _ hxt]
  split
  · rename_i e; subst e; omega
  · rename_i e; exact hi.2.1 k hk e
theorem sp_flaw (h : spE m x c s dz = 0) : flawE c (spS m x s) (spD m x c s dz) = 0 := TA_flaw (spZ.1 h).2.2.2.2 fun hc t ht => by
  unfold spC
  split
  · exact fill_ch hc
  · rename_i h1; exact cel_ch (spZ.1 h).1 hc (sp_in h ht h1)
theorem sp_64 (h : spE m x c s dz = 0) (T : ∀ j, In64 (nth dz j)) : ∀ j, In64 (nth (spD m x c s dz) j) := TA_64 (spZ.1 h).2.2.2.2 fun t _ => by
  unfold spC
  split
  · exact fill_64 c
  · exact cel_64 T _
/-- What is spread is kept. -/
theorem sp_kp (h : spE m x c s dz = 0) : kpE m x c (spS m x s) (spD m x c s dz) = 0 ∧ kpS m x (spS m x s) = s ∧ kpD m x (spS m x s) (spD m x c s dz) = dz := by
  obtain ⟨g1, g2, g3, g4, g5⟩ := spZ.1 h
  obtain ⟨he, hd, _⟩ := flawE_zero g1
  have hxS : x < (spS m x s).length := by simp [spS]; exact g2
  have hK : kpE m x c (spS m x s) (spD m x c s dz) = 0 := kpZ.2 ⟨sp_flaw h, hxS, by unfold spS; rw [nth_set_self g2], g3⟩
  have hS : kpS m x (spS m x s) = s := by
    unfold kpS spS
    rw [set_set, g4]
    exact set_get g2 rfl
  refine ⟨hK, hS, ?_⟩
  unfold kpD
  rw [hS]
  refine TA_is he hd fun t ht => ?_
  have hk := kp_in hK (t := t) (by rw [hS]; exact ht)
  have hi := ins_all ht
  have hxt : x < t.length := by omega
  unfold spD
  rw [TA_at g5 hk.1]
  unfold spC
  rw [hk.2.1, if_neg (by decide), hk.2.2]
  unfold kpT
  rw [set_set]
  congr 1
  exact set_get hxt rfl
/-- Elsewhere there stand fills. -/
theorem sp_fills (h : spE m x c s dz = 0) : kpE (otm m) x c (spS m x s) (spD m x c s dz) = 0 ∧ (∀ j, j < (kpD (otm m) x (spS m x s) (spD m x c s dz)).length → nth (kpD (otm m) x (spS m x s) (spD m x c s dz)) j = fillE c)
    ∧ (kpD (otm m) x (spS m x s) (spD m x c s dz)).length + dz.length = (spD m x c s dz).length := by
  obtain ⟨g1, g2, g3, g4, g5⟩ := spZ.1 h
  obtain ⟨he, hd, _⟩ := flawE_zero g1
  have hxS : x < (spS m x s).length := by simp [spS]; exact g2
  have hK : kpE (otm m) x c (spS m x s) (spD m x c s dz) = 0 := kpZ.2 ⟨sp_flaw h, hxS, by unfold spS; rw [nth_set_self g2, otm_length], otm_msk g3⟩
  have hE := kp_err hK
  refine ⟨hK, fun j hj => ?_, ?_⟩
  · unfold kpD at hj ⊢
    rw [TA_length] at hj
    rw [TA_nth hj]
    have hc := cr_in hE hj
    have hk := kp_in hK hc.1
    have hi := ins_all hk.1
    have hxi := hi.2 x hxS
    rw [show nth (spS m x s) x = m.length from nth_set_self g2] at hxi
    rw [otm_nth m (by omega)] at hk
    unfold spD
    rw [TA_at g5 hk.1]
    unfold spC
    rw [if_pos (by have := hk.2.1; omega)]
  · have l1 : ((kpD (otm m) x (spS m x s) (spD m x c s dz)).length : Int) = prod (kpS (otm m) x (spS m x s)) := TA_len hE
    have l2 : ((spD m x c s dz).length : Int) = prod (spS m x s) := TA_len g5
    have e1 : kpS (otm m) x (spS m x s) = s.set x (m.length - nth s x) := by unfold kpS spS; rw [set_set, otm_sum, g4]
    rw [e1, prod_set g2, Int.sub_mul] at l1
    unfold spS at l2
    rw [prod_set g2] at l2
    rw [prod_get g2] at hd
    omega
/-- What is taken apart: each part spread again. -/
theorem kp_sp (h : kpE m x c s dz = 0) : spE m x c (kpS m x s) (kpD m x s dz) = 0 ∧ spS m x (kpS m x s) = s ∧ spD m x c (kpS m x s) (kpD m x s dz) = TA s (fun t => if nth m (nth t x).toNat = 0 then fillE c else cel s dz t) := by
  obtain ⟨g1, g2, g3, g4⟩ := kpZ.1 h
  obtain ⟨he, hd, _⟩ := flawE_zero g1
  have hxS : x < (kpS m x s).length := by simp [kpS]; exact g2
  have hS : spS m x (kpS m x s) = s := by
    unfold kpS spS
    rw [set_set, g3]
    exact set_get g2 rfl
  have hE := kp_err h
  refine ⟨spZ.2 ⟨kp_flaw h, hxS, g4, by unfold kpS; rw [nth_set_self g2], by rw [hS]; exact he⟩, hS, ?_⟩
  unfold spD
  rw [hS]
  refine TA_congr he fun t ht => ?_
  have hi := ins_all ht
  have hxi := hi.2 x g2
  have hxt : x < t.length := by omega
  unfold spC
  by_cases h0 : nth m (nth t x).toNat = 0
  · rw [if_pos h0, if_pos h0]
  · rw [if_neg h0, if_neg h0]
    have hm := (mskB_nth g4 (j := (nth t x).toNat) (by omega)).resolve_left h0
    have r0 := rnk_bd g4 (nth t x).toNat (by omega)
    have r1 := rnk_le g4 (i := (nth t x).toNat + 1) (j := m.length) (by omega) (Nat.le_refl _)
    rw [rnk_succ m (by omega), rnk_all, hm] at r1
    unfold kpD
    rw [TA_at hE ((insS g2).2 ⟨by rw [List.length_set]; exact hi.1, fun k hk e => by rw [nth_set_ne hxt e]; exact hi.2 k hk, by rw [nth_set_self hxt]; omega, by rw [nth_set_self hxt]; omega⟩)]
    unfold kpT
    rw [nth_set_self hxt, set_set, pos1_rnk g4 (by omega) hm]
    congr 1
    exact set_get hxt (by omega)
theorem kp_other (h : kpE m x c s dz = 0) : kpE (otm m) x c s dz = 0 := by
  obtain ⟨g1, g2, g3, g4⟩ := kpZ.1 h
  exact kpZ.2 ⟨g1, g2, by rw [otm_length]; exact g3, otm_msk g4⟩
end
end Go.Proofs.YtgaelbgeoobgiabDoor
