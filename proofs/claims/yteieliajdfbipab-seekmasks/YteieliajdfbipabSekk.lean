/-
  A mask that says which cells another array has, along the one axis of a list: what it keeps. Plain mathematics.
-/
import Derived.Test.YteieliajdfbipabSekm
import Derived.Test.YteieliajdfbipabCutg
import Derived.Test.YteieliajdfbipabEachm
namespace Go.Proofs.Yteieliajdfbipab
open Go.RowKit
set_option linter.unusedVariables false

/-- A mask over the cells of a list. -/
def mkM (g : Int → Bool) (dz : List Int) : List Int := dz.map fun x => if g x = true then 1 else 0
section
variable {g : Int → Bool} {dz : List Int}
theorem mkM_length : (mkM g dz).length = dz.length := by simp [mkM]
theorem mkM_nth {i : Nat} (h : i < dz.length) : nth (mkM g dz) i = if g (nth dz i) = true then 1 else 0 := by
  rw [nth_get _ _ (by rw [mkM_length]; exact h), nth_get _ _ h]
  simp [mkM]
theorem mkM_msk : mskB (mkM g dz) = true := by
  unfold mskB mkM
  rw [List.all_eq_true]
  intro x hx
  obtain ⟨y, _, rfl⟩ := List.mem_map.1 hx
  split <;> rfl
theorem kpl_filter : ∀ i, i ≤ dz.length → (kpl (mkM g dz) i).map (fun p => nth dz p.toNat) = (dz.take i).filter g
  | 0, _ => by simp [kpl]
  | i + 1, hi => by
    have ih := kpl_filter i (by omega)
    rw [List.take_succ_eq_append_getElem (show i < dz.length by omega), List.filter_append, ← ih, ← nth_get dz i (by omega)]
    simp only [kpl]
    rw [mkM_nth (show i < dz.length by omega)]
    by_cases h : g (nth dz i) = true
    · rw [if_pos h, if_pos rfl, List.filter_cons_of_pos h, List.map_append]; simp
    · rw [if_neg h, if_neg (by decide), List.filter_cons_of_neg h]; simp
theorem kpl_all : (kpl (mkM g dz) (mkM g dz).length).map (fun p => nth dz p.toNat) = dz.filter g := by
  rw [mkM_length, kpl_filter _ (Nat.le_refl _), List.take_length]
theorem mkM_sum : sumI (mkM g dz) = ((dz.filter g).length : Int) := by
  have h := (kpl_fact (mkM_msk (g := g) (dz := dz)) _ (Nat.le_refl _)).1
  rw [rnk_all] at h
  rw [← h, ← kpl_all, List.length_map]
theorem place_one (x a : Int) : place [x] [a] = a := by simp only [place, prod, Int.mul_one, Int.add_zero]
/-- What it keeps. -/
theorem mkM_kp {c : Bool} {sz : List Int} (hf : flawE c sz dz = 0) (h1 : sz.length = 1) : kpE (mkM g dz) 0 c sz dz = 0 ∧ kpS (mkM g dz) 0 sz = [((dz.filter g).length : Int)] ∧ kpD (mkM g dz) 0 sz dz = dz.filter g := by
  have hs := one_list hf h1
  subst hs
  have hk : kpE (mkM g dz) ((0 : Nat) : Int) c [(dz.length : Int)] dz = 0 := kpZ.2 ⟨hf, by simp, by rw [mkM_length]; rfl, mkM_msk⟩
  have hS : kpS (mkM g dz) 0 [(dz.length : Int)] = [((dz.filter g).length : Int)] := by unfold kpS; rw [mkM_sum]; rfl
  have he := kp_err hk
  refine ⟨hk, hS, ?_⟩
  unfold kpD
  rw [hS] at he ⊢
  refine TA_is he (by simp only [prod, Int.mul_one]) fun t ht => ?_
  match t, ht with
  | [], ht => simp [insB] at ht
  | a :: b :: r, ht => simp [insB] at ht
  | [a], ht =>
    have h2 := (ins_cons.1 ht).1
    obtain ⟨n, rfl⟩ : ∃ n : Nat, a = n := ⟨a.toNat, by omega⟩
    have hn : n < (dz.filter g).length := by omega
    have hl : (kpl (mkM g dz) (mkM g dz).length).length = (dz.filter g).length := by rw [← kpl_all, List.length_map]
    have hp := (kpl_fact (mkM_msk (g := g) (dz := dz)) _ (Nat.le_refl _)).2 n (by omega)
    unfold cel kpT
    show nth dz (place [(dz.length : Int)] [((pos1 (mkM g dz) (nth [(n : Int)] 0).toNat : Nat) : Int)]).toNat = _
    rw [place_one, place_one, Int.toNat_natCast, Int.toNat_natCast, show (nth [(n : Int)] 0).toNat = n from by simp [nth]]
    have e : nth (dz.filter g) n = nth dz (nth (kpl (mkM g dz) (mkM g dz).length) n).toNat := by
      rw [← kpl_all, nth_get _ _ (by rw [List.length_map]; omega), List.getElem_map, ← nth_get _ _ (by omega)]
    rw [e, hp, Int.toNat_natCast]
end
/-- The mask that In tells, and the other one. -/
theorem inD_mk {c : Bool} {dz : List Int} {c' : Bool} {dz' : List Int} : inD c dz c' dz' = mkM (fun x => hsB c' dz' c x == true) dz := by
  unfold inD mkM
  exact List.map_congr_left fun x _ => by
    show _ = if (hsB c' dz' c x == true) = true then (1 : Int) else 0
    rcases Bool.eq_false_or_eq_true (hsB c' dz' c x) with h | h <;> (rw [h]; rfl)
theorem not_mk {c : Bool} {dz : List Int} {c' : Bool} {dz' : List Int} : e1V 17 (inD c dz c' dz') = mkM (fun x => hsB c' dz' c x == false) dz := by
  unfold e1V inD mkM
  rw [List.map_map]
  exact List.map_congr_left fun x _ => by
    show oneV 17 (if hsB c' dz' c x = true then (1 : Int) else 0) = if (hsB c' dz' c x == false) = true then (1 : Int) else 0
    rcases Bool.eq_false_or_eq_true (hsB c' dz' c x) with h | h
    · rw [if_pos h, h]; rfl
    · rw [if_neg (by rw [h]; decide), h]; rfl
theorem not_err {sz dz : List Int} (hf : flawE false sz dz = 0) (hm : mskB dz = true) : e1E 17 false sz dz = 0 := by
  unfold e1E
  rw [if_neg (by decide), if_neg (by rw [hf]; decide), if_neg (by decide), if_pos]
  rw [List.all_eq_true]
  intro x hx
  unfold mskB at hm
  rw [List.all_eq_true] at hm
  have := hm x hx
  simp at this
  unfold oneE
  rw [if_neg (by decide), if_pos rfl]
  rcases this with rfl | rfl <;> rfl
/-- Meet and Without are what the two masks keep. -/
theorem masks_kp {c : Bool} {sz dz : List Int} {c' : Bool} {dz' : List Int} (hf : flawE c sz dz = 0) (h1 : sz.length = 1) :
    (kpE (inD c dz c' dz') 0 c sz dz = 0 ∧ kpS (inD c dz c' dz') 0 sz = [((shD c dz c' dz' true).length : Int)] ∧ kpD (inD c dz c' dz') 0 sz dz = shD c dz c' dz' true) ∧
    kpE (e1V 17 (inD c dz c' dz')) 0 c sz dz = 0 ∧ kpS (e1V 17 (inD c dz c' dz')) 0 sz = [((shD c dz c' dz' false).length : Int)] ∧ kpD (e1V 17 (inD c dz c' dz')) 0 sz dz = shD c dz c' dz' false := by
  rw [inD_mk]
  refine ⟨mkM_kp hf h1, ?_⟩
  rw [← inD_mk, not_mk]
  exact mkM_kp hf h1
theorem not_64 (dz : List Int) : ∀ j, In64 (nth (e1V 17 dz) j) := fun j => by
  by_cases hj : j < (e1V 17 dz).length
  · obtain ⟨y, _, e⟩ := List.mem_map.1 (show nth (e1V 17 dz) j ∈ dz.map (oneV 17) from nth_mem _ _ hj)
    rw [← e]
    by_cases h : y = 0
    · rw [h]; unfold In64; decide
    · have : oneV 17 y = 0 := by
        unfold oneV
        rw [if_neg (by decide), if_neg (by decide), if_neg (by decide), if_neg (by decide), if_pos rfl, if_neg h]
      rw [this]; unfold In64; decide
  · have : nth (e1V 17 dz) j = 0 := by simp [nth, List.getElem?_eq_none (show (e1V 17 dz).length ≤ j by omega)]
    rw [this]; unfold In64; decide
end Go.Proofs.Yteieliajdfbipab
