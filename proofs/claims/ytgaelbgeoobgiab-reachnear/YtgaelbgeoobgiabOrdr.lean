/-
  Plain mathematics of orders of axes: each number below the length once; a shape in another order; the order turned round.
-/
import Derived.Test.YtgaelbgeoobgiabBase
namespace Go.Proofs.Ytgaelbgeoobgiab

def IsOrd (ps : List Int) : Prop := (∀ j, j < ps.length → 0 ≤ nth ps j ∧ nth ps j < ps.length) ∧ ∀ i j, i < j → j < ps.length → nth ps i ≠ nth ps j
def ordB (ps : List Int) : Bool := (List.range ps.length).all fun j => decide (0 ≤ nth ps j ∧ nth ps j < ps.length) && (List.range j).all fun i => nth ps i != nth ps j
theorem ordB_iff (ps : List Int) : ordB ps = true ↔ IsOrd ps := by
  simp only [ordB, IsOrd, List.all_eq_true, List.mem_range, Bool.and_eq_true, decide_eq_true_eq, bne_iff_ne]
  exact ⟨fun h => ⟨fun j hj => (h j hj).1, fun i j hi hj => (h j hj).2 i hi⟩, fun h j hj => ⟨h.1 j hj, fun i hi => h.2 i j hi hj⟩⟩
theorem IsOrd.inj {ps : List Int} (h : IsOrd ps) {i j : Nat} (hi : i < ps.length) (hj : j < ps.length) (e : nth ps i = nth ps j) : i = j := by
  by_cases h1 : i < j
  · exact absurd e (h.2 i j h1 hj)
  · by_cases h2 : j < i
    · exact absurd e.symm (h.2 j i h2 hi)
    · omega
/-- The order's numbers, as natural ones. -/
def nats (ps : List Int) : List Nat := ps.map Int.toNat
theorem nats_length (ps : List Int) : (nats ps).length = ps.length := by simp [nats]
theorem nats_get (ps : List Int) (j : Nat) (h : j < ps.length) : (nats ps)[j]? = some (nth ps j).toNat := by
  rw [nth_get ps j h]; simp [nats, h]
theorem nats_nodup {ps : List Int} (h : IsOrd ps) : (nats ps).Nodup := by
  rw [List.Nodup, List.pairwise_iff_getElem]
  intro i j hi hj hij e
  rw [nats_length] at hi hj
  have e1 := nats_get ps i hi
  have e2 := nats_get ps j hj
  rw [List.getElem?_eq_getElem (by rw [nats_length]; exact hi)] at e1
  rw [List.getElem?_eq_getElem (by rw [nats_length]; exact hj)] at e2
  have b1 := h.1 i hi
  have b2 := h.1 j hj
  have e3 : (nth ps i).toNat = (nth ps j).toNat := by
    have := Option.some.inj e1
    have := Option.some.inj e2
    omega
  exact h.2 i j hij hj (by omega)
theorem nats_sub {ps : List Int} (h : IsOrd ps) : nats ps ⊆ List.range ps.length := by
  intro x hx
  obtain ⟨j, hj, e⟩ := List.getElem_of_mem hx
  rw [nats_length] at hj
  have e1 := nats_get ps j hj
  rw [List.getElem?_eq_getElem (by rw [nats_length]; exact hj)] at e1
  have := Option.some.inj e1
  have b := h.1 j hj
  rw [List.mem_range]
  omega
/-- Each number below the length stands somewhere. -/
theorem IsOrd.surj {ps : List Int} (h : IsOrd ps) {j : Nat} (hj : j < ps.length) : ∃ i, i < ps.length ∧ nth ps i = j := by
  by_cases hm : j ∈ nats ps
  · obtain ⟨i, hi, e⟩ := List.getElem_of_mem hm
    rw [nats_length] at hi
    have e1 := nats_get ps i hi
    rw [List.getElem?_eq_getElem (by rw [nats_length]; exact hi)] at e1
    have := Option.some.inj e1
    have b := h.1 i hi
    exact ⟨i, hi, by omega⟩
  · have hn : (j :: nats ps).Nodup := List.nodup_cons.2 ⟨hm, nats_nodup h⟩
    have hs : (j :: nats ps) ⊆ List.range ps.length := by
      intro x hx
      rcases List.mem_cons.1 hx with rfl | hx
      · exact List.mem_range.2 hj
      · exact nats_sub h hx
    have := hn.length_le_of_subset hs
    simp only [List.length_cons, nats_length, List.length_range] at this
    omega
theorem nats_perm {ps : List Int} (h : IsOrd ps) : (nats ps).Perm (List.range ps.length) :=
  (List.perm_ext_iff_of_nodup (nats_nodup h) List.nodup_range).2 fun x => ⟨fun hx => nats_sub h hx, fun hx => by
    obtain ⟨i, hi, e⟩ := h.surj (List.mem_range.1 hx)
    have e1 := nats_get ps i hi
    rw [e, Int.toNat_natCast] at e1
    exact List.mem_of_getElem? e1⟩

theorem prod_perm {a b : List Int} (h : a.Perm b) : prod a = prod b := by
  induction h with
  | nil => rfl
  | cons x _ ih => simp only [prod, ih]
  | swap x y l => simp only [prod]; rw [← Int.mul_assoc, ← Int.mul_assoc, Int.mul_comm y x]
  | trans _ _ ih1 ih2 => exact ih1.trans ih2
theorem errOf_perm {a b : List Int} (h : a.Perm b) (he : errOf a = 0) : errOf b = 0 := by
  have := errOf_zero.1 he
  exact errOf_zero.2 ⟨by rw [← h.length_eq]; exact this.1, fun x hx => this.2.1 x (h.mem_iff.2 hx), by rw [← prod_perm h]; exact this.2.2⟩

/-- t is the shape whose axis ps[k] is axis k of zs. -/
def AxSpec (zs ps t : List Int) : Prop := t.length = zs.length ∧ ∀ k, k < zs.length → nth t (nth ps k).toNat = nth zs k
theorem range_nth (t : List Int) : (List.range t.length).map (nth t) = t := by
  apply List.ext_getElem (by simp)
  intro i h1 h2
  simp [nth_get t i h2]
theorem AxSpec.perm {zs ps t : List Int} (h : AxSpec zs ps t) (ho : IsOrd ps) (hl : ps.length = zs.length) : t.Perm zs := by
  have e1 : (nats ps).map (nth t) = zs := by
    apply List.ext_getElem (by simp [nats_length, hl])
    intro i h1 h2
    rw [List.getElem_map, ← nth_get zs i h2, ← h.2 i h2]
    have := nats_get ps i (by omega)
    rw [List.getElem?_eq_getElem (by rw [nats_length]; omega)] at this
    rw [Option.some.inj this]
  have e2 := (nats_perm ho).map (nth t)
  rw [e1, hl, ← h.1, range_nth] at e2
  exact e2.symm
theorem AxSpec.unique {zs ps t u : List Int} (ho : IsOrd ps) (hl : ps.length = zs.length) (h : AxSpec zs ps t) (k : AxSpec zs ps u) : t = u := by
  refine nth_ext (h.1.trans k.1.symm) fun j hj => ?_
  obtain ⟨i, hi, e⟩ := ho.surj (j := j) (by rw [hl, ← h.1]; exact hj)
  have h1 := h.2 i (by omega)
  have h2 := k.2 i (by omega)
  rw [e, Int.toNat_natCast] at h1 h2
  rw [h1, h2]

/-- The order turned round. -/
def BkSpec (ps q : List Int) : Prop := q.length = ps.length ∧ ∀ i, i < ps.length → nth q (nth ps i).toNat = i
theorem BkSpec.at {ps q : List Int} (h : BkSpec ps q) (ho : IsOrd ps) {j : Nat} (hj : j < ps.length) : ∃ i, i < ps.length ∧ nth ps i = j ∧ nth q j = i := by
  obtain ⟨i, hi, e⟩ := ho.surj hj
  have := h.2 i hi
  rw [e, Int.toNat_natCast] at this
  exact ⟨i, hi, e, this⟩
theorem BkSpec.ord {ps q : List Int} (h : BkSpec ps q) (ho : IsOrd ps) : IsOrd q := by
  refine ⟨fun j hj => ?_, fun i j hij hj e => ?_⟩
  · obtain ⟨i, hi, _, e2⟩ := h.at ho (j := j) (by rw [← h.1]; exact hj)
    rw [e2, h.1]; omega
  · obtain ⟨i1, hi1, e1, f1⟩ := h.at ho (j := i) (by rw [← h.1]; omega)
    obtain ⟨i2, hi2, e2, f2⟩ := h.at ho (j := j) (by rw [← h.1]; exact hj)
    rw [f1, f2] at e
    have : i1 = i2 := by omega
    subst this
    rw [e1] at e2
    omega
/-- By the order turned round it is the shape again. -/
theorem flip_back {zs ps t q u : List Int} (ho : IsOrd ps) (hl : ps.length = zs.length) (ht : AxSpec zs ps t) (hq : BkSpec ps q) (hu : AxSpec t q u) : u = zs := by
  refine nth_ext (hu.1.trans ht.1) fun i hi => ?_
  have hi' : i < ps.length := by rw [hl, ← ht.1, ← hu.1]; exact hi
  have b := ho.1 i hi'
  have h1 := hu.2 (nth ps i).toNat (by have := ht.1; omega)
  rw [hq.2 i hi', Int.toNat_natCast, ht.2 i (by omega)] at h1
  exact h1

/-! ### What the program reckons -/
def axstep (zs ps : List Int) (s : List Int) (x : Ax zs.length) : List Int := s.set (nth ps x.1).toNat (nth zs x.1)
def axl (zs ps : List Int) (pre : List (Ax zs.length)) : List Int := pre.foldl (axstep zs ps) (List.replicate zs.length 0)
theorem axl_snoc (zs ps : List Int) (pre : List (Ax zs.length)) (k : Nat) (hk : k < zs.length) : axl zs ps (pre ++ [⟨k, hk⟩]) = (axl zs ps pre).set (nth ps k).toNat (nth zs k) := by
  simp only [axl, List.foldl_append, List.foldl_cons, List.foldl_nil, axstep]
theorem axl_fold_length (zs ps : List Int) : ∀ (pre : List (Ax zs.length)) (s : List Int), (pre.foldl (axstep zs ps) s).length = s.length
  | [], s => rfl
  | x :: pre, s => by rw [List.foldl_cons, axl_fold_length zs ps pre]; simp [axstep]
theorem axl_length (zs ps : List Int) (pre : List (Ax zs.length)) : (axl zs ps pre).length = zs.length := by unfold axl; rw [axl_fold_length]; simp
theorem axl_dn {zs ps : List Int} (ho : IsOrd ps) (hl : ps.length = zs.length) : ∀ k, k ≤ zs.length → ∀ j, zs.length - k ≤ j → j < zs.length → nth (axl zs ps (dn zs.length k)) (nth ps j).toNat = nth zs j
  | 0, _, j, h1, h2 => by omega
  | k + 1, hk, j, h1, h2 => by
    rw [dn_succ _ k (by omega), axl_snoc]
    have b := ho.1 (zs.length - 1 - k) (by omega)
    have bj := ho.1 j (by omega)
    rw [nth_set _ _ _ _ (by rw [axl_length]; omega)]
    by_cases e : j = zs.length - 1 - k
    · rw [if_pos (by rw [e]), e]
    · have hne : (nth ps j).toNat ≠ (nth ps (zs.length - 1 - k)).toNat := fun e2 => e (ho.inj (by omega) (by omega) (by omega))
      rw [if_neg hne]
      exact axl_dn ho hl k (by omega) j (by omega) h2
theorem axl_spec {zs ps : List Int} (ho : IsOrd ps) (hl : ps.length = zs.length) : AxSpec zs ps (axl zs ps (dn zs.length zs.length)) :=
  ⟨axl_length _ _ _, fun k hk => axl_dn ho hl _ (Nat.le_refl _) k (by omega) hk⟩
def axErr (zs ps : List Int) : Int := if errOf zs ≠ 0 then errOf zs else if ps.length ≠ zs.length then 4 else if ordB ps = true then 0 else 5
def axVal (zs ps : List Int) : List Int := if axErr zs ps = 0 then axl zs ps (dn zs.length zs.length) else []
theorem axErr_zero {zs ps : List Int} : axErr zs ps = 0 ↔ errOf zs = 0 ∧ ps.length = zs.length ∧ IsOrd ps := by
  unfold axErr
  by_cases h : errOf zs = 0
  · rw [if_neg (by simpa using h)]
    by_cases h1 : ps.length = zs.length
    · rw [if_neg (by simpa using h1), ← ordB_iff]
      by_cases h2 : ordB ps = true
      · rw [if_pos h2]; exact ⟨fun _ => ⟨h, h1, h2⟩, fun _ => rfl⟩
      · rw [if_neg h2]; exact ⟨fun e => absurd e (by decide), fun e => absurd e.2.2 h2⟩
    · rw [if_pos h1]; exact ⟨fun e => absurd e (by decide), fun e => absurd e.2.1 h1⟩
  · rw [if_pos h]; exact ⟨fun e => absurd e h, fun e => absurd e.1 h⟩
theorem axErr_bad {zs ps : List Int} (he : errOf zs ≠ 0) : axErr zs ps = errOf zs := by simp [axErr, he]
theorem axErr_len {zs ps : List Int} (he : errOf zs = 0) (hl : ps.length ≠ zs.length) : axErr zs ps = 4 := by simp [axErr, he, hl]
theorem axErr_ord {zs ps : List Int} (he : errOf zs = 0) (hl : ps.length = zs.length) (ho : ¬ IsOrd ps) : axErr zs ps = 5 := by
  rw [← ordB_iff] at ho; simp [axErr, he, hl, ho]
theorem axVal_bad {zs ps : List Int} (h : axErr zs ps ≠ 0) : axVal zs ps = [] := by simp [axVal, h]
theorem axVal_ok {zs ps : List Int} (h : axErr zs ps = 0) : axVal zs ps = axl zs ps (dn zs.length zs.length) := by simp [axVal, h]
theorem axVal_spec {zs ps : List Int} (h : axErr zs ps = 0) : AxSpec zs ps (axVal zs ps) := by
  have := axErr_zero.1 h
  rw [axVal_ok h]; exact axl_spec this.2.2 this.2.1

/-- The order turned round, as the program reckons it: the first k numbers have been put. -/
def bkl (ps : List Int) : Nat → List Int
  | 0 => List.replicate ps.length 0
  | k + 1 => if 0 ≤ nth ps k ∧ nth ps k < ps.length then (bkl ps k).set (nth ps k).toNat k else bkl ps k
theorem bkl_length (ps : List Int) : ∀ k, (bkl ps k).length = ps.length
  | 0 => by simp [bkl]
  | k + 1 => by simp only [bkl]; split <;> simp [bkl_length ps k]
theorem bkl_at {ps : List Int} (ho : IsOrd ps) : ∀ k, k ≤ ps.length → ∀ i, i < k → nth (bkl ps k) (nth ps i).toNat = i
  | 0, _, i, h => by omega
  | k + 1, hk, i, h => by
    have b := ho.1 k (by omega)
    have bi := ho.1 i (by omega)
    simp only [bkl]
    rw [if_pos b, nth_set _ _ _ _ (by rw [bkl_length]; omega)]
    by_cases e : i = k
    · rw [if_pos (by rw [e]), e]
    · have hne : (nth ps i).toNat ≠ (nth ps k).toNat := fun e2 => e (ho.inj (by omega) (by omega) (by omega))
      rw [if_neg hne]
      exact bkl_at ho k (by omega) i (by omega)
theorem bkl_spec {ps : List Int} (ho : IsOrd ps) : BkSpec ps (bkl ps ps.length) := ⟨bkl_length _ _, bkl_at ho _ (Nat.le_refl _)⟩
end Go.Proofs.Ytgaelbgeoobgiab
