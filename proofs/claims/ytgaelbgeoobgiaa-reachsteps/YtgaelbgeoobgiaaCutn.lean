/-
  Odo Ordr Turnm Alongm Cycd Capi Turnq Cutm Cutl Cutn, together.
-/
import Derived.Test.YtgaelbgeoobgiaaBase
import Derived.Deep.Strs
import Derived.OpenShut
import Derived.ProofKit
import Derived.ShutString
import Derived.ChangeOld
import Derived.Below
/-! Odo: Plain mathematics of indices that are counted up: the next place's indices. -/
namespace Go.Proofs.Ytgaelbgeoobgiaa

theorem ins_cons {x a : Int} {s t : List Int} : insB (x :: s) (a :: t) = true ↔ (0 ≤ a ∧ a < x) ∧ insB s t = true := by
  simp only [insB, Bool.and_eq_true, decide_eq_true_eq]
theorem place_zeros : ∀ s : List Int, place s (List.replicate s.length 0) = 0
  | [] => rfl
  | x :: s => by simp [List.replicate_succ, place, place_zeros s]
theorem ins_zeros : ∀ {s : List Int}, AllPos s → insB s (List.replicate s.length 0) = true
  | [], _ => rfl
  | x :: s, h => by
    have := h x List.mem_cons_self
    simp only [List.length_cons, List.replicate_succ]
    exact ins_cons.2 ⟨⟨by omega, by omega⟩, ins_zeros h.tail⟩
/-- The last place of all. -/
theorem place_max : ∀ {s t : List Int}, t.length = s.length → (∀ j, j < s.length → nth t j = nth s j - 1) → place s t = prod s - 1
  | [], [], _, _ => by simp [place, prod]
  | [], _ :: _, h, _ => by simp at h
  | _ :: _, [], h, _ => by simp at h
  | x :: s, a :: t, hl, h => by
    have h0 := h 0 (by simp)
    rw [nth_zero, nth_zero] at h0
    have ih := place_max (s := s) (t := t) (by simpa using hl) (fun j hj => by have := h (j + 1) (by simpa using hj); rwa [nth_succ, nth_succ] at this)
    simp only [place, prod, ih, h0, Int.sub_mul, Int.one_mul]
    omega
/-- The first m numbers, and 0 behind them. -/
def zr (c : List Int) (m : Nat) : List Int := c.take m ++ List.replicate (c.length - m) 0
theorem zr_length (c : List Int) (m : Nat) (h : m ≤ c.length) : (zr c m).length = c.length := by simp [zr]; omega
theorem zr_all (c : List Int) : zr c c.length = c := by simp [zr]
theorem zr_at (c : List Int) (m j : Nat) (h : j < m) (hm : m ≤ c.length) : nth (zr c m) j = nth c j := by
  unfold zr
  rw [nth_append_left _ _ _ (by rw [List.length_take]; omega), nth_take c m j h]
theorem zr_behind (c : List Int) (m j : Nat) (h : m ≤ j) (hm : m ≤ c.length) : nth (zr c m) j = 0 := by
  have hl : (c.take m).length ≤ j := by rw [List.length_take]; omega
  unfold zr
  rw [show nth (c.take m ++ List.replicate (c.length - m) 0) j = nth (List.replicate (c.length - m) 0) (j - (c.take m).length) from by simp [nth, List.getElem?_append_right hl]]
  exact nth_replicate _ _
theorem zr_set (c : List Int) (q : Nat) (h : q < c.length) : (zr c (q + 1)).set q 0 = zr c q := by
  refine nth_ext (by rw [List.length_set, zr_length c _ (by omega), zr_length c _ (by omega)]) fun j hj => ?_
  rw [List.length_set, zr_length c _ (by omega)] at hj
  rw [nth_set _ _ _ _ (by rw [zr_length c _ (by omega)]; exact h)]
  by_cases e : j = q
  · rw [if_pos e, zr_behind c q j (by omega) (by omega)]
  · rw [if_neg e]
    by_cases e2 : j < q
    · rw [zr_at c _ j (by omega) (by omega), zr_at c _ j e2 (by omega)]
    · rw [zr_behind c _ j (by omega) (by omega), zr_behind c _ j (by omega) (by omega)]
/-- The next place's indices: the axis q goes on, those behind it begin anew. -/
def nxt (c : List Int) (q : Nat) : List Int := (zr c (q + 1)).set q (nth c q + 1)
theorem nxt_zero (a : Int) (t : List Int) : nxt (a :: t) 0 = (a + 1) :: List.replicate t.length 0 := by simp [nxt, zr, nth]
theorem nxt_succ (a : Int) (t : List Int) (q : Nat) : nxt (a :: t) (q + 1) = a :: nxt t q := by simp [nxt, zr, nth_succ]
theorem nxt_fact : ∀ {s c : List Int} (q : Nat), AllPos s → insB s c = true → q < s.length → (∀ j, q < j → j < s.length → nth c j = nth s j - 1) → nth c q ≠ nth s q - 1 → insB s (nxt c q) = true ∧ place s (nxt c q) = place s c + 1
  | [], _, _, _, _, h, _, _ => by simp at h
  | _ :: _, [], _, _, h, _, _, _ => by simp [insB] at h
  | x :: s, a :: t, 0, hp, hi, _, hm, hq => by
    have h1 := ins_cons.1 hi
    have hl := insB_len h1.2
    rw [nth_zero, nth_zero] at hq
    have e : place s t = prod s - 1 := place_max hl fun j hj => by have := hm (j + 1) (by omega) (by simpa using hj); rwa [nth_succ, nth_succ] at this
    rw [nxt_zero, hl]
    refine ⟨ins_cons.2 ⟨by omega, ins_zeros hp.tail⟩, ?_⟩
    simp only [place, place_zeros, e, Int.add_mul, Int.one_mul]
    omega
  | x :: s, a :: t, q + 1, hp, hi, hk, hm, hq => by
    have h1 := ins_cons.1 hi
    rw [nth_succ, nth_succ] at hq
    have ih := nxt_fact (s := s) (c := t) q hp.tail h1.2 (by simpa using hk) (fun j h2 h3 => by have := hm (j + 1) (by omega) (by simpa using h3); rwa [nth_succ, nth_succ] at this) hq
    rw [nxt_succ]
    refine ⟨ins_cons.2 ⟨h1.1, ih.1⟩, ?_⟩
    simp only [place, ih.2]
    omega

/-- The indices of the place i. -/
def cr (zs : List Int) (i : Nat) : List Int := (crd zs (i : Int)).1
theorem cr_length (zs : List Int) (i : Nat) : (cr zs i).length = zs.length := crd_len zs _
theorem cr_fact {zs : List Int} {i : Nat} (he : errOf zs = 0) (hi : (i : Int) < prod zs) : insB zs (cr zs i) = true ∧ place zs (cr zs i) = i := by
  have ha : atErr zs i = 0 := atErr_zero.2 ⟨he, by omega, hi⟩
  have := at_back ha
  rw [atVal_ok ha] at this
  exact ⟨(plErr_zero.1 this.1).2, this.2⟩
theorem cr_zero {zs : List Int} (he : errOf zs = 0) (hp : 0 < prod zs) : cr zs 0 = List.replicate zs.length 0 := by
  have h1 := cr_fact (i := 0) he (by simpa using hp)
  have hpos := allPos_of_prod (errOf_zero.1 he).2.1 hp
  exact place_inj h1.1 (ins_zeros hpos) (by rw [h1.2, place_zeros]; rfl)
theorem cr_next {zs : List Int} {i q : Nat} (he : errOf zs = 0) (hi : ((i + 1 : Nat) : Int) < prod zs) (hq : q < zs.length) (hm : ∀ j, q < j → j < zs.length → nth (cr zs i) j = nth zs j - 1) (hn : nth (cr zs i) q ≠ nth zs q - 1) : cr zs (i + 1) = nxt (cr zs i) q := by
  have hpos := allPos_of_prod (errOf_zero.1 he).2.1 (by omega)
  have h1 := cr_fact (i := i) he (by omega)
  have h2 := cr_fact (i := i + 1) he hi
  have h3 := nxt_fact q hpos h1.1 hq hm hn
  exact place_inj h2.1 h3.1 (by rw [h2.2, h3.2, h1.2]; omega)
/-- Not all indices are the last ones of their axes. -/
theorem cr_not_max {zs : List Int} {i : Nat} (he : errOf zs = 0) (hi : ((i + 1 : Nat) : Int) < prod zs) (hm : ∀ j, j < zs.length → nth (cr zs i) j = nth zs j - 1) : False := by
  have h1 := cr_fact (i := i) he (by omega)
  have := place_max (cr_length zs i) hm
  omega
end Go.Proofs.Ytgaelbgeoobgiaa
/-! Ordr: Plain mathematics of orders of axes: each number below the length once; a shape in another order; the order turned round. -/
namespace Go.Proofs.Ytgaelbgeoobgiaa

def IsOrd (ps : List Int) : Prop := (∀ j, j < ps.length → 0 ≤ nth ps j ∧ nth ps j < ps.length) ∧ ∀ i j, i < j → j < ps.length → nth ps i ≠ nth ps j
def ordB (ps : List Int) : Bool := (List.range ps.length).all fun j => decide (0 ≤ nth ps j ∧ nth ps j < ps.length) && (List.range j).all fun i => nth ps i != nth ps j
theorem ordB_iff (ps : List Int) : ordB ps = true ↔ IsOrd ps := by
  simp only [ordB, IsOrd, List.all_eq_true, List.mem_range, Bool.and_eq_true, decide_eq_true_eq, bne_iff_ne]
  exact ⟨fun h => ⟨fun j hj => (h j hj).1, fun i j hi hj => (h j hj).2 i hi⟩, fun h j hj => ⟨h.1 j hj, fun i hi => h.2 i j hi hj⟩⟩
theorem IsOrd.inj {ps : List Int} (h : IsOrd ps) {i j : Nat} (hi : i < ps.length) (hj : j < ps.length) (e : nth ps i = nth ps j) : i = j := by
  by_cases h1 : i < j
  · exact absurd e (h.2 i j h1 hj)
  · by_cases h2 : j < i
    · exact absurd e.symm (h.2 j i h2 hi)
    · omega
/-- The order's numbers, as natural ones. -/
def nats (ps : List Int) : List Nat := ps.map Int.toNat
theorem nats_length (ps : List Int) : (nats ps).length = ps.length := by simp [nats]
theorem nats_get (ps : List Int) (j : Nat) (h : j < ps.length) : (nats ps)[j]? = some (nth ps j).toNat := by
  rw [nth_get ps j h]; simp [nats, h]
theorem nats_nodup {ps : List Int} (h : IsOrd ps) : (nats ps).Nodup := by
  rw [List.Nodup, List.pairwise_iff_getElem]
  intro i j hi hj hij e
  rw [nats_length] at hi hj
  have e1 := nats_get ps i hi
  have e2 := nats_get ps j hj
  rw [List.getElem?_eq_getElem (by rw [nats_length]; exact hi)] at e1
  rw [List.getElem?_eq_getElem (by rw [nats_length]; exact hj)] at e2
  have b1 := h.1 i hi
  have b2 := h.1 j hj
  have e3 : (nth ps i).toNat = (nth ps j).toNat := by
    have := Option.some.inj e1
    have := Option.some.inj e2
    omega
  exact h.2 i j hij hj (by omega)
theorem nats_sub {ps : List Int} (h : IsOrd ps) : nats ps ⊆ List.range ps.length := by
  intro x hx
  obtain ⟨j, hj, e⟩ := List.getElem_of_mem hx
  rw [nats_length] at hj
  have e1 := nats_get ps j hj
  rw [List.getElem?_eq_getElem (by rw [nats_length]; exact hj)] at e1
  have := Option.some.inj e1
  have b := h.1 j hj
  rw [List.mem_range]
  omega
/-- Each number below the length stands somewhere. -/
theorem IsOrd.surj {ps : List Int} (h : IsOrd ps) {j : Nat} (hj : j < ps.length) : ∃ i, i < ps.length ∧ nth ps i = j := by
  by_cases hm : j ∈ nats ps
  · obtain ⟨i, hi, e⟩ := List.getElem_of_mem hm
    rw [nats_length] at hi
    have e1 := nats_get ps i hi
    rw [List.getElem?_eq_getElem (by rw [nats_length]; exact hi)] at e1
    have := Option.some.inj e1
    have b := h.1 i hi
    exact ⟨i, hi, by omega⟩
  · have hn : (j :: nats ps).Nodup := List.nodup_cons.2 ⟨hm, nats_nodup h⟩
    have hs : (j :: nats ps) ⊆ List.range ps.length := by
      intro x hx
      rcases List.mem_cons.1 hx with rfl | hx
      · exact List.mem_range.2 hj
      · exact nats_sub h hx
    have := hn.length_le_of_subset hs
    simp only [List.length_cons, nats_length, List.length_range] at this
    omega
theorem nats_perm {ps : List Int} (h : IsOrd ps) : (nats ps).Perm (List.range ps.length) :=
  (List.perm_ext_iff_of_nodup (nats_nodup h) List.nodup_range).2 fun x => ⟨fun hx => nats_sub h hx, fun hx => by
    obtain ⟨i, hi, e⟩ := h.surj (List.mem_range.1 hx)
    have e1 := nats_get ps i hi
    rw [e, Int.toNat_natCast] at e1
    exact List.mem_of_getElem? e1⟩

theorem prod_perm {a b : List Int} (h : a.Perm b) : prod a = prod b := by
  induction h with
  | nil => rfl
  | cons x _ ih => simp only [prod, ih]
  | swap x y l => simp only [prod]; rw [← Int.mul_assoc, ← Int.mul_assoc, Int.mul_comm y x]
  | trans _ _ ih1 ih2 => exact ih1.trans ih2
theorem errOf_perm {a b : List Int} (h : a.Perm b) (he : errOf a = 0) : errOf b = 0 := by
  have := errOf_zero.1 he
  exact errOf_zero.2 ⟨by rw [← h.length_eq]; exact this.1, fun x hx => this.2.1 x (h.mem_iff.2 hx), by rw [← prod_perm h]; exact this.2.2⟩

/-- t is the shape whose axis ps[k] is axis k of zs. -/
def AxSpec (zs ps t : List Int) : Prop := t.length = zs.length ∧ ∀ k, k < zs.length → nth t (nth ps k).toNat = nth zs k
theorem range_nth (t : List Int) : (List.range t.length).map (nth t) = t := by
  apply List.ext_getElem (by simp)
  intro i h1 h2
  simp [nth_get t i h2]
theorem AxSpec.perm {zs ps t : List Int} (h : AxSpec zs ps t) (ho : IsOrd ps) (hl : ps.length = zs.length) : t.Perm zs := by
  have e1 : (nats ps).map (nth t) = zs := by
    apply List.ext_getElem (by simp [nats_length, hl])
    intro i h1 h2
    rw [List.getElem_map, ← nth_get zs i h2, ← h.2 i h2]
    have := nats_get ps i (by omega)
    rw [List.getElem?_eq_getElem (by rw [nats_length]; omega)] at this
    rw [Option.some.inj this]
  have e2 := (nats_perm ho).map (nth t)
  rw [e1, hl, ← h.1, range_nth] at e2
  exact e2.symm
theorem AxSpec.unique {zs ps t u : List Int} (ho : IsOrd ps) (hl : ps.length = zs.length) (h : AxSpec zs ps t) (k : AxSpec zs ps u) : t = u := by
  refine nth_ext (h.1.trans k.1.symm) fun j hj => ?_
  obtain ⟨i, hi, e⟩ := ho.surj (j := j) (by rw [hl, ← h.1]; exact hj)
  have h1 := h.2 i (by omega)
  have h2 := k.2 i (by omega)
  rw [e, Int.toNat_natCast] at h1 h2
  rw [h1, h2]

/-- The order turned round. -/
def BkSpec (ps q : List Int) : Prop := q.length = ps.length ∧ ∀ i, i < ps.length → nth q (nth ps i).toNat = i
theorem BkSpec.at {ps q : List Int} (h : BkSpec ps q) (ho : IsOrd ps) {j : Nat} (hj : j < ps.length) : ∃ i, i < ps.length ∧ nth ps i = j ∧ nth q j = i := by
  obtain ⟨i, hi, e⟩ := ho.surj hj
  have := h.2 i hi
  rw [e, Int.toNat_natCast] at this
  exact ⟨i, hi, e, this⟩
theorem BkSpec.ord {ps q : List Int} (h : BkSpec ps q) (ho : IsOrd ps) : IsOrd q := by
  refine ⟨fun j hj => ?_, fun i j hij hj e => ?_⟩
  · obtain ⟨i, hi, _, e2⟩ := h.at ho (j := j) (by rw [← h.1]; exact hj)
    rw [e2, h.1]; omega
  · obtain ⟨i1, hi1, e1, f1⟩ := h.at ho (j := i) (by rw [← h.1]; omega)
    obtain ⟨i2, hi2, e2, f2⟩ := h.at ho (j := j) (by rw [← h.1]; exact hj)
    rw [f1, f2] at e
    have : i1 = i2 := by omega
    subst this
    rw [e1] at e2
    omega
/-- By the order turned round it is the shape again. -/
theorem flip_back {zs ps t q u : List Int} (ho : IsOrd ps) (hl : ps.length = zs.length) (ht : AxSpec zs ps t) (hq : BkSpec ps q) (hu : AxSpec t q u) : u = zs := by
  refine nth_ext (hu.1.trans ht.1) fun i hi => ?_
  have hi' : i < ps.length := by rw [hl, ← ht.1, ← hu.1]; exact hi
  have b := ho.1 i hi'
  have h1 := hu.2 (nth ps i).toNat (by have := ht.1; omega)
  rw [hq.2 i hi', Int.toNat_natCast, ht.2 i (by omega)] at h1
  exact h1

/-! ### What the program reckons -/
def axstep (zs ps : List Int) (s : List Int) (x : Ax zs.length) : List Int := s.set (nth ps x.1).toNat (nth zs x.1)
def axl (zs ps : List Int) (pre : List (Ax zs.length)) : List Int := pre.foldl (axstep zs ps) (List.replicate zs.length 0)
theorem axl_snoc (zs ps : List Int) (pre : List (Ax zs.length)) (k : Nat) (hk : k < zs.length) : axl zs ps (pre ++ [⟨k, hk⟩]) = (axl zs ps pre).set (nth ps k).toNat (nth zs k) := by
  simp only [axl, List.foldl_append, List.foldl_cons, List.foldl_nil, axstep]
theorem axl_fold_length (zs ps : List Int) : ∀ (pre : List (Ax zs.length)) (s : List Int), (pre.foldl (axstep zs ps) s).length = s.length
  | [], s => rfl
  | x :: pre, s => by rw [List.foldl_cons, axl_fold_length zs ps pre]; simp [axstep]
theorem axl_length (zs ps : List Int) (pre : List (Ax zs.length)) : (axl zs ps pre).length = zs.length := by unfold axl; rw [axl_fold_length]; simp
theorem axl_dn {zs ps : List Int} (ho : IsOrd ps) (hl : ps.length = zs.length) : ∀ k, k ≤ zs.length → ∀ j, zs.length - k ≤ j → j < zs.length → nth (axl zs ps (dn zs.length k)) (nth ps j).toNat = nth zs j
  | 0, _, j, h1, h2 => by omega
  | k + 1, hk, j, h1, h2 => by
    rw [dn_succ _ k (by omega), axl_snoc]
    have b := ho.1 (zs.length - 1 - k) (by omega)
    have bj := ho.1 j (by omega)
    rw [nth_set _ _ _ _ (by rw [axl_length]; omega)]
    by_cases e : j = zs.length - 1 - k
    · rw [if_pos (by rw [e]), e]
    · have hne : (nth ps j).toNat ≠ (nth ps (zs.length - 1 - k)).toNat := fun e2 => e (ho.inj (by omega) (by omega) (by omega))
      rw [if_neg hne]
      exact axl_dn ho hl k (by omega) j (by omega) h2
theorem axl_spec {zs ps : List Int} (ho : IsOrd ps) (hl : ps.length = zs.length) : AxSpec zs ps (axl zs ps (dn zs.length zs.length)) :=
  ⟨axl_length _ _ _, fun k hk => axl_dn ho hl _ (Nat.le_refl _) k (by omega) hk⟩
def axErr (zs ps : List Int) : Int := if errOf zs ≠ 0 then errOf zs else if ps.length ≠ zs.length then 4 else if ordB ps = true then 0 else 5
def axVal (zs ps : List Int) : List Int := if axErr zs ps = 0 then axl zs ps (dn zs.length zs.length) else []
theorem axErr_zero {zs ps : List Int} : axErr zs ps = 0 ↔ errOf zs = 0 ∧ ps.length = zs.length ∧ IsOrd ps := by
  unfold axErr
  by_cases h : errOf zs = 0
  · rw [if_neg (by simpa using h)]
    by_cases h1 : ps.length = zs.length
    · rw [if_neg (by simpa using h1), ← ordB_iff]
      by_cases h2 : ordB ps = true
      · rw [if_pos h2]; exact ⟨fun _ => ⟨h, h1, h2⟩, fun _ => rfl⟩
      · rw [if_neg h2]; exact ⟨fun e => absurd e (by decide), fun e => absurd e.2.2 h2⟩
    · rw [if_pos h1]; exact ⟨fun e => absurd e (by decide), fun e => absurd e.2.1 h1⟩
  · rw [if_pos h]; exact ⟨fun e => absurd e h, fun e => absurd e.1 h⟩
theorem axErr_bad {zs ps : List Int} (he : errOf zs ≠ 0) : axErr zs ps = errOf zs := by simp [axErr, he]
theorem axErr_len {zs ps : List Int} (he : errOf zs = 0) (hl : ps.length ≠ zs.length) : axErr zs ps = 4 := by simp [axErr, he, hl]
theorem axErr_ord {zs ps : List Int} (he : errOf zs = 0) (hl : ps.length = zs.length) (ho : ¬ IsOrd ps) : axErr zs ps = 5 := by
  rw [← ordB_iff] at ho; simp [axErr, he, hl, ho]
theorem axVal_bad {zs ps : List Int} (h : axErr zs ps ≠ 0) : axVal zs ps = [] := by simp [axVal, h]
theorem axVal_ok {zs ps : List Int} (h : axErr zs ps = 0) : axVal zs ps = axl zs ps (dn zs.length zs.length) := by simp [axVal, h]
theorem axVal_spec {zs ps : List Int} (h : axErr zs ps = 0) : AxSpec zs ps (axVal zs ps) := by
  have := axErr_zero.1 h
  rw [axVal_ok h]; exact axl_spec this.2.2 this.2.1

/-- The order turned round, as the program reckons it: the first k numbers have been put. -/
def bkl (ps : List Int) : Nat → List Int
  | 0 => List.replicate ps.length 0
  | k + 1 => if 0 ≤ nth ps k ∧ nth ps k < ps.length then (bkl ps k).set (nth ps k).toNat k else bkl ps k
theorem bkl_length (ps : List Int) : ∀ k, (bkl ps k).length = ps.length
  | 0 => by simp [bkl]
  | k + 1 => by simp only [bkl]; split <;> simp [bkl_length ps k]
theorem bkl_at {ps : List Int} (ho : IsOrd ps) : ∀ k, k ≤ ps.length → ∀ i, i < k → nth (bkl ps k) (nth ps i).toNat = i
  | 0, _, i, h => by omega
  | k + 1, hk, i, h => by
    have b := ho.1 k (by omega)
    have bi := ho.1 i (by omega)
    simp only [bkl]
    rw [if_pos b, nth_set _ _ _ _ (by rw [bkl_length]; omega)]
    by_cases e : i = k
    · rw [if_pos (by rw [e]), e]
    · have hne : (nth ps i).toNat ≠ (nth ps k).toNat := fun e2 => e (ho.inj (by omega) (by omega) (by omega))
      rw [if_neg hne]
      exact bkl_at ho k (by omega) i (by omega)
theorem bkl_spec {ps : List Int} (ho : IsOrd ps) : BkSpec ps (bkl ps ps.length) := ⟨bkl_length _ _, bkl_at ho _ (Nat.le_refl _)⟩
end Go.Proofs.Ytgaelbgeoobgiaa
/-! Turnm: Plain mathematics of cells that stand elsewhere: an array told by where each of its cells comes from; nothing of the program. -/
namespace Go.Proofs.Ytgaelbgeoobgiaa
open Go.RowKit
set_option linter.unusedVariables false

/-- An array in shape s', whose cell at indices t is that of the other one (in shape s) at 'src t'. -/
def GA (s dz s' : List Int) (src : List Int → List Int) : List Int := (List.range (prod s').toNat).map fun i => nth dz (place s (src (cr s' i))).toNat
section
variable {s s' s'' dz : List Int} {src src' src2 : List Int → List Int}
theorem GA_length : (GA s dz s' src).length = (prod s').toNat := by simp [GA]
theorem GA_nth {i : Nat} (h : i < (prod s').toNat) : nth (GA s dz s' src) i = nth dz (place s (src (cr s' i))).toNat := by simp [GA, nth, h]
theorem cr_place (he : errOf s' = 0) {t : List Int} (ht : insB s' t = true) : cr s' (place s' t).toNat = t ∧ (place s' t).toNat < (prod s').toNat := by
  have hb := place_bd ht
  have h := pl_back (plErr_zero.2 ⟨he, ht⟩)
  have e : (((place s' t).toNat : Nat) : Int) = place s' t := by omega
  refine ⟨?_, by omega⟩
  unfold cr
  rw [e, ← atVal_ok h.1]
  exact h.2.1
theorem GA_at (he : errOf s' = 0) {t : List Int} (ht : insB s' t = true) : nth (GA s dz s' src) (place s' t).toNat = nth dz (place s (src t)).toNat := by
  have h := cr_place he ht
  rw [GA_nth h.2, h.1]
theorem cr_in (he : errOf s' = 0) {i : Nat} (hi : i < (prod s').toNat) : insB s' (cr s' i) = true ∧ place s' (cr s' i) = i := cr_fact he (by omega)
theorem GA_ext (he : errOf s' = 0) {xs : List Int} (hl : xs.length = (prod s').toNat) (h : ∀ t, insB s' t = true → nth xs (place s' t).toNat = nth dz (place s (src t)).toNat) : xs = GA s dz s' src := by
  refine nth_ext (by rw [hl, GA_length]) fun i hi => ?_
  rw [hl] at hi
  have hc := cr_in he hi
  rw [GA_nth hi, ← h _ hc.1, hc.2, Int.toNat_natCast]
theorem GA_comp (he' : errOf s' = 0) (he'' : errOf s'' = 0) (h : ∀ t, insB s'' t = true → insB s' (src2 t) = true) : GA s' (GA s dz s' src) s'' src2 = GA s dz s'' (fun t => src (src2 t)) :=
  GA_ext he'' GA_length fun t ht => by rw [GA_at he'' ht, GA_at he' (h t ht)]
theorem GA_congr (he : errOf s' = 0) (h : ∀ t, insB s' t = true → src t = src' t) : GA s dz s' src = GA s dz s' src' :=
  GA_ext he GA_length fun t ht => by rw [GA_at he ht, h t ht]
theorem GA_id (he : errOf s = 0) (hd : (dz.length : Int) = prod s) (h : ∀ t, insB s t = true → src t = t) : GA s dz s src = dz :=
  (GA_ext he (by omega) fun t ht => by rw [h t ht]).symm
/-- Nothing is wrong with what is told. -/
theorem GA_in (hs : ∀ t, insB s' t = true → insB s (src t) = true) (he' : errOf s' = 0) (hd : (dz.length : Int) = prod s) {j : Nat} (hj : j < (prod s').toNat) : ∃ k, k < dz.length ∧ nth (GA s dz s' src) j = nth dz k := by
  have hc := cr_in he' hj
  have hb := place_bd (hs _ hc.1)
  exact ⟨_, by omega, GA_nth hj⟩
theorem GA_64 (T : ∀ j, In64 (nth dz j)) : ∀ j, In64 (nth (GA s dz s' src) j) := fun j => by
  by_cases hj : j < (prod s').toNat
  · rw [GA_nth hj]; exact T _
  · have : nth (GA s dz s' src) j = 0 := by simp [nth, List.getElem?_eq_none (show (GA s dz s' src).length ≤ j by rw [GA_length]; omega)]
    rw [this]; unfold In64; decide
theorem GA_flaw {c : Bool} (hf : flawE c s dz = 0) (he' : errOf s' = 0) (hs : ∀ t, insB s' t = true → insB s (src t) = true) : flawE c s' (GA s dz s' src) = 0 := by
  obtain ⟨h1, h2, h3⟩ := flawE_zero hf
  have hz := errOf_zero.1 he'
  have hp := prod_nonneg hz.2.1
  have hl : ((GA s dz s' src).length : Int) = prod s' := by rw [GA_length]; omega
  cases c
  · exact flawE_okn he' hl
  · refine flawE_okc he' hl ?_
    have hc := h3 rfl
    unfold chAll at *
    rw [List.all_eq_true] at *
    intro x hx
    obtain ⟨j, hj, rfl⟩ := List.mem_iff_getElem.1 hx
    rw [GA_length] at hj
    obtain ⟨k, hk, e⟩ := GA_in (dz := dz) hs he' h2 hj
    rw [← nth_get _ j (by rw [GA_length]; exact hj), e]
    exact hc _ (nth_mem dz k hk)
end
/-! ### The other way round, moved round, other axes -/
def revT (s : List Int) (x : Nat) (t : List Int) : List Int := t.set x (nth s x - 1 - nth t x)
def rotT (s : List Int) (n : Int) (x : Nat) (t : List Int) : List Int := t.set x ((nth t x + n) % nth s x)
def flpT (p : List Int) (t : List Int) : List Int := p.map fun k => nth t k.toNat
theorem flpT_nth (p t : List Int) {k : Nat} (h : k < p.length) : nth (flpT p t) k = nth t (nth p k).toNat := by simp [flpT, nth, h]
theorem flpT_length (p t : List Int) : (flpT p t).length = p.length := by simp [flpT]
section
variable {s t : List Int} {x y : Nat} {n m : Int}
theorem ins_at (h : insB s t = true) (hx : x < s.length) : 0 ≤ nth t x ∧ nth t x < nth s x := (insB_iff (insB_len h)).1 h x hx
theorem ins_set {v : Int} (h : insB s t = true) (hx : x < s.length) (hv : 0 ≤ v ∧ v < nth s x) : insB s (t.set x v) = true := by
  have hl := insB_len h
  rw [insB_iff (by rw [List.length_set]; exact hl)]
  intro k hk
  rw [nth_set _ _ _ _ (by omega)]
  split
  · rename_i e; rw [e]; exact hv
  · exact ins_at h hk
theorem revT_in (h : insB s t = true) (hx : x < s.length) : insB s (revT s x t) = true := ins_set h hx (by have := ins_at h hx; omega)
theorem rotT_in (h : insB s t = true) (hx : x < s.length) : insB s (rotT s n x t) = true := by
  have hb := ins_at h hx
  exact ins_set h hx ⟨Int.emod_nonneg _ (by omega), Int.emod_lt_of_pos _ (by omega)⟩
theorem revT_nth (h : insB s t = true) (hx : x < s.length) (k : Nat) : nth (revT s x t) k = if k = x then nth s x - 1 - nth t x else nth t k := nth_set _ _ _ _ (by rw [insB_len h]; exact hx)
theorem rotT_nth (h : insB s t = true) (hx : x < s.length) (k : Nat) : nth (rotT s n x t) k = if k = x then (nth t x + n) % nth s x else nth t k := nth_set _ _ _ _ (by rw [insB_len h]; exact hx)
theorem revT_length : (revT s x t).length = t.length := by simp [revT]
theorem rotT_length : (rotT s n x t).length = t.length := by simp [rotT]
theorem revT_twice (h : insB s t = true) (hx : x < s.length) : revT s x (revT s x t) = t := by
  refine nth_ext (by rw [revT_length, revT_length]) fun k _ => ?_
  rw [revT_nth (revT_in h hx) hx, revT_nth h hx, revT_nth h hx, if_pos rfl]
  split
  · rename_i e; rw [e]; omega
  · rfl
theorem revT_swap (h : insB s t = true) (hx : x < s.length) (hy : y < s.length) : revT s x (revT s y t) = revT s y (revT s x t) := by
  refine nth_ext (by simp only [revT_length]) fun k _ => ?_
  rw [revT_nth (revT_in h hy) hx, revT_nth (revT_in h hx) hy, revT_nth h hy, revT_nth h hy, revT_nth h hx, revT_nth h hx]
  by_cases e : x = y
  · subst e; rfl
  · by_cases a : k = x
    · subst a; rw [if_pos rfl, if_neg e, if_neg e, if_pos rfl]
    · rw [if_neg a]
      by_cases b : k = y
      · subst b; rw [if_pos rfl, if_pos rfl, if_neg a]
      · rw [if_neg b, if_neg b, if_neg a]
theorem rotT_add (h : insB s t = true) (hx : x < s.length) : rotT s m x (rotT s n x t) = rotT s (m + n) x t := by
  refine nth_ext (by simp only [rotT_length]) fun k _ => ?_
  rw [rotT_nth (rotT_in h hx) hx, rotT_nth h hx, rotT_nth h hx, rotT_nth h hx, if_pos rfl]
  split
  · rw [Int.emod_add_emod]
    congr 1
    omega
  · rfl
theorem rotT_len (h : insB s t = true) (hx : x < s.length) : rotT s (nth s x) x t = t := by
  have hb := ins_at h hx
  refine nth_ext rotT_length fun k _ => ?_
  rw [rotT_nth h hx]
  split
  · rename_i e
    rw [Int.add_emod_right, Int.emod_eq_of_lt hb.1 hb.2, e]
  · rfl
/-- One number below the length that differs from another one by some lengths is what is left of it. -/
theorem emod_is {a b L : Int} (h0 : 0 ≤ a) (h1 : a < L) (k : Int) (h : b = a + L * k) : b % L = a := by
  rw [h, Int.add_mul_emod_self_left, Int.emod_eq_of_lt h0 h1]
theorem rotT_mirror (h : insB s t = true) (hx : x < s.length) : revT s x (rotT s n x (revT s x t)) = rotT s (-n) x t := by
  have hb := ins_at h hx
  have h1 := revT_in h hx
  have hL : nth s x ≠ 0 := by omega
  refine nth_ext (by simp only [revT_length, rotT_length]) fun k _ => ?_
  rw [revT_nth (rotT_in h1 hx) hx, rotT_nth h1 hx, rotT_nth h1 hx, revT_nth h hx, revT_nth h hx, rotT_nth h hx, if_pos rfl, if_pos rfl]
  split
  · have e1 := Int.emod_nonneg (nth s x - 1 - nth t x + n) hL
    have e2 := Int.emod_lt_of_pos (nth s x - 1 - nth t x + n) (show 0 < nth s x by omega)
    have e3 := Int.mul_ediv_add_emod (nth s x - 1 - nth t x + n) (nth s x)
    refine (emod_is (by omega) (by omega) ((nth s x - 1 - nth t x + n) / nth s x * -1 ) ?_).symm
    have e4 : nth s x * ((nth s x - 1 - nth t x + n) / nth s x * -1) = - (nth s x * ((nth s x - 1 - nth t x + n) / nth s x)) := by rw [← Int.mul_assoc, Int.mul_neg, Int.mul_one]
    omega
  · rfl
end
/-! ### Orders of axes -/
section
variable {s s' p t : List Int}
theorem flpT_in (ho : IsOrd p) (hl : p.length = s.length) (ha : AxSpec s p s') (h : insB s' t = true) : insB s (flpT p t) = true := by
  have hl' := insB_len h
  rw [insB_iff (by rw [flpT_length]; exact hl)]
  intro k hk
  rw [flpT_nth p t (by omega), ← ha.2 k hk]
  have := ho.1 k (by omega)
  exact ins_at h (by have := ha.1; omega)
theorem flpT_comp {q r : List Int} (ho : IsOrd p) (hq : q.length = p.length) (hr : r.length = p.length) (h : ∀ k, k < p.length → nth r k = nth q (nth p k).toNat) : flpT p (flpT q t) = flpT r t := by
  refine nth_ext (by rw [flpT_length, flpT_length, hr]) fun k hk => ?_
  rw [flpT_length] at hk
  have := ho.1 k hk
  rw [flpT_nth p _ hk, flpT_nth q t (by omega), flpT_nth r t (by omega), h k hk]
theorem flpT_back {q : List Int} (ho : IsOrd p) (hq : BkSpec p q) (hl : t.length = p.length) : flpT p (flpT q t) = t := by
  refine nth_ext (by rw [flpT_length, hl]) fun k hk => ?_
  rw [flpT_length] at hk
  have := ho.1 k hk
  rw [flpT_nth p _ hk, flpT_nth q t (by have := hq.1; omega), hq.2 k hk, Int.toNat_natCast]
theorem ax_err {s' : List Int} (ho : IsOrd p) (hl : p.length = s.length) (ha : AxSpec s p s') (he : errOf s = 0) : errOf s' = 0 := errOf_perm (ha.perm ho hl).symm he
theorem ax_prod {s' : List Int} (ho : IsOrd p) (hl : p.length = s.length) (ha : AxSpec s p s') : prod s' = prod s := prod_perm (ha.perm ho hl)
/-- By one order and then by another one: the order of both. -/
theorem ax_comp {s' s'' q r : List Int} (hop : IsOrd p) (hoq : IsOrd q) (hl : p.length = s.length) (hq : q.length = p.length) (hr : r.length = p.length) (h : ∀ k, k < p.length → nth r k = nth q (nth p k).toNat) (ha : AxSpec s p s') (hb : AxSpec s' q s'') :
    IsOrd r ∧ AxSpec s r s'' := by
  refine ⟨⟨fun j hj => ?_, fun i j hij hj e => ?_⟩, hb.1.trans ha.1, fun k hk => ?_⟩
  · have b := hop.1 j (by omega)
    rw [h j (by omega)]
    have := hoq.1 (nth p j).toNat (by omega)
    omega
  · have bi := hop.1 i (by omega)
    have bj := hop.1 j (by omega)
    rw [h i (by omega), h j (by omega)] at e
    have := hoq.inj (by omega) (by omega) e
    exact absurd (hop.inj (i := i) (j := j) (by omega) (by omega) (by omega)) (by omega)
  · have b := hop.1 k (by omega)
    rw [h k (by omega), hb.2 _ (by have := ha.1; omega), ha.2 k hk]
end
end Go.Proofs.Ytgaelbgeoobgiaa
/-! Alongm: Plain mathematics of cells along one axis, and of places told by steps; nothing of the program. -/
namespace Go.Proofs.Ytgaelbgeoobgiaa
open Go.RowKit
set_option linter.unusedVariables false

/-- How many places two cells next to each other on an axis are apart. -/
def stp (s : List Int) (x : Nat) : Int := prod (s.drop (x + 1))
theorem stp_zero (a : Int) (s : List Int) : stp (a :: s) 0 = prod s := by simp [stp]
theorem stp_succ (a : Int) (s : List Int) (x : Nat) : stp (a :: s) (x + 1) = stp s x := by simp [stp]
theorem al_prod {s : List Int} (h : AllPos s) : 0 < prod s := by
  induction s with
  | nil => simp [prod]
  | cons x r ih => exact Int.mul_pos (h x List.mem_cons_self) (ih h.tail)
theorem al_drop {s : List Int} (h : AllPos s) (k : Nat) : AllPos (s.drop k) := fun y hy => h y (List.mem_of_mem_drop hy)
theorem al_take {s : List Int} (h : AllPos s) (k : Nat) : AllPos (s.take k) := fun y hy => h y (List.mem_of_mem_take hy)
theorem stp_pos {s : List Int} (h : AllPos s) (x : Nat) : 0 < stp s x := al_prod (al_drop h _)
theorem al_pos {s t : List Int} (h : insB s t = true) : AllPos s := fun y hy => by
  obtain ⟨j, hj, rfl⟩ := List.mem_iff_getElem.1 hy
  have := ins_at h hj
  rw [← nth_get s j hj]
  omega
theorem al_split (s : List Int) {x : Nat} (hx : x < s.length) : prod s = prod (s.take x) * (nth s x * stp s x) := by
  have e := prod_append (s.take x) (s.drop x)
  rw [List.take_append_drop, drop_nth s x hx] at e
  exact e
/-- No more than 4096 cells: no step is longer. -/
theorem stp_le {s : List Int} (h : AllPos s) {x : Nat} (hx : x < s.length) : nth s x * stp s x ≤ prod s := by
  have e := al_split s hx
  have h1 := al_prod (al_take h x)
  have h2 := stp_pos h x
  have h3 := h _ (nth_mem s x hx)
  have h4 : 0 ≤ nth s x * stp s x := Int.le_of_lt (Int.mul_pos h3 h2)
  have : 1 * (nth s x * stp s x) ≤ prod (s.take x) * (nth s x * stp s x) := Int.mul_le_mul_of_nonneg_right (by omega) h4
  omega
theorem place_set : ∀ {s t : List Int} {x : Nat} (v : Int), t.length = s.length → x < s.length → place s (t.set x v) = place s t + (v - nth t x) * stp s x
  | [], _, _, _, _, h => by simp at h
  | _ :: _, [], _, _, h, _ => by simp at h
  | b :: s, a :: t, 0, v, hl, _ => by
    simp only [List.set_cons_zero, place, nth_zero, stp_zero, Int.sub_mul]
    omega
  | b :: s, a :: t, x + 1, v, hl, hx => by
    have ih := place_set (s := s) (t := t) (x := x) v (by simpa using hl) (by simpa using hx)
    simp only [List.set_cons_succ, place, nth_succ, stp_succ, ih]
    omega
/-- The index on an axis, out of the place. -/
theorem idx_at : ∀ {s t : List Int} {x : Nat}, insB s t = true → x < s.length → place s t / stp s x % nth s x = nth t x
  | [], _, _, _, h => by simp at h
  | _ :: _, [], _, h, _ => by simp [insB] at h
  | b :: s, a :: t, 0, h, _ => by
    have h1 := ins_cons.1 h
    have hb := place_bd h1.2
    simp only [place, nth_zero, stp_zero]
    have e : (a * prod s + place s t) / prod s = a := by
      rw [Int.add_comm, Int.add_mul_ediv_right _ _ (by omega), Int.ediv_eq_zero_of_lt hb.1 hb.2]; omega
    rw [e, Int.emod_eq_of_lt h1.1.1 h1.1.2]
  | b :: s, a :: t, x + 1, h, hx => by
    have h1 := ins_cons.1 h
    have hx' : x < s.length := by simpa using hx
    have ih := idx_at (s := s) (t := t) (x := x) h1.2 hx'
    have hp := stp_pos (al_pos h1.2) x
    simp only [place, nth_succ, stp_succ]
    have e : a * prod s + place s t = place s t + (a * prod (s.take x) * nth s x) * stp s x := by
      rw [al_split s hx', Int.add_comm]
      congr 1
      rw [Int.mul_assoc, Int.mul_assoc]
    rw [e, Int.add_mul_ediv_right _ _ (by omega), Int.add_mul_emod_self_right]
    exact ih
/-- The place at which that stood which is now at the place j: on one axis the index i was g i. -/
def mvP (s : List Int) (x : Nat) (g : Int → Int) (j : Int) : Int := j + (g (j / stp s x % nth s x) - j / stp s x % nth s x) * stp s x
def mvT (x : Nat) (g : Int → Int) (t : List Int) : List Int := t.set x (g (nth t x))
theorem mvP_at {s : List Int} (he : errOf s = 0) {x : Nat} (hx : x < s.length) {j : Nat} (hj : (j : Int) < prod s) (g : Int → Int) : (j : Int) / stp s x % nth s x = nth (cr s j) x ∧ mvP s x g j = place s (mvT x g (cr s j)) := by
  obtain ⟨h1, h2⟩ := cr_fact he hj
  have e : (j : Int) / stp s x % nth s x = nth (cr s j) x := by rw [← idx_at h1 hx, h2]
  refine ⟨e, ?_⟩
  unfold mvP mvT
  rw [place_set _ (cr_length s j) hx, h2, e]
theorem mvT_in {s t : List Int} {x : Nat} {g : Int → Int} (h : insB s t = true) (hx : x < s.length) (hg : ∀ i, 0 ≤ i → i < nth s x → 0 ≤ g i ∧ g i < nth s x) : insB s (mvT x g t) = true := by
  have hb := ins_at h hx
  exact ins_set h hx (hg _ hb.1 hb.2)
theorem rev_mvT (s : List Int) (x : Nat) : revT s x = mvT x (fun i => nth s x - 1 - i) := rfl
theorem rot_mvT (s : List Int) (n : Int) (x : Nat) : rotT s n x = mvT x (fun i => (i + n) % nth s x) := rfl
/-- All that the program needs of one round: no number is too great, the cell is there, and it is the one. -/
theorem mv_round {s dz : List Int} (he : errOf s = 0) (hd : (dz.length : Int) = prod s) {x : Nat} (hx : x < s.length) {j : Nat} (hj : j < dz.length) {g : Int → Int} (hg : ∀ i, 0 ≤ i → i < nth s x → 0 ≤ g i ∧ g i < nth s x) :
    0 < stp s x ∧ stp s x ≤ 4096 ∧ 0 < nth s x ∧ nth s x ≤ 4096 ∧ (∃ i : Nat, (j : Int) / stp s x % nth s x = i ∧ (i : Int) < nth s x ∧ mvP s x g j = j + (g i - i) * stp s x ∧ (g i - i) * stp s x ≤ 16777216 ∧ -16777216 ≤ (g i - i) * stp s x ∧ 0 ≤ g i ∧ g i < nth s x) ∧ ∃ m : Nat, m < dz.length ∧ mvP s x g j = m ∧ nth dz m = nth (GA s dz s (mvT x g)) j := by
  have hz := errOf_zero.1 he
  have hj' : (j : Int) < prod s := by omega
  obtain ⟨h1, h2⟩ := cr_fact he hj'
  obtain ⟨e1, e2⟩ := mvP_at he hx hj' g
  have hp := al_pos h1
  have hb := ins_at h1 hx
  have hs1 := stp_pos hp x
  have hs2 := stp_le hp hx
  have hn := hz.2.1.nth x
  have hgb := hg _ hb.1 hb.2
  have hin := mvT_in h1 hx hg
  have hpb := place_bd hin
  have hs3 : 1 * stp s x ≤ nth s x * stp s x := Int.mul_le_mul_of_nonneg_right (by omega) (by omega)
  have hs4 : stp s x ≤ 4096 := by omega
  refine ⟨hs1, hs4, by omega, hn.2, ⟨(nth (cr s j) x).toNat, by omega, by omega, ?_⟩, (place s (mvT x g (cr s j))).toNat, by omega, by omega, ?_⟩
  · have ei : ((nth (cr s j) x).toNat : Int) = nth (cr s j) x := by omega
    rw [ei]
    have hab : g (nth (cr s j) x) - nth (cr s j) x ≤ 4096 ∧ -4096 ≤ g (nth (cr s j) x) - nth (cr s j) x := by omega
    refine ⟨by unfold mvP; rw [e1], ?_, ?_, hgb⟩
    · have : (g (nth (cr s j) x) - nth (cr s j) x) * stp s x ≤ 4096 * 4096 := Int.le_trans (Int.mul_le_mul_of_nonneg_right hab.1 (by omega)) (Int.mul_le_mul_of_nonneg_left hs4 (by omega))
      omega
    · have h5 : (-4096) * stp s x ≤ (g (nth (cr s j) x) - nth (cr s j) x) * stp s x := Int.mul_le_mul_of_nonneg_right hab.2 (by omega)
      omega
  · rw [GA_nth (by omega)]
/-! ### Sums -/
def sumI : List Int → Int
  | [] => 0
  | x :: r => x + sumI r
theorem sumI_perm {a b : List Int} (h : a.Perm b) : sumI a = sumI b := by
  induction h with
  | nil => rfl
  | cons x _ ih => simp only [sumI, ih]
  | swap x y l => simp only [sumI]; omega
  | trans _ _ ih1 ih2 => exact ih1.trans ih2
/-- The first n of f, together. -/
def sumR (n : Nat) (f : Nat → Int) : Int := sumI ((List.range n).map f)
theorem sumR_succ (n : Nat) (f : Nat → Int) : sumR (n + 1) f = f 0 + sumR n (fun k => f (k + 1)) := by
  unfold sumR
  rw [List.range_succ_eq_map, List.map_cons, List.map_map]
  rfl
theorem sumR_congr {n : Nat} {f g : Nat → Int} (h : ∀ k, k < n → f k = g k) : sumR n f = sumR n g := by
  unfold sumR
  rw [List.map_congr_left fun k hk => h k (List.mem_range.1 hk)]
theorem sumR_ord {p : List Int} (h : IsOrd p) (f : Nat → Int) : sumR p.length f = sumR p.length (fun k => f (nth p k).toNat) := by
  have e := sumI_perm ((nats_perm h).map f)
  unfold sumR
  rw [← e]
  congr 1
  apply List.ext_getElem (by simp [nats_length])
  intro i h1 h2
  rw [List.length_map, nats_length] at h1
  rw [List.getElem_map, List.getElem_map, List.getElem_range]
  have := nats_get p i h1
  rw [List.getElem?_eq_getElem (by rw [nats_length]; exact h1)] at this
  rw [Option.some.inj this]
theorem place_sum : ∀ {s t : List Int}, t.length = s.length → place s t = sumR s.length (fun k => nth t k * stp s k)
  | [], [], _ => rfl
  | [], _ :: _, h => by simp at h
  | _ :: _, [], h => by simp at h
  | b :: s, a :: t, h => by
    have ih := place_sum (s := s) (t := t) (by simpa using h)
    rw [List.length_cons, sumR_succ]
    simp only [nth_zero, stp_zero, nth_succ, stp_succ, place, ih]
/-- Indices times steps, together, from the last axis on. -/
def dotL : List Int → List Int → Int
  | a :: t, b :: u => dotL t u + a * b
  | _, _ => 0
theorem dotL_sum : ∀ {t u : List Int}, u.length = t.length → dotL t u = sumR t.length (fun k => nth t k * nth u k)
  | [], [], _ => rfl
  | [], _ :: _, h => by simp at h
  | _ :: _, [], h => by simp at h
  | a :: t, b :: u, h => by
    have ih := dotL_sum (t := t) (u := u) (by simpa using h)
    rw [List.length_cons, sumR_succ]
    simp only [nth_zero, nth_succ, dotL, ih]
    omega
/-- The steps of another shape's axes: that of axis p[k] is that of axis k. -/
def StSpec (s p u : List Int) : Prop := u.length = s.length ∧ ∀ k, k < s.length → nth u (nth p k).toNat = stp s k
theorem flp_dot {s p u t : List Int} (ho : IsOrd p) (hl : p.length = s.length) (hu : StSpec s p u) (ht : t.length = s.length) : dotL t u = place s (flpT p t) := by
  rw [dotL_sum (by rw [hu.1, ht]), place_sum (by rw [flpT_length, hl]), ht, ← hl, sumR_ord ho]
  refine sumR_congr fun k hk => ?_
  rw [flpT_nth p t hk, hu.2 k (by omega)]
/-- The steps as the program puts them: those of the first k axes. -/
def stk (s p : List Int) : Nat → List Int
  | 0 => List.replicate p.length 0
  | k + 1 => (stk s p k).set (nth p k).toNat (stp s k)
theorem stk_length (s p : List Int) : ∀ k, (stk s p k).length = p.length
  | 0 => by simp [stk]
  | k + 1 => by simp [stk, stk_length s p k]
theorem stk_at {s p : List Int} (ho : IsOrd p) : ∀ k, k ≤ p.length → ∀ i, i < k → nth (stk s p k) (nth p i).toNat = stp s i
  | 0, _, i, h => by omega
  | k + 1, hk, i, h => by
    have b := ho.1 k (by omega)
    have bi := ho.1 i (by omega)
    simp only [stk]
    rw [nth_set _ _ _ _ (by rw [stk_length]; omega)]
    by_cases e : i = k
    · rw [if_pos (by rw [e]), e]
    · have hne : (nth p i).toNat ≠ (nth p k).toNat := fun e2 => e (ho.inj (by omega) (by omega) (by omega))
      rw [if_neg hne]
      exact stk_at ho k (by omega) i (by omega)
theorem stk_spec {s p : List Int} (ho : IsOrd p) (hl : p.length = s.length) : StSpec s p (stk s p p.length) :=
  ⟨by rw [stk_length, hl], fun k hk => stk_at ho _ (Nat.le_refl _) k (by omega)⟩
theorem stk_bd {s p : List Int} (hb : ∀ k, 0 ≤ stp s k ∧ stp s k ≤ 1152921504606846976) : ∀ k j, 0 ≤ nth (stk s p k) j ∧ nth (stk s p k) j ≤ 1152921504606846976
  | 0, j => by simp only [stk, nth_replicate]; omega
  | k + 1, j => by
    simp only [stk]
    by_cases h : (nth p k).toNat < (stk s p k).length
    · rw [nth_set _ _ _ _ h]
      split
      · exact hb k
      · exact stk_bd hb k j
    · rw [List.set_eq_of_length_le (by omega)]
      exact stk_bd hb k j
/-! ### What the program reckons of a place -/
def sstep (zs u : List Int) (q : Int × Int) (x : Ax zs.length) : Int × Int := (wrap64 (q.1 + wrap64 (q.2.tmod (nth zs x.1) * nth u x.1)), q.2.tdiv (nth zs x.1))
def srV (zs u : List Int) (p : Int) (pre : List (Ax zs.length)) : Int := (pre.foldl (sstep zs u) (0, p)).1
def srQ (zs u : List Int) (p : Int) (pre : List (Ax zs.length)) : Int := (pre.foldl (sstep zs u) (0, p)).2
theorem srV_snoc (zs u : List Int) (p : Int) (pre : List (Ax zs.length)) (k : Nat) (hk : k < zs.length) : srV zs u p (pre ++ [⟨k, hk⟩]) = wrap64 (srV zs u p pre + wrap64 ((srQ zs u p pre).tmod (nth zs k) * nth u k)) := by
  simp only [srV, srQ, List.foldl_append, List.foldl_cons, List.foldl_nil, sstep]
theorem srQ_snoc (zs u : List Int) (p : Int) (pre : List (Ax zs.length)) (k : Nat) (hk : k < zs.length) : srQ zs u p (pre ++ [⟨k, hk⟩]) = (srQ zs u p pre).tdiv (nth zs k) := by
  simp only [srQ, List.foldl_append, List.foldl_cons, List.foldl_nil, sstep]
theorem srQ_fold_bd {zs u : List Int} (h : AllPos zs) : ∀ (pre : List (Ax zs.length)) (s : Int × Int), 0 ≤ s.2 → 0 ≤ (pre.foldl (sstep zs u) s).2 ∧ (pre.foldl (sstep zs u) s).2 ≤ s.2
  | [], s, hs => ⟨hs, Int.le_refl _⟩
  | x :: pre, s, hs => by
    have hx := h _ (nth_mem zs x.1 x.2)
    have e1 : 0 ≤ s.2.tdiv (nth zs x.1) := Int.tdiv_nonneg hs (by omega)
    have e2 : s.2.tdiv (nth zs x.1) ≤ s.2 := by
      have ed := Int.tmod_add_mul_tdiv s.2 (nth zs x.1)
      have em := Int.tmod_nonneg (nth zs x.1) hs
      have : 1 * s.2.tdiv (nth zs x.1) ≤ nth zs x.1 * s.2.tdiv (nth zs x.1) := Int.mul_le_mul_of_nonneg_right (by omega) e1
      omega
    have ih := srQ_fold_bd (u := u) h pre (sstep zs u s x) e1
    rw [List.foldl_cons]
    have e3 : (sstep zs u s x).2 = s.2.tdiv (nth zs x.1) := rfl
    omega
theorem srQ_bd {zs u : List Int} (h : AllPos zs) {p : Int} (hp : 0 ≤ p) (pre : List (Ax zs.length)) : 0 ≤ srQ zs u p pre ∧ srQ zs u p pre ≤ p := srQ_fold_bd h pre (0, p) hp
theorem dot_wrap {t : List Int} {u : List Int} {x b : Int} : wrap64 (wrap64 (dotL t u) + wrap64 (x * b)) = wrap64 (dotL t u + x * b) := by unfold wrap64; omega
theorem srfold (zs u : List Int) (hl : u.length = zs.length) (p : Int) : (dn zs.length zs.length).foldl (sstep zs u) (0, p) = (wrap64 (dotL (crd zs p).1 u), (crd zs p).2) := by
  have := fold_dn zs.length (sstep zs u) (fun k => (wrap64 (dotL (crd (zs.drop k) p).1 (u.drop k)), (crd (zs.drop k) p).2)) (fun k hk => by
    simp only [sstep]
    rw [drop_nth zs k hk, drop_nth u k (by omega)]
    simp only [crd, dotL, dot_wrap]) zs.length (Nat.le_refl _)
  have e0 : zs.length - zs.length = 0 := by omega
  simpa [crd, dotL, e0, show wrap64 0 = 0 from by unfold wrap64; omega] using this
/-- All that the program needs: what it reckons is the cell's place. -/
theorem sr_place {s s' p u : List Int} (ho : IsOrd p) (hl : p.length = s.length) (ha : AxSpec s p s') (he : errOf s = 0) (hu : StSpec s p u) {j : Nat} (hj : (j : Int) < prod s) :
    ∃ m : Nat, (m : Int) < prod s ∧ srV s' u j (dn s'.length s'.length) = m ∧ place s (flpT p (cr s' j)) = m := by
  have he' := ax_err ho hl ha he
  have hp' := ax_prod ho hl ha
  obtain ⟨h1, h2⟩ := cr_fact (zs := s') (i := j) he' (by omega)
  have hin := flpT_in ho hl ha h1
  have hb := place_bd hin
  have hz := errOf_zero.1 he
  refine ⟨(place s (flpT p (cr s' j))).toNat, by omega, ?_, by omega⟩
  unfold srV
  rw [srfold s' u (by rw [hu.1, ha.1])]
  show wrap64 (dotL (cr s' j) u) = _
  rw [flp_dot ho hl hu (by rw [cr_length, ha.1])]
  unfold wrap64
  omega
theorem prod_le60 : ∀ {s : List Int} (m : Nat), AllIn s → s.length ≤ m → prod s ≤ 4096 ^ m
  | [], m, _, _ => by
    have h : (0 : Int) < 4096 ^ m := Int.pow_pos (by decide)
    exact Int.add_one_le_of_lt h
  | x :: s, 0, _, h => by simp at h
  | x :: s, m + 1, ha, h => by
    have hx := ha x List.mem_cons_self
    have ih := prod_le60 (s := s) m ha.tail (by simpa using h)
    have h0 := prod_nonneg ha.tail
    simp only [prod, Int.pow_succ]
    rw [Int.mul_comm]
    exact Int.mul_le_mul ih hx.2 hx.1 (by omega)
/-- A few lengths' product is not too great. -/
theorem prod_60 {s : List Int} (ha : AllIn s) (h : s.length ≤ 5) : 0 ≤ prod s ∧ prod s ≤ 1152921504606846976 := ⟨prod_nonneg ha, prod_le60 5 ha h⟩
theorem stp_60 {s : List Int} (he : errOf s = 0) (x : Nat) : 0 ≤ stp s x ∧ stp s x ≤ 1152921504606846976 := by
  have hz := errOf_zero.1 he
  exact prod_60 (hz.2.1.drop _) (by rw [List.length_drop]; omega)
theorem prod_take1 (zs : List Int) (k : Nat) (h : k < zs.length) : prod (zs.take (k + 1)) = prod (zs.take k) * nth zs k := by
  rw [List.take_succ_eq_append_getElem h, prod_append, nth_get zs k h]
  simp [prod]
end Go.Proofs.Ytgaelbgeoobgiaa
/-! Cycd: Cells round and round, plain; rows that are filled from their first cell on. -/
namespace Go.Proofs.Ytgaelbgeoobgiaa
open Go.RowKit
set_option linter.unusedVariables false

/-- The cell at a place, round and round. -/
def cyA (zs : List Int) (d : Int) (i : Nat) : Int := if zs.length = 0 then d else nth zs (i % zs.length)
def cyc (zs : List Int) (n : Nat) (d : Int) : List Int := (List.range n).map (cyA zs d)
theorem cyc_length (zs : List Int) (n : Nat) (d : Int) : (cyc zs n d).length = n := by simp [cyc]
theorem cyc_nth (zs : List Int) (n : Nat) (d : Int) {j : Nat} (h : j < n) : nth (cyc zs n d) j = cyA zs d j := by simp [cyc, nth, h]
/-- What stands where there is no cell. -/
def fillE (c : Bool) : Int := if c = true then 32 else 0
/-- A row that is filled as far as k. -/
def upTo (f : Nat → Int) (k j : Nat) : Value := .int .i64 (if j < k then f j else 0)
theorem upTo_set {wr : World} {B : Nat} {t : TypeId} {n : Nat} {f : Nat → Int} {k : Nat} (h : wr.rowIs B t n (upTo f k)) (v : Int) (hv : v = f k) : (wr.setCell ⟨B, k, none⟩ (.int .i64 v)).rowIs B t n (upTo f (k + 1)) := by
  subst hv
  refine (h.set k _).congr fun j hj => ?_
  unfold upTo
  by_cases e : j = k
  · subst e; rw [if_pos rfl, if_pos (by omega)]
  · rw [if_neg e]
    by_cases h2 : j < k
    · rw [if_pos h2, if_pos (by omega)]
    · rw [if_neg h2, if_neg (by omega)]
theorem upTo_new {wr : World} {lo B : Nat} {t : TypeId} {n : Nat} {f : Nat → Int} (h : wr.rowIs B t n (upTo f n)) (hlo : lo ≤ B) (xs : List Int) (hx : xs.length = n) (hf : ∀ j, j < n → nth xs j = f j) : NewInts lo wr (some ⟨B, 0, none⟩) xs := by
  refine .inr ⟨B, 0, rfl, hlo, h.lt, fun j hj => ?_, fun j => h.frozen _⟩
  rw [hx] at hj
  have := h.cell hj
  unfold upTo at this
  rw [if_pos hj] at this
  rw [Nat.zero_add, hf j hj]
  exact this
theorem ret_slice' {a : Option Addr} {n m c : Nat} (h : n = m) : Ending.returned (.slice a n c) = .returned (.slice a m c) := by rw [h]
theorem modN (k n : Nat) : ((k : Int) % (n : Int)) = ((k % n : Nat) : Int) := rfl
end Go.Proofs.Ytgaelbgeoobgiaa
/-! Capi: Slices that have as much room as they are long, at least. -/
namespace Go.Proofs.Ytgaelbgeoobgiaa
open Go.ChangeShapes Go.WideShapes Go.ChangeAt Go.RowKit Go.Deep
set_option linter.unusedVariables false

/-! ### A slice that has as much room as it is long, at least -/
def IsC (n₀ : Nat) (W : World) (a : Option Addr) (zs : List Int) (cap : Nat) : Prop := IsInts n₀ W a zs ∧ zs.length ≤ cap
def NewC (lo : Nat) (W : World) (a : Option Addr) (zs : List Int) (cap : Nat) : Prop := NewInts lo W a zs ∧ zs.length ≤ cap
section
variable {n₀ n₁ lo : Nat} {A B W : World} {a : Option Addr} {zs : List Int} {cap : Nat}
theorem IsC.below (h : Below n₀ A B) (k : IsC n₀ A a zs cap) : IsC n₀ B a zs cap := ⟨k.1.below h, k.2⟩
theorem IsC.mono (h : n₀ ≤ n₁) (k : IsC n₀ A a zs cap) : IsC n₁ A a zs cap := ⟨k.1.mono h, k.2⟩
theorem NewC.ints (h : NewC lo W a zs cap) : IsC W.heap.size W a zs cap := ⟨h.1.ints, h.2⟩
theorem NewC.low {lo' : Nat} (h : lo' ≤ lo) (k : NewC lo W a zs cap) : NewC lo' W a zs cap := ⟨k.1.low h, k.2⟩
theorem NewC.go {W' : World} (hB : Below W.heap.size W W') (h : NewC lo W a zs cap) : NewC lo W' a zs cap := ⟨h.1.go hB, h.2⟩
theorem NewC.set3 {b : Nat} (hb : b < lo) (x y z : Value) (h : NewC lo W a zs cap) : NewC lo (((W.setCell ⟨b, 0, none⟩ x).setCell ⟨b, 1, none⟩ y).setCell ⟨b, 2, none⟩ z) a zs cap := ⟨h.1.set3 hb x y z, h.2⟩
theorem NewC.al (h : NewC lo W a zs cap) (o : Obj) : NewC lo (W.alloc o) a zs cap := ⟨h.1.al o, h.2⟩
theorem NewC.dr (h : NewC lo W a zs cap) : NewC lo W.drew a zs cap := h
theorem IsInts.c (h : IsInts n₀ W a zs) (k : zs.length ≤ cap) : IsC n₀ W a zs cap := ⟨h, k⟩
end
theorem own_cap {w : World} {base : Nat} {e : TypeId} {v : Value} {n : Nat} {xs : List Int} (h : w.ownsRow base e 1 v n (xs.map (Value.int .i64))) :
    ∃ g cap, v = .slice g xs.length cap ∧ NewC base w g xs cap := by
  obtain ⟨g, cap, rfl, hN⟩ := owns_new h
  refine ⟨g, cap, rfl, hN, ?_⟩
  rcases h.2 with ⟨e1, _⟩ | ⟨g', cap', cur, e1, _, _, h1, _⟩
  · simp only [Value.slice.injEq] at e1; omega
  · simp only [Value.slice.injEq] at e1; have := h.1; simp only [List.length_map] at this; omega
/-- The lengths and the cells of an array that came in, and that its shape has room. -/
def IsArrC (W : World) (sa : Option Addr) (sz : List Int) (sc : Nat) (da : Option Addr) (dz : List Int) : Prop :=
  sz.length ≤ 9223372036854775807 ∧ dz.length ≤ 9223372036854775807 ∧ IsC W.heap.size W sa sz sc ∧ IsInts W.heap.size W da dz ∧ (∀ j, In64 (nth sz j)) ∧ ∀ j, In64 (nth dz j)
theorem IsArrC.arr {W : World} {sa : Option Addr} {sz : List Int} {sc : Nat} {da : Option Addr} {dz : List Int} (h : IsArrC W sa sz sc da dz) : IsArr W sa sz da dz := ⟨h.1, h.2.1, h.2.2.1.1, h.2.2.2⟩
set_option maxRecDepth 100000 in
theorem open_slC {H : Type} {enc : TypeId × Value → H} {W : World} {fuel : Nat} {x : Value} {y : DataW H × List MemPlace} (h : DataW.trod enc Try.prog W 0 (fun _ => true) true fuel 22 [x] = some y) :
    ∃ (a : Option Addr) (c : Nat) (z : List Int), x = .slice a z.length c ∧ z.length ≤ 9223372036854775807 ∧ IsInts W.heap.size W a z ∧ (∀ j, In64 (nth z j)) ∧ z.length ≤ c := by
  rcases open_ints Try.underlying22 Try.underlying3 (by kernel_rfl) h with ⟨hcs, _⟩ | ⟨x', l, c, zs, hcs, _, hl, hm, hz, _, hcell, hwz⟩
  · obtain rfl := (List.cons.inj hcs).1
    exact ⟨none, 0, [], rfl, by simp, .inl rfl, fun j => by rw [nth_nil]; unfold In64; decide, Nat.le_refl _⟩
  · obtain rfl := (List.cons.inj hcs).1
    obtain ⟨z, hz1, hz2, hz3, hz4⟩ := row_ints (w := W) (a := some x') (len := l) (cap := c) (z := zs) (.inr ⟨x', rfl, hl, hm, by simpa using hz, hcell, hwz⟩)
    exact ⟨some x', c, z, by rw [hz1], hz2, hz3, hz4, by omega⟩
set_option maxRecDepth 100000 in
theorem open_arrC {H : Type} {enc : TypeId × Value → H} {W : World} {base : Nat} {v : Value} {d : DataW H} {p : List MemPlace} (hv : Value.okWide Try.prog W .any base 24 v)
    (h : DataW.Trod enc Try.prog W 0 (fun _ => true) true 24 v d p) :
    ∃ (c : Bool) (sa : Option Addr) (sc : Nat) (sz : List Int) (da : Option Addr) (dc : Nat) (dz : List Int), v = .agg #[.bool c, .slice sa sz.length sc, .slice da dz.length dc] ∧ IsArrC W sa sz sc da dz := by
  obtain ⟨cs, rfl, hsz⟩ := okWide_struct Try.underlying24 hv
  rw [show Try.prog.cellsOf 24 = 3 by kernel_rfl] at hsz
  obtain ⟨x0, x1, x2, rfl⟩ := three hsz
  obtain ⟨fuel, hf⟩ := h
  obtain ⟨y0, y1, y2, n, _, _, h0, h1, h2⟩ := trod_struct3 Try.underlying24 hf
  have e0 : DataW.trod enc Try.prog W 0 (fun _ => true) true n 4 [x0] = some y0 := by
    have := h0
    rw [show Try.prog.cellsOf 4 = 1 by kernel_rfl] at this
    exact this
  have e1 : DataW.trod enc Try.prog W 0 (fun _ => true) true n 22 [x1] = some y1 := by
    have := h1
    rw [show Try.prog.cellsOf 22 = 1 by kernel_rfl] at this
    exact this
  have e2 : DataW.trod enc Try.prog W 0 (fun _ => true) true n 22 [x2] = some y2 := by
    have := h2
    rw [show Try.prog.cellsOf 22 = 1 by kernel_rfl] at this
    exact this
  obtain ⟨sa, sc, sz, rfl, s1, s2, s3, s4⟩ := open_slC e1
  obtain ⟨da, dc, dz, rfl, d1, d2, d3, d4⟩ := open_slC e2
  obtain ⟨c, hc, _⟩ := DataW.trod_bool Try.underlying4 e0
  obtain rfl := (List.cons.inj hc).1
  exact ⟨c, sa, sc, sz, da, dc, dz, rfl, s1, d1, ⟨s2, s4⟩, d2, s3, d3⟩
end Go.Proofs.Ytgaelbgeoobgiaa
/-! Turnq: Answers of the turns in one form. -/
namespace Go.Proofs.Ytgaelbgeoobgiaa
open Go.RowKit
set_option linter.unusedVariables false

/-! ### Errors and answers -/
/-- Is there such an axis? -/
def axE (x : Int) (c : Bool) (sz dz : List Int) : Int := if flawE c sz dz ≠ 0 then flawE c sz dz else if x < 0 ∨ (sz.length : Int) ≤ x then 5 else 0
def flE (p : List Int) (c : Bool) (sz dz : List Int) : Int := if flawE c sz dz ≠ 0 then flawE c sz dz else axErr sz p
/-- Only where nothing is wrong. -/
def onl (e : Int) (xs : List Int) : List Int := if e = 0 then xs else []
def onc (e : Int) (c : Bool) : Bool := if e = 0 then c else false
theorem onl_ok {e : Int} (h : e = 0) (xs : List Int) : onl e xs = xs := if_pos h
theorem onl_no {e : Int} (h : e ≠ 0) (xs : List Int) : onl e xs = [] := if_neg h
theorem onc_ok {e : Int} (h : e = 0) (c : Bool) : onc e c = c := if_pos h
theorem onc_no {e : Int} (h : e ≠ 0) (c : Bool) : onc e c = false := if_neg h
theorem axE_zero {x : Int} {c : Bool} {sz dz : List Int} : axE x c sz dz = 0 ↔ flawE c sz dz = 0 ∧ 0 ≤ x ∧ x.toNat < sz.length := by
  unfold axE
  by_cases h : flawE c sz dz = 0
  · rw [if_neg (by simpa using h)]
    by_cases h2 : x < 0 ∨ (sz.length : Int) ≤ x
    · rw [if_pos h2]; exact ⟨fun e => absurd e (by decide), fun e => by omega⟩
    · rw [if_neg h2]; exact ⟨fun _ => ⟨h, by omega, by omega⟩, fun _ => rfl⟩
  · rw [if_pos h]; exact ⟨fun e => absurd e h, fun e => absurd e.1 h⟩
theorem flE_zero {p : List Int} {c : Bool} {sz dz : List Int} : flE p c sz dz = 0 ↔ flawE c sz dz = 0 ∧ p.length = sz.length ∧ IsOrd p := by
  unfold flE
  by_cases h : flawE c sz dz = 0
  · rw [if_neg (by simpa using h), axErr_zero]
    exact ⟨fun e => ⟨h, e.2.1, e.2.2⟩, fun e => ⟨(flawE_zero h).1, e.2.1, e.2.2⟩⟩
  · rw [if_pos h]; exact ⟨fun e => absurd e h, fun e => absurd e.1 h⟩
section
variable (x n : Int) (p : List Int) (c : Bool) (sz dz : List Int)
def rvD5 : List Int := onl (axE x c sz dz) (GA sz dz sz (revT sz x.toNat))
def rtD5 : List Int := onl (axE x c sz dz) (GA sz dz sz (rotT sz n x.toNat))
def axS5 : List Int := onl (axE x c sz dz) sz
def flS5 : List Int := onl (flE p c sz dz) (axVal sz p)
def flD5 : List Int := onl (flE p c sz dz) (GA sz dz (axVal sz p) (flpT p))
end
/-- An array and an error, whichever it is. -/
def UA (e : Int) (c : Bool) (S D : List Int) (w : World) (r : Ending) (w' : World) : Prop :=
  ∃ xa xc ya yc, r = .returned (.tuple #[.agg #[.bool c, .slice xa S.length xc, .slice ya D.length yc], errV e]) ∧ NewC w.heap.size w' xa S xc ∧ NewInts w.heap.size w' ya D ∧ Below w.heap.size w w'
/-- The contract of turn.Flip. -/
def CFl : Prop := ∀ (pa : Option Addr) (pc : Nat) (p : List Int) (c : Bool) (sa : Option Addr) (sc : Nat) (sz : List Int) (da : Option Addr) (dc : Nat) (dz : List Int) (w : World), p.length ≤ 9223372036854775807 → sz.length ≤ 9223372036854775807 → dz.length ≤ 9223372036854775807 → IsInts w.heap.size w pa p → IsC w.heap.size w sa sz sc → IsInts w.heap.size w da dz → (∀ j, In64 (nth dz j)) →
  Calls Try.prog 12 #[.slice pa p.length pc, .agg #[.bool c, .slice sa sz.length sc, .slice da dz.length dc]] w (UA (flE p c sz dz) (onc (flE p c sz dz) c) (flS5 p c sz dz) (flD5 p c sz dz) w)
end Go.Proofs.Ytgaelbgeoobgiaa
/-! Cutm: Plain mathematics of arrays told cell by cell: fewer cells, and more; nothing of the program. -/
namespace Go.Proofs.Ytgaelbgeoobgiaa
open Go.RowKit
set_option linter.unusedVariables false

/-- The cell at these indices. -/
def cel (s dz t : List Int) : Int := nth dz (place s t).toNat
/-- The array of this shape whose cell at indices t is f t. -/
def TA (s : List Int) (f : List Int → Int) : List Int := (List.range (prod s).toNat).map fun i => f (cr s i)
section
variable {s s' dz xs : List Int} {f g : List Int → Int}
theorem GA_TA (s dz s' : List Int) (src : List Int → List Int) : GA s dz s' src = TA s' (fun t => cel s dz (src t)) := rfl
theorem TA_length : (TA s f).length = (prod s).toNat := by simp [TA]
theorem TA_nth {i : Nat} (h : i < (prod s).toNat) : nth (TA s f) i = f (cr s i) := by simp [TA, nth, h]
theorem TA_at (he : errOf s = 0) {t : List Int} (ht : insB s t = true) : cel s (TA s f) t = f t := by
  have h := cr_place he ht
  unfold cel
  rw [TA_nth h.2, h.1]
theorem TA_ext (he : errOf s = 0) (hl : xs.length = (prod s).toNat) (h : ∀ t, insB s t = true → cel s xs t = f t) : xs = TA s f := by
  refine nth_ext (by rw [hl, TA_length]) fun i hi => ?_
  rw [hl] at hi
  have hc := cr_in he hi
  have h' := h _ hc.1
  unfold cel at h'
  rw [hc.2, Int.toNat_natCast] at h'
  rw [TA_nth hi, h']
theorem TA_congr (he : errOf s = 0) (h : ∀ t, insB s t = true → f t = g t) : TA s f = TA s g :=
  TA_ext he TA_length fun t ht => by rw [TA_at he ht, h t ht]
theorem TA_self (he : errOf s = 0) (hd : (dz.length : Int) = prod s) : TA s (cel s dz) = dz := (TA_ext he (by omega) fun _ _ => rfl).symm
theorem TA_is (he : errOf s = 0) (hd : (dz.length : Int) = prod s) (h : ∀ t, insB s t = true → f t = cel s dz t) : TA s f = dz := by rw [TA_congr he h, TA_self he hd]
theorem TA_len (he : errOf s = 0) : ((TA s f).length : Int) = prod s := by
  have := prod_nonneg (errOf_zero.1 he).2.1
  rw [TA_length]; omega
theorem TA_mem {x : Int} (he : errOf s = 0) (hx : x ∈ TA s f) : ∃ t, insB s t = true ∧ x = f t := by
  obtain ⟨j, hj, rfl⟩ := List.mem_iff_getElem.1 hx
  have hj' : j < (prod s).toNat := by rwa [TA_length] at hj
  exact ⟨_, (cr_in he hj').1, by rw [← nth_get _ j hj, TA_nth hj']⟩
theorem TA_flaw {c : Bool} (he : errOf s = 0) (h : c = true → ∀ t, insB s t = true → chOk (f t) = true) : flawE c s (TA s f) = 0 := by
  cases c
  · exact flawE_okn he (TA_len he)
  · refine flawE_okc he (TA_len he) ?_
    unfold chAll
    rw [List.all_eq_true]
    intro x hx
    obtain ⟨t, ht, rfl⟩ := TA_mem he hx
    exact h rfl t ht
theorem TA_64 (he : errOf s = 0) (h : ∀ t, insB s t = true → In64 (f t)) : ∀ j, In64 (nth (TA s f) j) := fun j => by
  by_cases hj : j < (prod s).toNat
  · rw [TA_nth hj]; exact h _ (cr_in he hj).1
  · have : nth (TA s f) j = 0 := by simp [nth, List.getElem?_eq_none (show (TA s f).length ≤ j by rw [TA_length]; omega)]
    rw [this]; unfold In64; decide
theorem cel_ch {c : Bool} (hf : flawE c s dz = 0) (hc : c = true) {t : List Int} (ht : insB s t = true) : chOk (cel s dz t) = true := by
  obtain ⟨h1, h2, h3⟩ := flawE_zero hf
  have hb := place_bd ht
  have := h3 hc
  unfold chAll at this
  exact List.all_eq_true.1 this _ (nth_mem dz _ (by omega))
theorem fill_ch {c : Bool} (hc : c = true) : chOk (fillE c) = true := by subst hc; decide
theorem fill_64 (c : Bool) : In64 (fillE c) := by cases c <;> (unfold In64; decide)
theorem cel_64 (T : ∀ j, In64 (nth dz j)) (t : List Int) : In64 (cel s dz t) := T _
end
/-! ### A part of an array -/
def addL (t u : List Int) : List Int := (List.range t.length).map fun k => nth t k + nth u k
theorem addL_length (t u : List Int) : (addL t u).length = t.length := by simp [addL]
theorem addL_nth (t u : List Int) {k : Nat} (h : k < t.length) : nth (addL t u) k = nth t k + nth u k := by simp [addL, nth, h]
/-- What stands at indices t of the part that begins at u: fills outside. -/
def ptC (c : Bool) (s dz u t : List Int) : Int := if insB s (addL t u) = true then cel s dz (addL t u) else fillE c
def ptD (c : Bool) (s dz s' u : List Int) : List Int := TA s' (ptC c s dz u)
theorem pt_flaw {c : Bool} {s dz s' u : List Int} (hf : flawE c s dz = 0) (he : errOf s' = 0) : flawE c s' (ptD c s dz s' u) = 0 := TA_flaw he fun hc t ht => by
  unfold ptC
  split
  · rename_i h; exact cel_ch hf hc h
  · exact fill_ch hc
theorem pt_64 {c : Bool} {s dz s' u : List Int} (he : errOf s' = 0) (T : ∀ j, In64 (nth dz j)) : ∀ j, In64 (nth (ptD c s dz s' u) j) := TA_64 he fun t ht => by
  unfold ptC
  split
  · exact cel_64 T _
  · exact fill_64 c
/-! ### Take -/
def tks (x : Int) : Int := if 0 ≤ x then x else -x
def tkS (n : List Int) : List Int := n.map tks
def tkU (s n : List Int) : List Int := (List.range n.length).map fun k => if 0 ≤ nth n k then 0 else nth s k + nth n k
def tkBig (n : List Int) : Bool := n.any fun x => decide (4096 < x) || decide (x < -4096)
def tkE (n : List Int) (c : Bool) (s dz : List Int) : Int := if flawE c s dz ≠ 0 then flawE c s dz else if n.length ≠ s.length then 4 else if tkBig n = true then 7 else errOf (tkS n)
def tkD (n : List Int) (c : Bool) (s dz : List Int) : List Int := ptD c s dz (tkS n) (tkU s n)
theorem tkS_length (n : List Int) : (tkS n).length = n.length := by simp [tkS]
theorem tkS_nth (n : List Int) {k : Nat} (h : k < n.length) : nth (tkS n) k = tks (nth n k) := by simp [tkS, nth, h]
theorem tkU_length (s n : List Int) : (tkU s n).length = n.length := by simp [tkU]
theorem tkU_nth (s n : List Int) {k : Nat} (h : k < n.length) : nth (tkU s n) k = if 0 ≤ nth n k then 0 else nth s k + nth n k := by simp [tkU, nth, h]
theorem tkE_zero {n : List Int} {c : Bool} {s dz : List Int} : tkE n c s dz = 0 ↔ flawE c s dz = 0 ∧ n.length = s.length ∧ tkBig n = false ∧ errOf (tkS n) = 0 := by
  unfold tkE
  by_cases h : flawE c s dz = 0
  · rw [if_neg (by simpa using h)]
    by_cases h1 : n.length = s.length
    · rw [if_neg (by simpa using h1)]
      cases h2 : tkBig n
      · simp [h, h1]
      · simp
    · rw [if_pos h1]; exact ⟨fun e => absurd e (by decide), fun e => absurd e.2.1 h1⟩
  · rw [if_pos h]; exact ⟨fun e => absurd e h, fun e => absurd e.1 h⟩
/-! ### Drop -/
def drs (l x : Int) : Int := if l ≤ x ∨ x ≤ -l then (if x = 0 then l else 0) else if 0 ≤ x then l - x else l + x
def dru (l x : Int) : Int := if l ≤ x ∨ x ≤ -l then 0 else if 0 ≤ x then x else 0
def drS (s n : List Int) : List Int := (List.range n.length).map fun k => drs (nth s k) (nth n k)
def drU (s n : List Int) : List Int := (List.range n.length).map fun k => dru (nth s k) (nth n k)
def drE (n : List Int) (c : Bool) (s dz : List Int) : Int := if flawE c s dz ≠ 0 then flawE c s dz else if n.length ≠ s.length then 4 else 0
def drD (n : List Int) (c : Bool) (s dz : List Int) : List Int := ptD c s dz (drS s n) (drU s n)
theorem drS_length (s n : List Int) : (drS s n).length = n.length := by simp [drS]
theorem drS_nth (s n : List Int) {k : Nat} (h : k < n.length) : nth (drS s n) k = drs (nth s k) (nth n k) := by simp [drS, nth, h]
theorem drU_length (s n : List Int) : (drU s n).length = n.length := by simp [drU]
theorem drU_nth (s n : List Int) {k : Nat} (h : k < n.length) : nth (drU s n) k = dru (nth s k) (nth n k) := by simp [drU, nth, h]
theorem drE_zero {n : List Int} {c : Bool} {s dz : List Int} : drE n c s dz = 0 ↔ flawE c s dz = 0 ∧ n.length = s.length := by
  unfold drE
  by_cases h : flawE c s dz = 0
  · rw [if_neg (by simpa using h)]
    by_cases h1 : n.length = s.length
    · rw [if_neg (by simpa using h1)]; simp [h, h1]
    · rw [if_pos h1]; exact ⟨fun e => absurd e (by decide), fun e => absurd e.2 h1⟩
  · rw [if_pos h]; exact ⟨fun e => absurd e h, fun e => absurd e.1 h⟩
theorem drs_bd {l x : Int} (h : 0 ≤ l) : 0 ≤ drs l x ∧ drs l x ≤ l := by unfold drs; repeat' split
                                                                         all_goals omega
/-- Shorter axes have no more cells. -/
theorem prod_mono : ∀ {a b : List Int}, a.length = b.length → (∀ k, k < a.length → 0 ≤ nth a k ∧ nth a k ≤ nth b k) → 0 ≤ prod a ∧ prod a ≤ prod b
  | [], [], _, _ => by simp [prod]
  | [], _ :: _, h, _ => by simp at h
  | _ :: _, [], h, _ => by simp at h
  | x :: a, y :: b, hl, h => by
    have h0 := h 0 (by simp)
    rw [nth_zero, nth_zero] at h0
    have ih := prod_mono (a := a) (b := b) (by simpa using hl) fun k hk => by have := h (k + 1) (by simpa using hk); rwa [nth_succ, nth_succ] at this
    simp only [prod]
    exact ⟨Int.mul_nonneg h0.1 ih.1, Int.mul_le_mul h0.2 ih.2 ih.1 (by omega)⟩
theorem all_in {s : List Int} (h : ∀ k, k < s.length → 0 ≤ nth s k ∧ nth s k ≤ 4096) : AllIn s := fun x hx => by
  obtain ⟨j, hj, rfl⟩ := List.mem_iff_getElem.1 hx
  rw [← nth_get s j hj]; exact h j hj
theorem err_mono {a b : List Int} (hl : a.length = b.length) (h : ∀ k, k < a.length → 0 ≤ nth a k ∧ nth a k ≤ nth b k) (he : errOf b = 0) : errOf a = 0 := by
  have hb := errOf_zero.1 he
  have hp := prod_mono hl h
  exact errOf_zero.2 ⟨by omega, all_in fun k hk => by have := h k hk; have := hb.2.1.nth k; omega, by omega⟩
theorem dr_err {n : List Int} {c : Bool} {s dz : List Int} (h : drE n c s dz = 0) : errOf (drS s n) = 0 := by
  obtain ⟨h1, h2⟩ := drE_zero.1 h
  have he := (flawE_zero h1).1
  have hb := errOf_zero.1 he
  refine err_mono (b := s) (by rw [drS_length, h2]) (fun k hk => ?_) he
  rw [drS_length] at hk
  rw [drS_nth s n hk]
  exact drs_bd (hb.2.1.nth k).1
/-! ### Join -/
def othB (x : Nat) (s s' : List Int) : Bool := (List.range s.length).all fun k => decide (k = x) || nth s k == nth s' k
def jnS (x : Nat) (s s' : List Int) : List Int := s.set x (nth s x + nth s' x)
def jnC (x : Nat) (s dz s' dz' t : List Int) : Int := if nth t x < nth s x then cel s dz t else cel s' dz' (t.set x (nth t x - nth s x))
def jnD (x : Nat) (s dz s' dz' : List Int) : List Int := TA (jnS x s s') (jnC x s dz s' dz')
def jnE (x : Int) (c : Bool) (s dz : List Int) (c' : Bool) (s' dz' : List Int) : Int :=
  if flawE c s dz ≠ 0 then flawE c s dz else if flawE c' s' dz' ≠ 0 then flawE c' s' dz' else if s.length ≠ s'.length then 3 else if x < 0 ∨ (s.length : Int) ≤ x then 5 else if othB x.toNat s s' = false then 4 else if c ≠ c' then 6 else errOf (jnS x.toNat s s')
theorem othB_iff {x : Nat} {s s' : List Int} : othB x s s' = true ↔ ∀ k, k < s.length → k ≠ x → nth s k = nth s' k := by
  unfold othB
  simp only [List.all_eq_true, List.mem_range, Bool.or_eq_true, decide_eq_true_eq, beq_iff_eq]
  exact ⟨fun h k hk hn => (h k hk).resolve_left hn, fun h k hk => by by_cases e : k = x; · exact .inl e
                                                                     · exact .inr (h k hk e)⟩
theorem jnE_zero {x : Int} {c : Bool} {s dz : List Int} {c' : Bool} {s' dz' : List Int} : jnE x c s dz c' s' dz' = 0 ↔ flawE c s dz = 0 ∧ flawE c' s' dz' = 0 ∧ s.length = s'.length ∧ 0 ≤ x ∧ x.toNat < s.length ∧ othB x.toNat s s' = true ∧ c = c' ∧ errOf (jnS x.toNat s s') = 0 := by
  unfold jnE
  by_cases h1 : flawE c s dz = 0
  · rw [if_neg (by simpa using h1)]
    by_cases h2 : flawE c' s' dz' = 0
    · rw [if_neg (by simpa using h2)]
      by_cases h3 : s.length = s'.length
      · rw [if_neg (by simpa using h3)]
        by_cases h4 : x < 0 ∨ (s.length : Int) ≤ x
        · rw [if_pos h4]; exact ⟨fun e => absurd e (by decide), fun e => by omega⟩
        · rw [if_neg h4]
          cases h5 : othB x.toNat s s'
          · simp
          · rw [if_neg (by simp)]
            by_cases h6 : c = c'
            · rw [if_neg (by simpa using h6)]
              exact ⟨fun e => ⟨h1, h2, h3, by omega, by omega, rfl, h6, e⟩, fun e => e.2.2.2.2.2.2.2⟩
            · rw [if_pos h6]; exact ⟨fun e => absurd e (by decide), fun e => absurd e.2.2.2.2.2.2.1 h6⟩
      · rw [if_pos h3]; exact ⟨fun e => absurd e (by decide), fun e => absurd e.2.2.1 h3⟩
    · rw [if_pos h2]; exact ⟨fun e => absurd e h2, fun e => absurd e.2.1 h2⟩
  · rw [if_pos h1]; exact ⟨fun e => absurd e h1, fun e => absurd e.1 h1⟩
/-! ### Masks -/
def mskB (m : List Int) : Bool := m.all fun x => x == 0 || x == 1
theorem mskB_nth {m : List Int} (h : mskB m = true) {j : Nat} (hj : j < m.length) : nth m j = 0 ∨ nth m j = 1 := by
  unfold mskB at h
  have := List.all_eq_true.1 h _ (nth_mem m j hj)
  simpa using this
/-- How many 1 there are ahead of an index. -/
def rnk (m : List Int) (i : Nat) : Int := sumI (m.take i)
theorem sumI_append (a b : List Int) : sumI (a ++ b) = sumI a + sumI b := by
  induction a with
  | nil => simp [sumI]
  | cons x r ih => simp only [List.cons_append, sumI, ih]; omega
theorem rnk_zero (m : List Int) : rnk m 0 = 0 := rfl
theorem rnk_succ (m : List Int) {i : Nat} (h : i < m.length) : rnk m (i + 1) = rnk m i + nth m i := by
  unfold rnk
  rw [List.take_succ_eq_append_getElem h, sumI_append, nth_get m i h]
  simp [sumI]
theorem rnk_all (m : List Int) : rnk m m.length = sumI m := by unfold rnk; rw [List.take_length]
theorem rnk_bd {m : List Int} (h : mskB m = true) : ∀ i, i ≤ m.length → 0 ≤ rnk m i ∧ rnk m i ≤ i
  | 0, _ => by simp [rnk_zero]
  | i + 1, hi => by
    have ih := rnk_bd h i (by omega)
    have := mskB_nth h (j := i) (by omega)
    rw [rnk_succ m (by omega)]
    omega
theorem rnk_mono {m : List Int} (h : mskB m = true) {i : Nat} : ∀ d, i + d ≤ m.length → rnk m i ≤ rnk m (i + d)
  | 0, _ => Int.le_refl _
  | d + 1, hd => by
    have ih := rnk_mono h (i := i) d (by omega)
    have := mskB_nth h (j := i + d) (by omega)
    rw [← Nat.add_assoc, rnk_succ m (by omega)]
    omega
theorem rnk_le {m : List Int} (h : mskB m = true) {i j : Nat} (hij : i ≤ j) (hj : j ≤ m.length) : rnk m i ≤ rnk m j := by
  have := rnk_mono h (i := i) (j - i) (by omega)
  rwa [show i + (j - i) = j by omega] at this
/-- The index of the 1 that has so many ahead of it (the length where there is none). -/
def pos1 : List Int → Nat → Nat
  | [], _ => 0
  | x :: m, j => if x = 1 then (match j with | 0 => 0 | j + 1 => pos1 m j + 1) else pos1 m j + 1
theorem pos1_fact : ∀ {m : List Int} {j : Nat}, mskB m = true → (j : Int) < sumI m → pos1 m j < m.length ∧ nth m (pos1 m j) = 1 ∧ rnk m (pos1 m j) = j
  | [], j, _, h => by simp [sumI] at h; omega
  | x :: m, j, hm, h => by
    have hx : x = 0 ∨ x = 1 := mskB_nth hm (j := 0) (by simp)
    have hm' : mskB m = true := by unfold mskB at *; simp only [List.all_cons, Bool.and_eq_true] at hm; exact hm.2
    simp only [sumI] at h
    have rs : ∀ i, rnk (x :: m) (i + 1) = x + rnk m i := fun i => by unfold rnk; rw [List.take_succ_cons]; rfl
    rcases hx with rfl | rfl
    · have ih := pos1_fact (m := m) (j := j) hm' (by omega)
      simp only [pos1, Int.reduceEq, if_false] at *
      refine ⟨by simp only [List.length_cons]; omega, by rw [nth_succ]; exact ih.2.1, by rw [rs, ih.2.2]; omega⟩
    · cases j with
      | zero => simp only [pos1, if_true]; exact ⟨by simp, rfl, rfl⟩
      | succ j =>
        have ih := pos1_fact (m := m) (j := j) hm' (by omega)
        simp only [pos1, if_true]
        refine ⟨by simp only [List.length_cons]; omega, by rw [nth_succ]; exact ih.2.1, by rw [rs, ih.2.2]; omega⟩
theorem rnk_inj {m : List Int} (h : mskB m = true) {i j : Nat} (hi : i < m.length) (hj : j < m.length) (ni : nth m i = 1) (nj : nth m j = 1) (e : rnk m i = rnk m j) : i = j := by
  by_cases h1 : i < j
  · have := rnk_le h (i := i + 1) (j := j) h1 (by omega)
    rw [rnk_succ m hi] at this; omega
  · by_cases h2 : j < i
    · have := rnk_le h (i := j + 1) (j := i) h2 (by omega)
      rw [rnk_succ m hj] at this; omega
    · omega
theorem pos1_rnk {m : List Int} (h : mskB m = true) {i : Nat} (hi : i < m.length) (ni : nth m i = 1) : pos1 m (rnk m i).toNat = i := by
  have h0 := rnk_bd h i (by omega)
  have h1 := rnk_le h (i := i + 1) (j := m.length) (by omega) (Nat.le_refl _)
  rw [rnk_succ m hi, rnk_all] at h1
  have hp := pos1_fact (m := m) (j := (rnk m i).toNat) h (by omega)
  exact rnk_inj h hp.1 hi hp.2.1 ni (by omega)
/-! ### Keep, Spread -/
def kpS (m : List Int) (x : Nat) (s : List Int) : List Int := s.set x (sumI m)
def kpT (m : List Int) (x : Nat) (t : List Int) : List Int := t.set x (pos1 m (nth t x).toNat : Nat)
def kpD (m : List Int) (x : Nat) (s dz : List Int) : List Int := TA (kpS m x s) (fun t => cel s dz (kpT m x t))
def kpE (m : List Int) (x : Int) (c : Bool) (s dz : List Int) : Int := if axE x c s dz ≠ 0 then axE x c s dz else if (m.length : Int) ≠ nth s x.toNat then 4 else if mskB m = false then 6 else 0
def spS (m : List Int) (x : Nat) (s : List Int) : List Int := s.set x m.length
def spC (m : List Int) (x : Nat) (c : Bool) (s dz t : List Int) : Int := if nth m (nth t x).toNat = 0 then fillE c else cel s dz (t.set x (rnk m (nth t x).toNat))
def spD (m : List Int) (x : Nat) (c : Bool) (s dz : List Int) : List Int := TA (spS m x s) (spC m x c s dz)
def spE (m : List Int) (x : Int) (c : Bool) (s dz : List Int) : Int := if axE x c s dz ≠ 0 then axE x c s dz else if mskB m = false then 6 else if sumI m ≠ nth s x.toNat then 4 else errOf (spS m x.toNat s)
end Go.Proofs.Ytgaelbgeoobgiaa
/-! Cutl: Plain mathematics: heads and tails, arrays joined; nothing of the program. -/
namespace Go.Proofs.Ytgaelbgeoobgiaa
open Go.RowKit
set_option linter.unusedVariables false

section
variable {s t : List Int} {x : Nat} {v : Int}
theorem insS (hx : x < s.length) : insB (s.set x v) t = true ↔ t.length = s.length ∧ (∀ k, k < s.length → k ≠ x → 0 ≤ nth t k ∧ nth t k < nth s k) ∧ 0 ≤ nth t x ∧ nth t x < v := by
  constructor
  · intro h
    have hl := insB_len h
    rw [List.length_set] at hl
    have h' := (insB_iff (by rw [List.length_set]; exact hl)).1 h
    rw [List.length_set] at h'
    refine ⟨hl, fun k hk hn => ?_, ?_⟩
    · have := h' k hk
      rwa [nth_set _ _ _ _ hx, if_neg hn] at this
    · have := h' x hx
      rwa [nth_set _ _ _ _ hx, if_pos rfl] at this
  · rintro ⟨hl, h1, h2⟩
    rw [insB_iff (by rw [List.length_set]; exact hl), List.length_set]
    intro k hk
    rw [nth_set _ _ _ _ hx]
    split
    · rename_i e; subst e; exact h2
    · rename_i e; exact h1 k hk e
theorem ins_all (h : insB s t = true) : t.length = s.length ∧ ∀ k, k < s.length → 0 ≤ nth t k ∧ nth t k < nth s k := ⟨insB_len h, fun k hk => ins_at h hk⟩
theorem ins_mk (hl : t.length = s.length) (h : ∀ k, k < s.length → 0 ≤ nth t k ∧ nth t k < nth s k) : insB s t = true := (insB_iff hl).2 h
theorem set_get (hx : x < s.length) (h : v = nth s x) : s.set x v = s := by
  refine nth_ext (by simp) fun k hk => ?_
  rw [nth_set _ _ _ _ hx]
  split
  · rename_i e; rw [e, h]
  · rfl
theorem set_set (u : Int) : (s.set x u).set x v = s.set x v := by simp
theorem nth_set_self (hx : x < s.length) : nth (s.set x v) x = v := by rw [nth_set _ _ _ _ hx, if_pos rfl]
theorem nth_set_ne (hx : x < s.length) {k : Nat} (h : k ≠ x) : nth (s.set x v) k = nth s k := by rw [nth_set _ _ _ _ hx, if_neg h]
theorem err_set (he : errOf s = 0) (hx : x < s.length) (h0 : 0 ≤ v) (h1 : v ≤ nth s x) : errOf (s.set x v) = 0 := by
  have hb := errOf_zero.1 he
  refine err_mono (b := s) (by simp) (fun k hk => ?_) he
  rw [nth_set _ _ _ _ hx]
  split
  · rename_i e; subst e; exact ⟨h0, h1⟩
  · have := hb.2.1.nth k; omega
/-- The product, one axis apart. -/
def rest (s : List Int) (x : Nat) : Int := prod (s.take x) * prod (s.drop (x + 1))
theorem prod_set (hx : x < s.length) (v : Int) : prod (s.set x v) = v * rest s x := by
  have e := al_split (s.set x v) (x := x) (by rw [List.length_set]; exact hx)
  rw [nth_set_self hx] at e
  have e1 : (s.set x v).take x = s.take x := by
    rw [List.take_set]
    exact List.set_eq_of_length_le (by rw [List.length_take]; omega)
  have e2 : stp (s.set x v) x = prod (s.drop (x + 1)) := by
    unfold stp
    rw [List.drop_set]
    simp
  rw [e, e1, e2]
  unfold rest
  rw [← Int.mul_assoc, Int.mul_comm (prod (s.take x)) v, Int.mul_assoc]
theorem prod_get (hx : x < s.length) : prod s = nth s x * rest s x := by
  have := prod_set hx (nth s x)
  rwa [set_get hx rfl] at this
end
/-! ### Head and tail -/
def zer (n : Nat) : List Int := List.replicate n 0
theorem zer_nth (n k : Nat) : nth (zer n) k = 0 := nth_replicate n k
section
variable {c : Bool} {s dz : List Int} {x : Nat} {n : Int}
theorem add_zer (t u : List Int) (h : ∀ k, k < t.length → nth u k = 0) : addL t u = t :=
  nth_ext (addL_length t u) fun k hk => by rw [addL_length] at hk; rw [addL_nth t u hk, h k hk]; omega
theorem tk_head (hf : flawE c s dz = 0) (hx : x < s.length) (h0 : 0 ≤ n) (h1 : n ≤ nth s x) : tkE (s.set x n) c s dz = 0 ∧ tkS (s.set x n) = s.set x n ∧ tkD (s.set x n) c s dz = TA (s.set x n) (cel s dz) := by
  have he := (flawE_zero hf).1
  have hb := errOf_zero.1 he
  have hn : ∀ k, k < (s.set x n).length → 0 ≤ nth (s.set x n) k ∧ nth (s.set x n) k ≤ 4096 := fun k hk => by
    rw [nth_set _ _ _ _ hx]
    have := hb.2.1.nth k
    split
    · rename_i e; subst e; omega
    · exact this
  have hS : tkS (s.set x n) = s.set x n := nth_ext (tkS_length _) fun k hk => by
    rw [tkS_length] at hk
    rw [tkS_nth _ hk]
    unfold tks
    rw [if_pos (hn k hk).1]
  have hbig : tkBig (s.set x n) = false := by
    unfold tkBig
    rw [List.any_eq_false]
    intro y hy
    obtain ⟨j, hj, rfl⟩ := List.mem_iff_getElem.1 hy
    have := hn j hj
    rw [← nth_get _ j hj]
    simp; omega
  have hE := err_set he hx h0 h1
  refine ⟨tkE_zero.2 ⟨hf, by simp, hbig, by rw [hS]; exact hE⟩, hS, ?_⟩
  unfold tkD ptD
  rw [hS]
  refine TA_congr hE fun t ht => ?_
  have hi := (insS hx).1 ht
  have ha : addL t (tkU s (s.set x n)) = t := add_zer _ _ fun k hk => by
    rw [tkU_nth _ _ (by rw [List.length_set]; omega), if_pos (hn k (by rw [List.length_set]; omega)).1]
  unfold ptC
  rw [ha, if_pos]
  refine ins_mk hi.1 fun k hk => ?_
  by_cases e : k = x
  · subst e; omega
  · exact hi.2.1 k hk e
theorem dr_tail (hf : flawE c s dz = 0) (hx : x < s.length) (h0 : 0 ≤ n) (h1 : n ≤ nth s x) : drE ((zer s.length).set x n) c s dz = 0 ∧ drS s ((zer s.length).set x n) = s.set x (nth s x - n) ∧ drD ((zer s.length).set x n) c s dz = TA (s.set x (nth s x - n)) (fun t => cel s dz (t.set x (nth t x + n))) := by
  have he := (flawE_zero hf).1
  have hb := errOf_zero.1 he
  have hz : x < (zer s.length).length := by simp [zer]; exact hx
  have hl : ((zer s.length).set x n).length = s.length := by simp [zer]
  have hS : drS s ((zer s.length).set x n) = s.set x (nth s x - n) := nth_ext (by rw [drS_length, hl, List.length_set]) fun k hk => by
    rw [drS_length] at hk
    rw [drS_nth _ _ hk, nth_set _ _ _ _ hz, nth_set _ _ _ _ hx]
    have := hb.2.1.nth k
    unfold drs
    by_cases e : k = x
    · subst e
      rw [if_pos rfl, if_pos rfl]
      repeat' split
      all_goals omega
    · rw [if_neg e, if_neg e, zer_nth]
      repeat' split
      all_goals omega
  have hE := err_set (v := nth s x - n) he hx (by omega) (by omega)
  refine ⟨drE_zero.2 ⟨hf, hl⟩, hS, ?_⟩
  unfold drD ptD
  rw [hS]
  refine TA_congr hE fun t ht => ?_
  have hi := (insS hx).1 ht
  have hxt : x < t.length := by omega
  have ha : addL t (drU s ((zer s.length).set x n)) = t.set x (nth t x + n) := nth_ext (by rw [addL_length, List.length_set]) fun k hk => by
    rw [addL_length] at hk
    rw [addL_nth _ _ hk, drU_nth _ _ (by omega), nth_set _ _ _ _ hz, nth_set _ _ _ _ hxt]
    unfold dru
    by_cases e : k = x
    · subst e
      rw [if_pos rfl, if_pos rfl, if_neg (by omega), if_pos h0]
    · rw [if_neg e, if_neg e, zer_nth]
      repeat' split
      all_goals omega
  unfold ptC
  rw [ha, if_pos]
  refine ins_mk (by rw [List.length_set]; exact hi.1) fun k hk => ?_
  rw [nth_set _ _ _ _ hxt]
  split
  · rename_i e; subst e; omega
  · rename_i e; exact hi.2.1 k hk e
/-- The last ones are all but the others. -/
theorem tk_last (hf : flawE c s dz = 0) (hx : x < s.length) (h0 : 0 ≤ n) (h1 : n ≤ nth s x) : tkE (s.set x (n - nth s x)) c s dz = 0 ∧ tkS (s.set x (n - nth s x)) = s.set x (nth s x - n) ∧ tkD (s.set x (n - nth s x)) c s dz = TA (s.set x (nth s x - n)) (fun t => cel s dz (t.set x (nth t x + n))) := by
  have he := (flawE_zero hf).1
  have hb := errOf_zero.1 he
  have hbx := hb.2.1.nth x
  have hS : tkS (s.set x (n - nth s x)) = s.set x (nth s x - n) := nth_ext (by rw [tkS_length, List.length_set, List.length_set]) fun k hk => by
    rw [tkS_length] at hk
    rw [tkS_nth _ hk, nth_set _ _ _ _ hx, nth_set _ _ _ _ hx]
    have := hb.2.1.nth k
    unfold tks
    by_cases e : k = x
    · subst e; rw [if_pos rfl, if_pos rfl]; split <;> omega
    · rw [if_neg e, if_neg e]; split <;> omega
  have hbig : tkBig (s.set x (n - nth s x)) = false := by
    unfold tkBig
    rw [List.any_eq_false]
    intro y hy
    obtain ⟨j, hj, rfl⟩ := List.mem_iff_getElem.1 hy
    rw [← nth_get _ j hj, nth_set _ _ _ _ hx]
    have := hb.2.1.nth j
    split <;> (simp; omega)
  have hE := err_set (v := nth s x - n) he hx (by omega) (by omega)
  refine ⟨tkE_zero.2 ⟨hf, by simp, hbig, by rw [hS]; exact hE⟩, hS, ?_⟩
  unfold tkD ptD
  rw [hS]
  refine TA_congr hE fun t ht => ?_
  have hi := (insS hx).1 ht
  have hxt : x < t.length := by omega
  have ha : addL t (tkU s (s.set x (n - nth s x))) = t.set x (nth t x + n) := nth_ext (by rw [addL_length, List.length_set]) fun k hk => by
    rw [addL_length] at hk
    rw [addL_nth _ _ hk, tkU_nth _ _ (by rw [List.length_set]; omega), nth_set _ _ _ _ hx, nth_set _ _ _ _ hxt]
    by_cases e : k = x
    · subst e; rw [if_pos rfl, if_pos rfl, if_neg (by omega)]; omega
    · have := hb.2.1.nth k
      rw [if_neg e, if_neg e, if_pos this.1]; omega
  unfold ptC
  rw [ha, if_pos]
  refine ins_mk (by rw [List.length_set]; exact hi.1) fun k hk => ?_
  rw [nth_set _ _ _ _ hxt]
  split
  · rename_i e; subst e; omega
  · rename_i e; exact hi.2.1 k hk e
/-- All but the last ones are the first ones. -/
theorem dr_last (hf : flawE c s dz = 0) (hx : x < s.length) (h0 : 0 ≤ n) (h1 : n ≤ nth s x) : drE ((zer s.length).set x (n - nth s x)) c s dz = 0 ∧ drS s ((zer s.length).set x (n - nth s x)) = s.set x n ∧ drD ((zer s.length).set x (n - nth s x)) c s dz = TA (s.set x n) (cel s dz) := by
  have he := (flawE_zero hf).1
  have hb := errOf_zero.1 he
  have hbx := hb.2.1.nth x
  have hz : x < (zer s.length).length := by simp [zer]; exact hx
  have hl : ((zer s.length).set x (n - nth s x)).length = s.length := by simp [zer]
  have hS : drS s ((zer s.length).set x (n - nth s x)) = s.set x n := nth_ext (by rw [drS_length, hl, List.length_set]) fun k hk => by
    rw [drS_length] at hk
    rw [drS_nth _ _ hk, nth_set _ _ _ _ hz, nth_set _ _ _ _ hx]
    have := hb.2.1.nth k
    unfold drs
    by_cases e : k = x
    · subst e
      rw [if_pos rfl, if_pos rfl]
      repeat' split
      all_goals omega
    · rw [if_neg e, if_neg e, zer_nth]
      repeat' split
      all_goals omega
  have hE := err_set (v := n) he hx h0 h1
  refine ⟨drE_zero.2 ⟨hf, hl⟩, hS, ?_⟩
  unfold drD ptD
  rw [hS]
  refine TA_congr hE fun t ht => ?_
  have hi := (insS hx).1 ht
  have ha : addL t (drU s ((zer s.length).set x (n - nth s x))) = t := add_zer _ _ fun k hk => by
    rw [drU_nth _ _ (by omega), nth_set _ _ _ _ hz]
    unfold dru
    by_cases e : k = x
    · subst e
      rw [if_pos rfl]
      repeat' split
      all_goals omega
    · rw [if_neg e, zer_nth]
      repeat' split
      all_goals omega
  unfold ptC
  rw [ha, if_pos]
  refine ins_mk hi.1 fun k hk => ?_
  by_cases e : k = x
  · subst e; omega
  · exact hi.2.1 k hk e
end
/-! ### Joined -/
section
variable {c : Bool} {s dz s' dz' : List Int} {x : Nat}
theorem jn_flaw {X : Int} {c' : Bool} (h : jnE X c s dz c' s' dz' = 0) : flawE c (jnS X.toNat s s') (jnD X.toNat s dz s' dz') = 0 := by
  obtain ⟨h1, h2, h3, h4, h5, h6, h7, h8⟩ := jnE_zero.1 h
  subst h7
  have ho := othB_iff.1 h6
  refine TA_flaw h8 fun hc t ht => ?_
  have hi := (insS h5).1 ht
  unfold jnC
  split
  · rename_i hlt
    exact cel_ch h1 hc (ins_mk hi.1 fun k hk => by
      by_cases e : k = X.toNat
      · subst e; omega
      · exact hi.2.1 k hk e)
  · rename_i hlt
    refine cel_ch h2 hc (ins_mk (by rw [List.length_set]; omega) fun k hk => ?_)
    rw [nth_set _ _ _ _ (by omega)]
    split
    · rename_i e; subst e; omega
    · rename_i e
      rw [← ho k (by omega) e]
      exact hi.2.1 k (by omega) e
theorem jn_64 {X : Int} {c' : Bool} (h : jnE X c s dz c' s' dz' = 0) (T : ∀ j, In64 (nth dz j)) (T' : ∀ j, In64 (nth dz' j)) : ∀ j, In64 (nth (jnD X.toNat s dz s' dz') j) := TA_64 (jnE_zero.1 h).2.2.2.2.2.2.2 fun t ht => by
  unfold jnC
  split
  · exact cel_64 T _
  · exact cel_64 T' _
/-- Head and tail are all. -/
theorem jn_whole {n : Int} (hf : flawE c s dz = 0) (hx : x < s.length) (h0 : 0 ≤ n) (h1 : n ≤ nth s x) :
    jnE x c (s.set x n) (TA (s.set x n) (cel s dz)) c (s.set x (nth s x - n)) (TA (s.set x (nth s x - n)) (fun t => cel s dz (t.set x (nth t x + n)))) = 0 ∧ jnS x (s.set x n) (s.set x (nth s x - n)) = s
    ∧ jnD x (s.set x n) (TA (s.set x n) (cel s dz)) (s.set x (nth s x - n)) (TA (s.set x (nth s x - n)) (fun t => cel s dz (t.set x (nth t x + n)))) = dz := by
  obtain ⟨he, hd, _⟩ := flawE_zero hf
  have hb := errOf_zero.1 he
  have hE1 := err_set (v := n) he hx h0 h1
  have hE2 := err_set (v := nth s x - n) he hx (by omega) (by omega)
  have hS : jnS x (s.set x n) (s.set x (nth s x - n)) = s := by
    unfold jnS
    rw [nth_set_self hx, nth_set_self hx, set_set]
    exact set_get hx (by omega)
  have f1 : flawE c (s.set x n) (TA (s.set x n) (cel s dz)) = 0 := TA_flaw hE1 fun hc t ht => by
    have hi := (insS hx).1 ht
    exact cel_ch hf hc (ins_mk hi.1 fun k hk => by
      by_cases e : k = x
      · subst e; omega
      · exact hi.2.1 k hk e)
  have f2 : flawE c (s.set x (nth s x - n)) (TA (s.set x (nth s x - n)) (fun t => cel s dz (t.set x (nth t x + n)))) = 0 := TA_flaw hE2 fun hc t ht => by
    have hi := (insS hx).1 ht
    refine cel_ch hf hc (ins_mk (by rw [List.length_set]; exact hi.1) fun k hk => ?_)
    rw [nth_set _ _ _ _ (by omega)]
    split
    · rename_i e; subst e; omega
    · rename_i e; exact hi.2.1 k hk e
  refine ⟨jnE_zero.2 ⟨f1, f2, by simp, by omega, by simpa using hx, othB_iff.2 fun k hk e => ?_, rfl, by rw [Int.toNat_natCast, hS]; exact he⟩, hS, ?_⟩
  · rw [List.length_set] at hk
    rw [Int.toNat_natCast] at e
    rw [nth_set_ne hx e, nth_set_ne hx e]
  · unfold jnD
    rw [hS]
    refine TA_is he hd fun t ht => ?_
    have hi := ins_all ht
    have hxi := hi.2 x hx
    have hxt : x < t.length := by omega
    unfold jnC
    rw [nth_set_self hx]
    by_cases hlt : nth t x < n
    · rw [if_pos hlt]
      exact TA_at hE1 ((insS hx).2 ⟨hi.1, fun k hk _ => hi.2 k hk, hxi.1, hlt⟩)
    · rw [if_neg hlt, TA_at hE2 ((insS hx).2 ⟨by rw [List.length_set]; exact hi.1, fun k hk e => by rw [nth_set_ne hxt e]; exact hi.2 k hk, by rw [nth_set_self hxt]; omega, by rw [nth_set_self hxt]; omega⟩)]
      rw [nth_set_self hxt, set_set]
      congr 1
      exact set_get hxt (by omega)
end
end Go.Proofs.Ytgaelbgeoobgiaa
/-! Cutn: Plain mathematics: arrays joined, kept and spread; nothing of the program. -/
namespace Go.Proofs.Ytgaelbgeoobgiaa
open Go.RowKit
set_option linter.unusedVariables false

theorem TA_none {s : List Int} {f : List Int → Int} (h : prod s = 0) : TA s f = [] := by unfold TA; rw [h]; rfl
/-- Indices of two joined: those of the first one, and of the second one. -/
theorem jn_left {s s' t : List Int} {x : Nat} (hx : x < s.length) (h : insB (jnS x s s') t = true) (hlt : nth t x < nth s x) : insB s t = true := by
  have hi := (insS hx).1 h
  exact ins_mk hi.1 fun k hk => by
    by_cases e : k = x
    · subst e; omega
    · exact hi.2.1 k hk e
theorem jn_right {s s' t : List Int} {x : Nat} (hx : x < s.length) (hl : s.length = s'.length) (ho : othB x s s' = true) (h : insB (jnS x s s') t = true) (hlt : ¬ nth t x < nth s x) : insB s' (t.set x (nth t x - nth s x)) = true := by
  have hi := (insS hx).1 h
  refine ins_mk (by rw [List.length_set]; omega) fun k hk => ?_
  rw [nth_set _ _ _ _ (by omega)]
  split
  · rename_i e; subst e; omega
  · rename_i e
    rw [← othB_iff.1 ho k (by omega) e]
    exact hi.2.1 k (by omega) e
theorem jnS_length (x : Nat) (s s' : List Int) : (jnS x s s').length = s.length := by simp [jnS]
theorem jnS_at {x : Nat} {s s' : List Int} (hx : x < s.length) : nth (jnS x s s') x = nth s x + nth s' x := nth_set_self hx
theorem jnS_ne {x : Nat} {s s' : List Int} (hx : x < s.length) {k : Nat} (h : k ≠ x) : nth (jnS x s s') k = nth s k := nth_set_ne hx h
theorem jnZ {x : Nat} {c : Bool} {s dz : List Int} {c' : Bool} {s' dz' : List Int} : jnE x c s dz c' s' dz' = 0 ↔ flawE c s dz = 0 ∧ flawE c' s' dz' = 0 ∧ s.length = s'.length ∧ x < s.length ∧ othB x s s' = true ∧ c = c' ∧ errOf (jnS x s s') = 0 := by
  rw [jnE_zero, Int.toNat_natCast]
  exact ⟨fun h => ⟨h.1, h.2.1, h.2.2.1, h.2.2.2.2⟩, fun h => ⟨h.1, h.2.1, h.2.2.1, by omega, h.2.2.2⟩⟩
section
variable {x : Nat} {c c1 c2 : Bool} {s dz s' dz' s'' dz'' : List Int}
theorem jn_flawN (h : jnE x c s dz c1 s' dz' = 0) : flawE c (jnS x s s') (jnD x s dz s' dz') = 0 := jn_flaw h
/-- Whichever two come first. -/
theorem jn_assoc (h1 : jnE x c s dz c1 s' dz' = 0) (h2 : jnE x c (jnS x s s') (jnD x s dz s' dz') c2 s'' dz'' = 0) :
    jnE x c1 s' dz' c2 s'' dz'' = 0 ∧ jnE x c s dz c1 (jnS x s' s'') (jnD x s' dz' s'' dz'') = 0 ∧ jnS x s (jnS x s' s'') = jnS x (jnS x s s') s''
    ∧ jnD x s dz (jnS x s' s'') (jnD x s' dz' s'' dz'') = jnD x (jnS x s s') (jnD x s dz s' dz') s'' dz'' := by
  obtain ⟨a1, a2, a3, a5, a6, a7, a8⟩ := jnZ.1 h1
  obtain ⟨b1, b2, b3, b5, b6, b7, b8⟩ := jnZ.1 h2
  subst a7 b7
  rw [jnS_length] at b3 b5
  have o1 := othB_iff.1 a6
  have o2 := othB_iff.1 b6
  have hx' : x < s'.length := by omega
  have o3 : ∀ k, k < s'.length → k ≠ x → nth s' k = nth s'' k := fun k hk e => by
    have := o2 k (by rw [jnS_length]; omega) e
    rw [jnS_ne a5 e] at this
    rw [← o1 k (by omega) e]; exact this
  have z1 := (errOf_zero.1 (flawE_zero a1).1).2.1.nth x
  have z2 := (errOf_zero.1 (flawE_zero a2).1).2.1.nth x
  have z3 := (errOf_zero.1 (flawE_zero b2).1).2.1.nth x
  have hxS : x < (jnS x s s').length := by rw [jnS_length]; exact a5
  have eS : jnS x s (jnS x s' s'') = jnS x (jnS x s s') s'' := by
    refine nth_ext (by rw [jnS_length, jnS_length, jnS_length]) fun k hk => ?_
    rw [jnS_length] at hk
    by_cases e : k = x
    · subst e
      rw [jnS_at a5, jnS_at hx', jnS_at hxS, jnS_at a5]
      omega
    · rw [jnS_ne a5 e, jnS_ne hxS e, jnS_ne a5 e]
  have eU : errOf (jnS x s' s'') = 0 := by
    refine err_mono (b := jnS x (jnS x s s') s'') (by rw [jnS_length, jnS_length, jnS_length]; omega) (fun k hk => ?_) b8
    rw [jnS_length] at hk
    by_cases e : k = x
    · subst e
      rw [jnS_at hx', jnS_at hxS, jnS_at a5]
      omega
    · have := (errOf_zero.1 (flawE_zero a1).1).2.1.nth k
      rw [jnS_ne hx' e, jnS_ne hxS e, jnS_ne a5 e, ← o1 k (by omega) e]
      omega
  have E3 : jnE x c s' dz' c s'' dz'' = 0 := jnZ.2 ⟨a2, b2, by omega, hx', othB_iff.2 o3, rfl, eU⟩
  have E4 : jnE x c s dz c (jnS x s' s'') (jnD x s' dz' s'' dz'') = 0 := jnZ.2 ⟨a1, jn_flawN E3, by rw [jnS_length]; exact a3, a5, othB_iff.2 fun k hk e => by rw [jnS_ne hx' e]; exact o1 k hk e, rfl, by rw [eS]; exact b8⟩
  refine ⟨E3, E4, eS, ?_⟩
  unfold jnD
  rw [eS]
  refine TA_congr b8 fun t ht => ?_
  have hi := (insS hxS).1 ht
  rw [jnS_length] at hi
  have hxt : x < t.length := by omega
  rw [jnS_at a5] at hi
  unfold jnC
  rw [jnS_at a5]
  by_cases g1 : nth t x < nth s x
  · rw [if_pos g1, if_pos (by omega), TA_at a8]
    · rw [if_pos g1]
    · exact (insS a5).2 ⟨by omega, fun k hk e => by have := hi.2.1 k (by omega) e; rwa [jnS_ne a5 e] at this, by omega, by omega⟩
  · rw [if_neg g1, TA_at eU]
    · rw [nth_set_self hxt, set_set]
      by_cases g2 : nth t x < nth s x + nth s' x
      · rw [if_pos (by omega), if_pos g2, TA_at a8]
        · rw [if_neg g1]
        · exact (insS a5).2 ⟨by omega, fun k hk e => by have := hi.2.1 k (by omega) e; rwa [jnS_ne a5 e] at this, by omega, by omega⟩
      · rw [if_neg (by omega), if_neg g2]
        congr 2
        omega
    · refine (insS hx').2 ⟨by rw [List.length_set]; omega, fun k hk e => ?_, ?_, ?_⟩
      · rw [nth_set_ne hxt e, ← o1 k (by omega) e]
        have := hi.2.1 k (by omega) e
        rwa [jnS_ne a5 e] at this
      · rw [nth_set_self hxt]; omega
      · rw [nth_set_self hxt]; omega
/-- With nothing joined it is itself. -/
theorem jn_none (hf : flawE c s dz = 0) (hx : x < s.length) : jnE x c s dz c (s.set x 0) (TA (s.set x 0) (cel s dz)) = 0 ∧ jnS x s (s.set x 0) = s ∧ jnD x s dz (s.set x 0) (TA (s.set x 0) (cel s dz)) = dz
    ∧ jnE x c (s.set x 0) (TA (s.set x 0) (cel s dz)) c s dz = 0 ∧ jnS x (s.set x 0) s = s ∧ jnD x (s.set x 0) (TA (s.set x 0) (cel s dz)) s dz = dz := by
  obtain ⟨he, hd, _⟩ := flawE_zero hf
  have z := (errOf_zero.1 he).2.1.nth x
  have p0 : prod (s.set x 0) = 0 := by rw [prod_set hx]; omega
  have w1 := jn_whole (n := nth s x) hf hx z.1 (Int.le_refl _)
  have w2 := jn_whole (n := 0) hf hx (Int.le_refl _) z.1
  rw [set_get hx rfl, TA_self he hd, show nth s x - nth s x = 0 by omega, TA_none p0] at w1
  rw [show nth s x - 0 = nth s x by omega, set_get (v := nth s x) hx rfl, TA_none p0, TA_is he hd fun t ht => by
    have hi := ins_all ht
    rw [set_get (by omega) (by omega)]] at w2
  rw [TA_none p0]
  exact ⟨w1.1, w1.2.1, w1.2.2, w2.1, w2.2.1, w2.2.2⟩
end
/-! ### Masks: kept and spread -/
def otm (m : List Int) : List Int := m.map fun v => 1 - v
theorem otm_length (m : List Int) : (otm m).length = m.length := by simp [otm]
theorem otm_nth (m : List Int) {j : Nat} (h : j < m.length) : nth (otm m) j = 1 - nth m j := by simp [otm, nth, h]
theorem otm_msk {m : List Int} (h : mskB m = true) : mskB (otm m) = true := by
  unfold mskB otm at *
  rw [List.all_map]
  refine List.all_eq_true.2 fun v hv => ?_
  have := List.all_eq_true.1 h v hv
  simp at this ⊢
  omega
theorem otm_sum : ∀ m : List Int, sumI (otm m) = m.length - sumI m
  | [] => by simp [otm, sumI]
  | v :: m => by
    have ih := otm_sum m
    unfold otm at *
    simp only [List.map_cons, sumI, ih, List.length_cons]
    omega
theorem otm_otm (m : List Int) : otm (otm m) = m := by
  refine nth_ext (by rw [otm_length, otm_length]) fun k hk => ?_
  rw [otm_length, otm_length] at hk
  rw [otm_nth _ (by rw [otm_length]; exact hk), otm_nth _ hk]
  omega
theorem msk_sum {m : List Int} (h : mskB m = true) : 0 ≤ sumI m ∧ sumI m ≤ m.length := by have := rnk_bd h m.length (Nat.le_refl _); rwa [rnk_all] at this
theorem kpZ {x : Nat} {m : List Int} {c : Bool} {s dz : List Int} : kpE m x c s dz = 0 ↔ flawE c s dz = 0 ∧ x < s.length ∧ (m.length : Int) = nth s x ∧ mskB m = true := by
  unfold kpE
  rw [Int.toNat_natCast]
  by_cases h : axE x c s dz = 0
  · have h' := axE_zero.1 h
    rw [Int.toNat_natCast] at h'
    rw [if_neg (by simpa using h)]
    by_cases h1 : (m.length : Int) = nth s x
    · rw [if_neg (by simpa using h1)]
      cases h2 : mskB m
      · simp
      · simp [h'.1, h'.2.2, h1]
    · rw [if_pos h1]; exact ⟨fun e => absurd e (by decide), fun e => absurd e.2.2.1 h1⟩
  · rw [if_pos h]; exact ⟨fun e => absurd e h, fun e => absurd (axE_zero.2 ⟨e.1, by omega, by rw [Int.toNat_natCast]; exact e.2.1⟩) h⟩
theorem spZ {x : Nat} {m : List Int} {c : Bool} {s dz : List Int} : spE m x c s dz = 0 ↔ flawE c s dz = 0 ∧ x < s.length ∧ mskB m = true ∧ sumI m = nth s x ∧ errOf (spS m x s) = 0 := by
  unfold spE
  rw [Int.toNat_natCast]
  by_cases h : axE x c s dz = 0
  · have h' := axE_zero.1 h
    rw [Int.toNat_natCast] at h'
    rw [if_neg (by simpa using h)]
    cases h2 : mskB m
    · simp
    · rw [if_neg (by simp)]
      by_cases h1 : sumI m = nth s x
      · rw [if_neg (by simpa using h1)]
        simp [h'.1, h'.2.2, h1]
      · rw [if_pos h1]; exact ⟨fun e => absurd e (by decide), fun e => absurd e.2.2.2.1 h1⟩
  · rw [if_pos h]; exact ⟨fun e => absurd e h, fun e => absurd (axE_zero.2 ⟨e.1, by omega, by rw [Int.toNat_natCast]; exact e.2.1⟩) h⟩
section
variable {x : Nat} {m : List Int} {c : Bool} {s dz : List Int}
theorem kp_err (h : kpE m x c s dz = 0) : errOf (kpS m x s) = 0 := by
  obtain ⟨h1, h2, h3, h4⟩ := kpZ.1 h
  have := msk_sum h4
  exact err_set (flawE_zero h1).1 h2 this.1 (by omega)
/-- What is kept is there. -/
theorem kp_in (h : kpE m x c s dz = 0) {t : List Int} (ht : insB (kpS m x s) t = true) : insB s (kpT m x t) = true ∧ nth m (nth (kpT m x t) x).toNat = 1 ∧ rnk m (nth (kpT m x t) x).toNat = nth t x := by
  obtain ⟨h1, h2, h3, h4⟩ := kpZ.1 h
  have hi := (insS h2).1 ht
  have hxt : x < t.length := by omega
  have hp := pos1_fact (m := m) (j := (nth t x).toNat) h4 (by omega)
  unfold kpT
  rw [nth_set_self hxt, Int.toNat_natCast]
  refine ⟨ins_mk (by rw [List.length_set]; exact hi.1) fun k hk => ?_, hp.2.1, by rw [hp.2.2]; omega⟩
  rw [nth_set _ _ _ _ hxt]
  split
  · rename_i e; subst e; omega
  · rename_i e; exact hi.2.1 k hk e
theorem kp_flaw (h : kpE m x c s dz = 0) : flawE c (kpS m x s) (kpD m x s dz) = 0 := TA_flaw (kp_err h) fun hc t ht => cel_ch (kpZ.1 h).1 hc (kp_in h ht).1
theorem kp_64 (h : kpE m x c s dz = 0) (T : ∀ j, In64 (nth dz j)) : ∀ j, In64 (nth (kpD m x s dz) j) := TA_64 (kp_err h) fun t _ => cel_64 T _
theorem sp_in (h : spE m x c s dz = 0) {t : List Int} (ht : insB (spS m x s) t = true) (h1 : nth m (nth t x).toNat ≠ 0) : insB s (t.set x (rnk m (nth t x).toNat)) = true := by
  obtain ⟨g1, g2, g3, g4, g5⟩ := spZ.1 h
  have hi := (insS g2).1 ht
  have hxt : x < t.length := by omega
  have hm := (mskB_nth g3 (j := (nth t x).toNat) (by omega)).resolve_left h1
  have r0 := rnk_bd g3 (nth t x).toNat (by omega)
  have r1 := rnk_le g3 (i := (nth t x).toNat + 1) (j := m.length) (by omega) (Nat.le_refl _)
  rw [rnk_succ m (by omega), rnk_all, hm] at r1
  refine ins_mk (by rw [List.length_set]; exact hi.1) fun k hk => ?_
  rw [nth_set _ _ _ _ hxt]
  split
  · rename_i e; subst e; omega
  · rename_i e; exact hi.2.1 k hk e
theorem sp_flaw (h : spE m x c s dz = 0) : flawE c (spS m x s) (spD m x c s dz) = 0 := TA_flaw (spZ.1 h).2.2.2.2 fun hc t ht => by
  unfold spC
  split
  · exact fill_ch hc
  · rename_i h1; exact cel_ch (spZ.1 h).1 hc (sp_in h ht h1)
theorem sp_64 (h : spE m x c s dz = 0) (T : ∀ j, In64 (nth dz j)) : ∀ j, In64 (nth (spD m x c s dz) j) := TA_64 (spZ.1 h).2.2.2.2 fun t _ => by
  unfold spC
  split
  · exact fill_64 c
  · exact cel_64 T _
/-- What is spread is kept. -/
theorem sp_kp (h : spE m x c s dz = 0) : kpE m x c (spS m x s) (spD m x c s dz) = 0 ∧ kpS m x (spS m x s) = s ∧ kpD m x (spS m x s) (spD m x c s dz) = dz := by
  obtain ⟨g1, g2, g3, g4, g5⟩ := spZ.1 h
  obtain ⟨he, hd, _⟩ := flawE_zero g1
  have hxS : x < (spS m x s).length := by simp [spS]; exact g2
  have hK : kpE m x c (spS m x s) (spD m x c s dz) = 0 := kpZ.2 ⟨sp_flaw h, hxS, by unfold spS; rw [nth_set_self g2], g3⟩
  have hS : kpS m x (spS m x s) = s := by
    unfold kpS spS
    rw [set_set, g4]
    exact set_get g2 rfl
  refine ⟨hK, hS, ?_⟩
  unfold kpD
  rw [hS]
  refine TA_is he hd fun t ht => ?_
  have hk := kp_in hK (t := t) (by rw [hS]; exact ht)
  have hi := ins_all ht
  have hxt : x < t.length := by omega
  unfold spD
  rw [TA_at g5 hk.1]
  unfold spC
  rw [hk.2.1, if_neg (by decide), hk.2.2]
  unfold kpT
  rw [set_set]
  congr 1
  exact set_get hxt rfl
/-- Elsewhere there stand fills. -/
theorem sp_fills (h : spE m x c s dz = 0) : kpE (otm m) x c (spS m x s) (spD m x c s dz) = 0 ∧ (∀ j, j < (kpD (otm m) x (spS m x s) (spD m x c s dz)).length → nth (kpD (otm m) x (spS m x s) (spD m x c s dz)) j = fillE c)
    ∧ (kpD (otm m) x (spS m x s) (spD m x c s dz)).length + dz.length = (spD m x c s dz).length := by
  obtain ⟨g1, g2, g3, g4, g5⟩ := spZ.1 h
  obtain ⟨he, hd, _⟩ := flawE_zero g1
  have hxS : x < (spS m x s).length := by simp [spS]; exact g2
  have hK : kpE (otm m) x c (spS m x s) (spD m x c s dz) = 0 := kpZ.2 ⟨sp_flaw h, hxS, by unfold spS; rw [nth_set_self g2, otm_length], otm_msk g3⟩
  have hE := kp_err hK
  refine ⟨hK, fun j hj => ?_, ?_⟩
  · unfold kpD at hj ⊢
    rw [TA_length] at hj
    rw [TA_nth hj]
    have hc := cr_in hE hj
    have hk := kp_in hK hc.1
    have hi := ins_all hk.1
    have hxi := hi.2 x hxS
    rw [show nth (spS m x s) x = m.length from nth_set_self g2] at hxi
    rw [otm_nth m (by omega)] at hk
    unfold spD
    rw [TA_at g5 hk.1]
    unfold spC
    rw [if_pos (by have := hk.2.1; omega)]
  · have l1 : ((kpD (otm m) x (spS m x s) (spD m x c s dz)).length : Int) = prod (kpS (otm m) x (spS m x s)) := TA_len hE
    have l2 : ((spD m x c s dz).length : Int) = prod (spS m x s) := TA_len g5
    have e1 : kpS (otm m) x (spS m x s) = s.set x (m.length - nth s x) := by unfold kpS spS; rw [set_set, otm_sum, g4]
    rw [e1, prod_set g2, Int.sub_mul] at l1
    unfold spS at l2
    rw [prod_set g2] at l2
    rw [prod_get g2] at hd
    omega
/-- What is taken apart: each part spread again. -/
theorem kp_sp (h : kpE m x c s dz = 0) : spE m x c (kpS m x s) (kpD m x s dz) = 0 ∧ spS m x (kpS m x s) = s ∧ spD m x c (kpS m x s) (kpD m x s dz) = TA s (fun t => if nth m (nth t x).toNat = 0 then fillE c else cel s dz t) := by
  obtain ⟨g1, g2, g3, g4⟩ := kpZ.1 h
  obtain ⟨he, hd, _⟩ := flawE_zero g1
  have hxS : x < (kpS m x s).length := by simp [kpS]; exact g2
  have hS : spS m x (kpS m x s) = s := by
    unfold kpS spS
    rw [set_set, g3]
    exact set_get g2 rfl
  have hE := kp_err h
  refine ⟨spZ.2 ⟨kp_flaw h, hxS, g4, by unfold kpS; rw [nth_set_self g2], by rw [hS]; exact he⟩, hS, ?_⟩
  unfold spD
  rw [hS]
  refine TA_congr he fun t ht => ?_
  have hi := ins_all ht
  have hxi := hi.2 x g2
  have hxt : x < t.length := by omega
  unfold spC
  by_cases h0 : nth m (nth t x).toNat = 0
  · rw [if_pos h0, if_pos h0]
  · rw [if_neg h0, if_neg h0]
    have hm := (mskB_nth g4 (j := (nth t x).toNat) (by omega)).resolve_left h0
    have r0 := rnk_bd g4 (nth t x).toNat (by omega)
    have r1 := rnk_le g4 (i := (nth t x).toNat + 1) (j := m.length) (by omega) (Nat.le_refl _)
    rw [rnk_succ m (by omega), rnk_all, hm] at r1
    unfold kpD
    rw [TA_at hE ((insS g2).2 ⟨by rw [List.length_set]; exact hi.1, fun k hk e => by rw [nth_set_ne hxt e]; exact hi.2 k hk, by rw [nth_set_self hxt]; omega, by rw [nth_set_self hxt]; omega⟩)]
    unfold kpT
    rw [nth_set_self hxt, set_set, pos1_rnk g4 (by omega) hm]
    congr 1
    exact set_get hxt (by omega)
theorem kp_other (h : kpE m x c s dz = 0) : kpE (otm m) x c s dz = 0 := by
  obtain ⟨g1, g2, g3, g4⟩ := kpZ.1 h
  exact kpZ.2 ⟨g1, g2, by rw [otm_length]; exact g3, otm_msk g4⟩
end
end Go.Proofs.Ytgaelbgeoobgiaa
