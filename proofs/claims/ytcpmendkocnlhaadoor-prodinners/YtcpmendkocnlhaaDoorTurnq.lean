/-
  Odo Ordr Turnm Capi Turnq, together.
-/
import Derived.Test.YtcpmendkocnlhaaDoorBase
import Derived.Deep.Strs
import Derived.OpenShut
import Derived.ProofKit
import Derived.ShutString
import Derived.ChangeOld
import Derived.Below
/-! Odo: Plain mathematics of indices that are counted up: the next place's indices. -/
namespace Go.Proofs.YtcpmendkocnlhaaDoor

theorem ins_cons {x a : Int} {s t : List Int} : insB (x :: s) (a :: t) = true ↔ (0 ≤ a ∧ a < x) ∧ insB s t = true := by
  simp only [insB, Bool.and_eq_true, decide_eq_true_eq]
theorem place_zeros : ∀ s : List Int, place s (List.replicate s.length 0) = 0
  | [] => rfl
  | x :: s => by simp [List.replicate_succ, place, place_zeros s]
theorem ins_zeros : ∀ {s : List Int}, AllPos s → insB s (List.replicate s.length 0) = true
  | [], _ => rfl
  | x :: s, h => by
    have := h x List.mem_cons_self
    simp only [List.length_cons, List.replicate_succ]
    exact ins_cons.2 ⟨⟨by omega, by omega⟩, ins_zeros h.tail⟩
/-- The last place of all. -/
theorem place_max : ∀ {s t : List Int}, t.length = s.length → (∀ j, j < s.length → nth t j = nth s j - 1) → place s t = prod s - 1
  | [], [], _, _ => by simp [place, prod]
  | [], _ :: _, h, _ => by simp at h
  | _ :: _, [], h, _ => by simp at h
  | x :: s, a :: t, hl, h => by
    have h0 := h 0 (by simp)
    rw [nth_zero, nth_zero] at h0
    have ih := place_max (s := s) (t := t) (by simpa using hl) (fun j hj => by have := h (j + 1) (by simpa using hj); rwa [nth_succ, nth_succ] at this)
    simp only [place, prod, ih, h0, Int.sub_mul, Int.one_mul]
    omega
/-- The first m numbers, and 0 behind them. -/
def zr (c : List Int) (m : Nat) : List Int := c.take m ++ List.replicate (c.length - m) 0
theorem zr_length (c : List Int) (m : Nat) (h : m ≤ c.length) : (zr c m).length = c.length := by simp [zr]; omega
theorem zr_all (c : List Int) : zr c c.length = c := by simp [zr]
theorem zr_at (c : List Int) (m j : Nat) (h : j < m) (hm : m ≤ c.length) : nth (zr c m) j = nth c j := by
  unfold zr
  rw [nth_append_left _ _ _ (by rw [List.length_take]; omega), nth_take c m j h]
theorem zr_behind (c : List Int) (m j : Nat) (h : m ≤ j) (hm : m ≤ c.length) : nth (zr c m) j = 0 := by
  have hl : (c.take m).length ≤ j := by rw [List.length_take]; omega
  unfold zr
  rw [show nth (c.take m ++ List.replicate (c.length - m) 0) j = nth (List.replicate (c.length - m) 0) (j - (c.take m).length) from by simp [nth, List.getElem?_append_right hl]]
  exact nth_replicate _ _
theorem zr_set (c : List Int) (q : Nat) (h : q < c.length) : (zr c (q + 1)).set q 0 = zr c q := by
  refine nth_ext (by rw [List.length_set, zr_length c _ (by omega), zr_length c _ (by omega)]) fun j hj => ?_
  rw [List.length_set, zr_length c _ (by omega)] at hj
  rw [nth_set _ _ _ _ (by rw [zr_length c _ (by omega)]; exact h)]
  by_cases e : j = q
  · rw [if_pos e, zr_behind c q j (by omega) (by omega)]
  · rw [if_neg e]
    by_cases e2 : j < q
    · rw [zr_at c _ j (by omega) (by omega), zr_at c _ j e2 (by omega)]
    · rw [zr_behind c _ j (by omega) (by omega), zr_behind c _ j (by omega) (by omega)]
/-- The next place's indices: the axis q goes on, those behind it begin anew. -/
def nxt (c : List Int) (q : Nat) : List Int := (zr c (q + 1)).set q (nth c q + 1)
theorem nxt_zero (a : Int) (t : List Int) : nxt (a :: t) 0 = (a + 1) :: List.replicate t.length 0 := by simp [nxt, zr, nth]
theorem nxt_succ (a : Int) (t : List Int) (q : Nat) : nxt (a :: t) (q + 1) = a :: nxt t q := by simp [nxt, zr, nth_succ]
theorem nxt_fact : ∀ {s c : List Int} (q : Nat), AllPos s → insB s c = true → q < s.length → (∀ j, q < j → j < s.length → nth c j = nth s j - 1) → nth c q ≠ nth s q - 1 → insB s (nxt c q) = true ∧ place s (nxt c q) = place s c + 1
  | [], _, _, _, _, h, _, _ => by simp at h
  | _ :: _, [], _, _, h, _, _, _ => by simp [insB] at h
  | x :: s, a :: t, 0, hp, hi, _, hm, hq => by
    have h1 := ins_cons.1 hi
    have hl := insB_len h1.2
    rw [nth_zero, nth_zero] at hq
    have e : place s t = prod s - 1 := place_max hl fun j hj => by have := hm (j + 1) (by omega) (by simpa using hj); rwa [nth_succ, nth_succ] at this
    rw [nxt_zero, hl]
    refine ⟨ins_cons.2 ⟨by omega, ins_zeros hp.tail⟩, ?_⟩
    simp only [place, place_zeros, e, Int.add_mul, Int.one_mul]
    omega
  | x :: s, a :: t, q + 1, hp, hi, hk, hm, hq => by
    have h1 := ins_cons.1 hi
    rw [nth_succ, nth_succ] at hq
    have ih := nxt_fact (s := s) (c := t) q hp.tail h1.2 (by simpa using hk) (fun j h2 h3 => by have := hm (j + 1) (by omega) (by simpa using h3); rwa [nth_succ, nth_succ] at this) hq
    rw [nxt_succ]
    refine ⟨ins_cons.2 ⟨h1.1, ih.1⟩, ?_⟩
    simp only [place, ih.2]
    omega

/-- The indices of the place i. -/
def cr (zs : List Int) (i : Nat) : List Int := (crd zs (i : Int)).1
theorem cr_length (zs : List Int) (i : Nat) : (cr zs i).length = zs.length := crd_len zs _
theorem cr_fact {zs : List Int} {i : Nat} (he : errOf zs = 0) (hi : (i : Int) < prod zs) : insB zs (cr zs i) = true ∧ place zs (cr zs i) = i := by
  have ha : atErr zs i = 0 := atErr_zero.2 ⟨he, by omega, hi⟩
  have := at_back ha
  rw [atVal_ok ha] at this
  exact ⟨(plErr_zero.1 this.1).2, this.2⟩
theorem cr_zero {zs : List Int} (he : errOf zs = 0) (hp : 0 < prod zs) : cr zs 0 = List.replicate zs.length 0 := by
  have h1 := cr_fact (i := 0) he (by simpa using hp)
  have hpos := allPos_of_prod (errOf_zero.1 he).2.1 hp
  exact place_inj h1.1 (ins_zeros hpos) (by rw [h1.2, place_zeros]; rfl)
theorem cr_next {zs : List Int} {i q : Nat} (he : errOf zs = 0) (hi : ((i + 1 : Nat) : Int) < prod zs) (hq : q < zs.length) (hm : ∀ j, q < j → j < zs.length → nth (cr zs i) j = nth zs j - 1) (hn : nth (cr zs i) q ≠ nth zs q - 1) : cr zs (i + 1) = nxt (cr zs i) q := by
  have hpos := allPos_of_prod (errOf_zero.1 he).2.1 (by omega)
  have h1 := cr_fact (i := i) he (by omega)
  have h2 := cr_fact (i := i + 1) he hi
  have h3 := nxt_fact q hpos h1.1 hq hm hn
  exact place_inj h2.1 h3.1 (by rw [h2.2, h3.2, h1.2]; omega)
/-- Not all indices are the last ones of their axes. -/
theorem cr_not_max {zs : List Int} {i : Nat} (he : errOf zs = 0) (hi : ((i + 1 : Nat) : Int) < prod zs) (hm : ∀ j, j < zs.length → nth (cr zs i) j = nth zs j - 1) : False := by
  have h1 := cr_fact (i := i) he (by omega)
  have := place_max (cr_length zs i) hm
  omega
end Go.Proofs.YtcpmendkocnlhaaDoor
/-! Ordr: Plain mathematics of orders of axes: each number below the length once; a shape in another order; the order turned round. -/
namespace Go.Proofs.YtcpmendkocnlhaaDoor

def IsOrd (ps : List Int) : Prop := (∀ j, j < ps.length → 0 ≤ nth ps j ∧ nth ps j < ps.length) ∧ ∀ i j, i < j → j < ps.length → nth ps i ≠ nth ps j
def ordB (ps : List Int) : Bool := (List.range ps.length).all fun j => decide (0 ≤ nth ps j ∧ nth ps j < ps.length) && (List.range j).all fun i => nth ps i != nth ps j
theorem ordB_iff (ps : List Int) : ordB ps = true ↔ IsOrd ps := by
  simp only [ordB, IsOrd, List.all_eq_true, List.mem_range, Bool.and_eq_true, decide_eq_true_eq, bne_iff_ne]
  exact ⟨fun h => ⟨fun j hj => (h j hj).1, fun i j hi hj => (h j hj).2 i hi⟩, fun h j hj => ⟨h.1 j hj, fun i hi => h.2 i j hi hj⟩⟩
theorem IsOrd.inj {ps : List Int} (h : IsOrd ps) {i j : Nat} (hi : i < ps.length) (hj : j < ps.length) (e : nth ps i = nth ps j) : i = j := by
  by_cases h1 : i < j
  · exact absurd e (h.2 i j h1 hj)
  · by_cases h2 : j < i
    · exact absurd e.symm (h.2 j i h2 hi)
    · omega
/-- The order's numbers, as natural ones. -/
def nats (ps : List Int) : List Nat := ps.map Int.toNat
theorem nats_length (ps : List Int) : (nats ps).length = ps.length := by simp [nats]
theorem nats_get (ps : List Int) (j : Nat) (h : j < ps.length) : (nats ps)[j]? = some (nth ps j).toNat := by
  rw [nth_get ps j h]; simp [nats, h]
theorem nats_nodup {ps : List Int} (h : IsOrd ps) : (nats ps).Nodup := by
  rw [List.Nodup, List.pairwise_iff_getElem]
  intro i j hi hj hij e
  rw [nats_length] at hi hj
  have e1 := nats_get ps i hi
  have e2 := nats_get ps j hj
  rw [List.getElem?_eq_getElem (by rw [nats_length]; exact hi)] at e1
  rw [List.getElem?_eq_getElem (by rw [nats_length]; exact hj)] at e2
  have b1 := h.1 i hi
  have b2 := h.1 j hj
  have e3 : (nth ps i).toNat = (nth ps j).toNat := by
    have := Option.some.inj e1
    have := Option.some.inj e2
    omega
  exact h.2 i j hij hj (by omega)
theorem nats_sub {ps : List Int} (h : IsOrd ps) : nats ps ⊆ List.range ps.length := by
  intro x hx
  obtain ⟨j, hj, e⟩ := List.getElem_of_mem hx
  rw [nats_length] at hj
  have e1 := nats_get ps j hj
  rw [List.getElem?_eq_getElem (by rw [nats_length]; exact hj)] at e1
  have := Option.some.inj e1
  have b := h.1 j hj
  rw [List.mem_range]
  omega
/-- Each number below the length stands somewhere. -/
theorem IsOrd.surj {ps : List Int} (h : IsOrd ps) {j : Nat} (hj : j < ps.length) : ∃ i, i < ps.length ∧ nth ps i = j := by
  by_cases hm : j ∈ nats ps
  · obtain ⟨i, hi, e⟩ := List.getElem_of_mem hm
    rw [nats_length] at hi
    have e1 := nats_get ps i hi
    rw [List.getElem?_eq_getElem (by rw [nats_length]; exact hi)] at e1
    have := Option.some.inj e1
    have b := h.1 i hi
    exact ⟨i, hi, by omega⟩
  · have hn : (j :: nats ps).Nodup := List.nodup_cons.2 ⟨hm, nats_nodup h⟩
    have hs : (j :: nats ps) ⊆ List.range ps.length := by
      intro x hx
      rcases List.mem_cons.1 hx with rfl | hx
      · exact List.mem_range.2 hj
      · exact nats_sub h hx
    have := hn.length_le_of_subset hs
    simp only [List.length_cons, nats_length, List.length_range] at this
    omega
theorem nats_perm {ps : List Int} (h : IsOrd ps) : (nats ps).Perm (List.range ps.length) :=
  (List.perm_ext_iff_of_nodup (nats_nodup h) List.nodup_range).2 fun x => ⟨fun hx => nats_sub h hx, fun hx => by
    obtain ⟨i, hi, e⟩ := h.surj (List.mem_range.1 hx)
    have e1 := nats_get ps i hi
    rw [e, Int.toNat_natCast] at e1
    exact List.mem_of_getElem? e1⟩

theorem prod_perm {a b : List Int} (h : a.Perm b) : prod a = prod b := by
  induction h with
  | nil => rfl
  | cons x _ ih => simp only [prod, ih]
  | swap x y l => simp only [prod]; rw [← Int.mul_assoc, ← Int.mul_assoc, Int.mul_comm y x]
  | trans _ _ ih1 ih2 => exact ih1.trans ih2
theorem errOf_perm {a b : List Int} (h : a.Perm b) (he : errOf a = 0) : errOf b = 0 := by
  have := errOf_zero.1 he
  exact errOf_zero.2 ⟨by rw [← h.length_eq]; exact this.1, fun x hx => this.2.1 x (h.mem_iff.2 hx), by rw [← prod_perm h]; exact this.2.2⟩

/-- t is the shape whose axis ps[k] is axis k of zs. -/
def AxSpec (zs ps t : List Int) : Prop := t.length = zs.length ∧ ∀ k, k < zs.length → nth t (nth ps k).toNat = nth zs k
theorem range_nth (t : List Int) : (List.range t.length).map (nth t) = t := by
  apply List.ext_getElem (by simp)
  intro i h1 h2
  simp [nth_get t i h2]
theorem AxSpec.perm {zs ps t : List Int} (h : AxSpec zs ps t) (ho : IsOrd ps) (hl : ps.length = zs.length) : t.Perm zs := by
  have e1 : (nats ps).map (nth t) = zs := by
    apply List.ext_getElem (by simp [nats_length, hl])
    intro i h1 h2
    rw [List.getElem_map, ← nth_get zs i h2, ← h.2 i h2]
    have := nats_get ps i (by omega)
    rw [List.getElem?_eq_getElem (by rw [nats_length]; omega)] at this
    rw [Option.some.inj this]
  have e2 := (nats_perm ho).map (nth t)
  rw [e1, hl, ← h.1, range_nth] at e2
  exact e2.symm
theorem AxSpec.unique {zs ps t u : List Int} (ho : IsOrd ps) (hl : ps.length = zs.length) (h : AxSpec zs ps t) (k : AxSpec zs ps u) : t = u := by
  refine nth_ext (h.1.trans k.1.symm) fun j hj => ?_
  obtain ⟨i, hi, e⟩ := ho.surj (j := j) (by rw [hl, ← h.1]; exact hj)
  have h1 := h.2 i (by omega)
  have h2 := k.2 i (by omega)
  rw [e, Int.toNat_natCast] at h1 h2
  rw [h1, h2]

/-- The order turned round. -/
def BkSpec (ps q : List Int) : Prop := q.length = ps.length ∧ ∀ i, i < ps.length → nth q (nth ps i).toNat = i
theorem BkSpec.at {ps q : List Int} (h : BkSpec ps q) (ho : IsOrd ps) {j : Nat} (hj : j < ps.length) : ∃ i, i < ps.length ∧ nth ps i = j ∧ nth q j = i := by
  obtain ⟨i, hi, e⟩ := ho.surj hj
  have := h.2 i hi
  rw [e, Int.toNat_natCast] at this
  exact ⟨i, hi, e, this⟩
theorem BkSpec.ord {ps q : List Int} (h : BkSpec ps q) (ho : IsOrd ps) : IsOrd q := by
  refine ⟨fun j hj => ?_, fun i j hij hj e => ?_⟩
  · obtain ⟨i, hi, _, e2⟩ := h.at ho (j := j) (by rw [← h.1]; exact hj)
    rw [e2, h.1]; omega
  · obtain ⟨i1, hi1, e1, f1⟩ := h.at ho (j := i) (by rw [← h.1]; omega)
    obtain ⟨i2, hi2, e2, f2⟩ := h.at ho (j := j) (by rw [← h.1]; exact hj)
    rw [f1, f2] at e
    have : i1 = i2 := by omega
    subst this
    rw [e1] at e2
    omega
/-- By the order turned round it is the shape again. -/
theorem flip_back {zs ps t q u : List Int} (ho : IsOrd ps) (hl : ps.length = zs.length) (ht : AxSpec zs ps t) (hq : BkSpec ps q) (hu : AxSpec t q u) : u = zs := by
  refine nth_ext (hu.1.trans ht.1) fun i hi => ?_
  have hi' : i < ps.length := by rw [hl, ← ht.1, ← hu.1]; exact hi
  have b := ho.1 i hi'
  have h1 := hu.2 (nth ps i).toNat (by have := ht.1; omega)
  rw [hq.2 i hi', Int.toNat_natCast, ht.2 i (by omega)] at h1
  exact h1

/-! ### What the program reckons -/
def axstep (zs ps : List Int) (s : List Int) (x : Ax zs.length) : List Int := s.set (nth ps x.1).toNat (nth zs x.1)
def axl (zs ps : List Int) (pre : List (Ax zs.length)) : List Int := pre.foldl (axstep zs ps) (List.replicate zs.length 0)
theorem axl_snoc (zs ps : List Int) (pre : List (Ax zs.length)) (k : Nat) (hk : k < zs.length) : axl zs ps (pre ++ [⟨k, hk⟩]) = (axl zs ps pre).set (nth ps k).toNat (nth zs k) := by
  simp only [axl, List.foldl_append, List.foldl_cons, List.foldl_nil, axstep]
theorem axl_fold_length (zs ps : List Int) : ∀ (pre : List (Ax zs.length)) (s : List Int), (pre.foldl (axstep zs ps) s).length = s.length
  | [], s => rfl
  | x :: pre, s => by rw [List.foldl_cons, axl_fold_length zs ps pre]; simp [axstep]
theorem axl_length (zs ps : List Int) (pre : List (Ax zs.length)) : (axl zs ps pre).length = zs.length := by unfold axl; rw [axl_fold_length]; simp
theorem axl_dn {zs ps : List Int} (ho : IsOrd ps) (hl : ps.length = zs.length) : ∀ k, k ≤ zs.length → ∀ j, zs.length - k ≤ j → j < zs.length → nth (axl zs ps (dn zs.length k)) (nth ps j).toNat = nth zs j
  | 0, _, j, h1, h2 => by omega
  | k + 1, hk, j, h1, h2 => by
    rw [dn_succ _ k (by omega), axl_snoc]
    have b := ho.1 (zs.length - 1 - k) (by omega)
    have bj := ho.1 j (by omega)
    rw [nth_set _ _ _ _ (by rw [axl_length]; omega)]
    by_cases e : j = zs.length - 1 - k
    · rw [if_pos (by rw [e]), e]
    · have hne : (nth ps j).toNat ≠ (nth ps (zs.length - 1 - k)).toNat := fun e2 => e (ho.inj (by omega) (by omega) (by omega))
      rw [if_neg hne]
      exact axl_dn ho hl k (by omega) j (by omega) h2
theorem axl_spec {zs ps : List Int} (ho : IsOrd ps) (hl : ps.length = zs.length) : AxSpec zs ps (axl zs ps (dn zs.length zs.length)) :=
  ⟨axl_length _ _ _, fun k hk => axl_dn ho hl _ (Nat.le_refl _) k (by omega) hk⟩
def axErr (zs ps : List Int) : Int := if errOf zs ≠ 0 then errOf zs else if ps.length ≠ zs.length then 4 else if ordB ps = true then 0 else 5
def axVal (zs ps : List Int) : List Int := if axErr zs ps = 0 then axl zs ps (dn zs.length zs.length) else []
theorem axErr_zero {zs ps : List Int} : axErr zs ps = 0 ↔ errOf zs = 0 ∧ ps.length = zs.length ∧ IsOrd ps := by
  unfold axErr
  by_cases h : errOf zs = 0
  · rw [if_neg (by simpa using h)]
    by_cases h1 : ps.length = zs.length
    · rw [if_neg (by simpa using h1), ← ordB_iff]
      by_cases h2 : ordB ps = true
      · rw [if_pos h2]; exact ⟨fun _ => ⟨h, h1, h2⟩, fun _ => rfl⟩
      · rw [if_neg h2]; exact ⟨fun e => absurd e (by decide), fun e => absurd e.2.2 h2⟩
    · rw [if_pos h1]; exact ⟨fun e => absurd e (by decide), fun e => absurd e.2.1 h1⟩
  · rw [if_pos h]; exact ⟨fun e => absurd e h, fun e => absurd e.1 h⟩
theorem axErr_bad {zs ps : List Int} (he : errOf zs ≠ 0) : axErr zs ps = errOf zs := by simp [axErr, he]
theorem axErr_len {zs ps : List Int} (he : errOf zs = 0) (hl : ps.length ≠ zs.length) : axErr zs ps = 4 := by simp [axErr, he, hl]
theorem axErr_ord {zs ps : List Int} (he : errOf zs = 0) (hl : ps.length = zs.length) (ho : ¬ IsOrd ps) : axErr zs ps = 5 := by
  rw [← ordB_iff] at ho; simp [axErr, he, hl, ho]
theorem axVal_bad {zs ps : List Int} (h : axErr zs ps ≠ 0) : axVal zs ps = [] := by simp [axVal, h]
theorem axVal_ok {zs ps : List Int} (h : axErr zs ps = 0) : axVal zs ps = axl zs ps (dn zs.length zs.length) := by simp [axVal, h]
theorem axVal_spec {zs ps : List Int} (h : axErr zs ps = 0) : AxSpec zs ps (axVal zs ps) := by
  have := axErr_zero.1 h
  rw [axVal_ok h]; exact axl_spec this.2.2 this.2.1

/-- The order turned round, as the program reckons it: the first k numbers have been put. -/
def bkl (ps : List Int) : Nat → List Int
  | 0 => List.replicate ps.length 0
  | k + 1 => if 0 ≤ nth ps k ∧ nth ps k < ps.length then (bkl ps k).set (nth ps k).toNat k else bkl ps k
theorem bkl_length (ps : List Int) : ∀ k, (bkl ps k).length = ps.length
  | 0 => by simp [bkl]
  | k + 1 => by simp only [bkl]; split <;> simp [bkl_length ps k]
theorem bkl_at {ps : List Int} (ho : IsOrd ps) : ∀ k, k ≤ ps.length → ∀ i, i < k → nth (bkl ps k) (nth ps i).toNat = i
  | 0, _, i, h => by omega
  | k + 1, hk, i, h => by
    have b := ho.1 k (by omega)
    have bi := ho.1 i (by omega)
    simp only [bkl]
    rw [if_pos b, nth_set _ _ _ _ (by rw [bkl_length]; omega)]
    by_cases e : i = k
    · rw [if_pos (by rw [e]), e]
    · have hne : (nth ps i).toNat ≠ (nth ps k).toNat := fun e2 => e (ho.inj (by omega) (by omega) (by omega))
      rw [if_neg hne]
      exact bkl_at ho k (by omega) i (by omega)
theorem bkl_spec {ps : List Int} (ho : IsOrd ps) : BkSpec ps (bkl ps ps.length) := ⟨bkl_length _ _, bkl_at ho _ (Nat.le_refl _)⟩
end Go.Proofs.YtcpmendkocnlhaaDoor
/-! Turnm: Plain mathematics of cells that stand elsewhere: an array told by where each of its cells comes from; nothing of the program. -/
namespace Go.Proofs.YtcpmendkocnlhaaDoor
open Go.RowKit
set_option linter.unusedVariables false

/-- An array in shape s', whose cell at indices t is that of the other one (in shape s) at 'src t'. -/
def GA (s dz s' : List Int) (src : List Int → List Int) : List Int := (List.range (prod s').toNat).map fun i => nth dz (place s (src (cr s' i))).toNat
section
variable {s s' s'' dz : List Int} {src src' src2 : List Int → List Int}
theorem GA_length : (GA s dz s' src).length = (prod s').toNat := by simp [GA]
theorem GA_nth {i : Nat} (h : i < (prod s').toNat) : nth (GA s dz s' src) i = nth dz (place s (src (cr s' i))).toNat := by simp [GA, nth, h]
theorem cr_place (he : errOf s' = 0) {t : List Int} (ht : insB s' t = true) : cr s' (place s' t).toNat = t ∧ (place s' t).toNat < (prod s').toNat := by
  have hb := place_bd ht
  have h := pl_back (plErr_zero.2 ⟨he, ht⟩)
  have e : (((place s' t).toNat : Nat) : Int) = place s' t := by omega
  refine ⟨?_, by omega⟩
  unfold cr
  rw [e, ← atVal_ok h.1]
  exact h.2.1
theorem GA_at (he : errOf s' = 0) {t : List Int} (ht : insB s' t = true) : nth (GA s dz s' src) (place s' t).toNat = nth dz (place s (src t)).toNat := by
  have h := cr_place he ht
  rw [GA_nth h.2, h.1]
theorem cr_in (he : errOf s' = 0) {i : Nat} (hi : i < (prod s').toNat) : insB s' (cr s' i) = true ∧ place s' (cr s' i) = i := cr_fact he (by omega)
theorem GA_ext (he : errOf s' = 0) {xs : List Int} (hl : xs.length = (prod s').toNat) (h : ∀ t, insB s' t = true → nth xs (place s' t).toNat = nth dz (place s (src t)).toNat) : xs = GA s dz s' src := by
  refine nth_ext (by rw [hl, GA_length]) fun i hi => ?_
  rw [hl] at hi
  have hc := cr_in he hi
  rw [GA_nth hi, ← h _ hc.1, hc.2, Int.toNat_natCast]
theorem GA_comp (he' : errOf s' = 0) (he'' : errOf s'' = 0) (h : ∀ t, insB s'' t = true → insB s' (src2 t) = true) : GA s' (GA s dz s' src) s'' src2 = GA s dz s'' (fun t => src (src2 t)) :=
  GA_ext he'' GA_length fun t ht => by rw [GA_at he'' ht, GA_at he' (h t ht)]
theorem GA_congr (he : errOf s' = 0) (h : ∀ t, insB s' t = true → src t = src' t) : GA s dz s' src = GA s dz s' src' :=
  GA_ext he GA_length fun t ht => by rw [GA_at he ht, h t ht]
theorem GA_id (he : errOf s = 0) (hd : (dz.length : Int) = prod s) (h : ∀ t, insB s t = true → src t = t) : GA s dz s src = dz :=
  (GA_ext he (by omega) fun t ht => by rw [h t ht]).symm
/-- Nothing is wrong with what is told. -/
theorem GA_in (hs : ∀ t, insB s' t = true → insB s (src t) = true) (he' : errOf s' = 0) (hd : (dz.length : Int) = prod s) {j : Nat} (hj : j < (prod s').toNat) : ∃ k, k < dz.length ∧ nth (GA s dz s' src) j = nth dz k := by
  have hc := cr_in he' hj
  have hb := place_bd (hs _ hc.1)
  exact ⟨_, by omega, GA_nth hj⟩
theorem GA_64 (T : ∀ j, In64 (nth dz j)) : ∀ j, In64 (nth (GA s dz s' src) j) := fun j => by
  by_cases hj : j < (prod s').toNat
  · rw [GA_nth hj]; exact T _
  · have : nth (GA s dz s' src) j = 0 := by simp [nth, List.getElem?_eq_none (show (GA s dz s' src).length ≤ j by rw [GA_length]; omega)]
    rw [this]; unfold In64; decide
theorem GA_flaw {c : Bool} (hf : flawE c s dz = 0) (he' : errOf s' = 0) (hs : ∀ t, insB s' t = true → insB s (src t) = true) : flawE c s' (GA s dz s' src) = 0 := by
  obtain ⟨h1, h2, h3⟩ := flawE_zero hf
  have hz := errOf_zero.1 he'
  have hp := prod_nonneg hz.2.1
  have hl : ((GA s dz s' src).length : Int) = prod s' := by rw [GA_length]; omega
  cases c
  · exact flawE_okn he' hl
  · refine flawE_okc he' hl ?_
    have hc := h3 rfl
    unfold chAll at *
    rw [List.all_eq_true] at *
    intro x hx
    obtain ⟨j, hj, rfl⟩ := List.mem_iff_getElem.1 hx
    rw [GA_length] at hj
    obtain ⟨k, hk, e⟩ := GA_in (dz := dz) hs he' h2 hj
    rw [← nth_get _ j (by rw [GA_length]; exact hj), e]
    exact hc _ (nth_mem dz k hk)
end
/-! ### The other way round, moved round, other axes -/
def revT (s : List Int) (x : Nat) (t : List Int) : List Int := t.set x (nth s x - 1 - nth t x)
def rotT (s : List Int) (n : Int) (x : Nat) (t : List Int) : List Int := t.set x ((nth t x + n) % nth s x)
def flpT (p : List Int) (t : List Int) : List Int := p.map fun k => nth t k.toNat
theorem flpT_nth (p t : List Int) {k : Nat} (h : k < p.length) : nth (flpT p t) k = nth t (nth p k).toNat := by simp [flpT, nth, h]
theorem flpT_length (p t : List Int) : (flpT p t).length = p.length := by simp [flpT]
section
variable {s t : List Int} {x y : Nat} {n m : Int}
theorem ins_at (h : insB s t = true) (hx : x < s.length) : 0 ≤ nth t x ∧ nth t x < nth s x := (insB_iff (insB_len h)).1 h x hx
theorem ins_set {v : Int} (h : insB s t = true) (hx : x < s.length) (hv : 0 ≤ v ∧ v < nth s x) : insB s (t.set x v) = true := by
  have hl := insB_len h
  rw [insB_iff (by rw [List.length_set]; exact hl)]
  intro k hk
  rw [nth_set _ _ _ _ (by omega)]
  split
  · rename_i e; rw [e]; exact hv
  · exact ins_at h hk
theorem revT_in (h : insB s t = true) (hx : x < s.length) : insB s (revT s x t) = true := ins_set h hx (by have := ins_at h hx; omega)
theorem rotT_in (h : insB s t = true) (hx : x < s.length) : insB s (rotT s n x t) = true := by
  have hb := ins_at h hx
  exact ins_set h hx ⟨Int.emod_nonneg _ (by omega), Int.emod_lt_of_pos _ (by omega)⟩
theorem revT_nth (h : insB s t = true) (hx : x < s.length) (k : Nat) : nth (revT s x t) k = if k = x then nth s x - 1 - nth t x else nth t k := nth_set _ _ _ _ (by rw [insB_len h]; exact hx)
theorem rotT_nth (h : insB s t = true) (hx : x < s.length) (k : Nat) : nth (rotT s n x t) k = if k = x then (nth t x + n) % nth s x else nth t k := nth_set _ _ _ _ (by rw [insB_len h]; exact hx)
theorem revT_length : (revT s x t).length = t.length := by simp [revT]
theorem rotT_length : (rotT s n x t).length = t.length := by simp [rotT]
theorem revT_twice (h : insB s t = true) (hx : x < s.length) : revT s x (revT s x t) = t := by
  refine nth_ext (by rw [revT_length, revT_length]) fun k _ => ?_
  rw [revT_nth (revT_in h hx) hx, revT_nth h hx, revT_nth h hx, if_pos rfl]
  split
  · rename_i e; rw [e]; omega
  · rfl
theorem revT_swap (h : insB s t = true) (hx : x < s.length) (hy : y < s.length) : revT s x (revT s y t) = revT s y (revT s x t) := by
  refine nth_ext (by simp only [revT_length]) fun k _ => ?_
  rw [revT_nth (revT_in h hy) hx, revT_nth (revT_in h hx) hy, revT_nth h hy, revT_nth h hy, revT_nth h hx, revT_nth h hx]
  by_cases e : x = y
  · subst e; rfl
  · by_cases a : k = x
    · subst a; rw [if_pos rfl, if_neg e, if_neg e, if_pos rfl]
    · rw [if_neg a]
      by_cases b : k = y
      · subst b; rw [if_pos rfl, if_pos rfl, if_neg a]
      · rw [if_neg b, if_neg b, if_neg a]
theorem rotT_add (h : insB s t = true) (hx : x < s.length) : rotT s m x (rotT s n x t) = rotT s (m + n) x t := by
  refine nth_ext (by simp only [rotT_length]) fun k _ => ?_
  rw [rotT_nth (rotT_in h hx) hx, rotT_nth h hx, rotT_nth h hx, rotT_nth h hx, if_pos rfl]
  split
  · rw [Int.emod_add_emod]
    congr 1
    omega
  · rfl
theorem rotT_len (h : insB s t = true) (hx : x < s.length) : rotT s (nth s x) x t = t := by
  have hb := ins_at h hx
  refine nth_ext rotT_length fun k _ => ?_
  rw [rotT_nth h hx]
  split
  · rename_i e
    rw [Int.add_emod_right, Int.emod_eq_of_lt hb.1 hb.2, e]
  · rfl
/-- One number below the length that differs from another one by some lengths is what is left of it. -/
theorem emod_is {a b L : Int} (h0 : 0 ≤ a) (h1 : a < L) (k : Int) (h : b = a + L * k) : b % L = a := by
  rw [h, Int.add_mul_emod_self_left, Int.emod_eq_of_lt h0 h1]
theorem rotT_mirror (h : insB s t = true) (hx : x < s.length) : revT s x (rotT s n x (revT s x t)) = rotT s (-n) x t := by
  have hb := ins_at h hx
  have h1 := revT_in h hx
  have hL : nth s x ≠ 0 := by omega
  refine nth_ext (by simp only [revT_length, rotT_length]) fun k _ => ?_
  rw [revT_nth (rotT_in h1 hx) hx, rotT_nth h1 hx, rotT_nth h1 hx, revT_nth h hx, revT_nth h hx, rotT_nth h hx, if_pos rfl, if_pos rfl]
  split
  · have e1 := Int.emod_nonneg (nth s x - 1 - nth t x + n) hL
    have e2 := Int.emod_lt_of_pos (nth s x - 1 - nth t x + n) (show 0 < nth s x by omega)
    have e3 := Int.mul_ediv_add_emod (nth s x - 1 - nth t x + n) (nth s x)
    refine (emod_is (by omega) (by omega) ((nth s x - 1 - nth t x + n) / nth s x * -1 ) ?_).symm
    have e4 : nth s x * ((nth s x - 1 - nth t x + n) / nth s x * -1) = - (nth s x * ((nth s x - 1 - nth t x + n) / nth s x)) := by rw [← Int.mul_assoc, Int.mul_neg, Int.mul_one]
    omega
  · rfl
end
/-! ### Orders of axes -/
section
variable {s s' p t : List Int}
theorem flpT_in (ho : IsOrd p) (hl : p.length = s.length) (ha : AxSpec s p s') (h : insB s' t = true) : insB s (flpT p t) = true := by
  have hl' := insB_len h
  rw [insB_iff (by rw [flpT_length]; exact hl)]
  intro k hk
  rw [flpT_nth p t (by omega), ← ha.2 k hk]
  have := ho.1 k (by omega)
  exact ins_at h (by have := ha.1; omega)
theorem flpT_comp {q r : List Int} (ho : IsOrd p) (hq : q.length = p.length) (hr : r.length = p.length) (h : ∀ k, k < p.length → nth r k = nth q (nth p k).toNat) : flpT p (flpT q t) = flpT r t := by
  refine nth_ext (by rw [flpT_length, flpT_length, hr]) fun k hk => ?_
  rw [flpT_length] at hk
  have := ho.1 k hk
  rw [flpT_nth p _ hk, flpT_nth q t (by omega), flpT_nth r t (by omega), h k hk]
theorem flpT_back {q : List Int} (ho : IsOrd p) (hq : BkSpec p q) (hl : t.length = p.length) : flpT p (flpT q t) = t := by
  refine nth_ext (by rw [flpT_length, hl]) fun k hk => ?_
  rw [flpT_length] at hk
  have := ho.1 k hk
  rw [flpT_nth p _ hk, flpT_nth q t (by have := hq.1; omega), hq.2 k hk, Int.toNat_natCast]
theorem ax_err {s' : List Int} (ho : IsOrd p) (hl : p.length = s.length) (ha : AxSpec s p s') (he : errOf s = 0) : errOf s' = 0 := errOf_perm (ha.perm ho hl).symm he
theorem ax_prod {s' : List Int} (ho : IsOrd p) (hl : p.length = s.length) (ha : AxSpec s p s') : prod s' = prod s := prod_perm (ha.perm ho hl)
/-- By one order and then by another one: the order of both. -/
theorem ax_comp {s' s'' q r : List Int} (hop : IsOrd p) (hoq : IsOrd q) (hl : p.length = s.length) (hq : q.length = p.length) (hr : r.length = p.length) (h : ∀ k, k < p.length → nth r k = nth q (nth p k).toNat) (ha : AxSpec s p s') (hb : AxSpec s' q s'') :
    IsOrd r ∧ AxSpec s r s'' := by
  refine ⟨⟨fun j hj => ?_, fun i j hij hj e => ?_⟩, hb.1.trans ha.1, fun k hk => ?_⟩
  · have b := hop.1 j (by omega)
    rw [h j (by omega)]
    have := hoq.1 (nth p j).toNat (by omega)
    omega
  · have bi := hop.1 i (by omega)
    have bj := hop.1 j (by omega)
    rw [h i (by omega), h j (by omega)] at e
    have := hoq.inj (by omega) (by omega) e
    exact absurd (hop.inj (i := i) (j := j) (by omega) (by omega) (by omega)) (by omega)
  · have b := hop.1 k (by omega)
    rw [h k (by omega), hb.2 _ (by have := ha.1; omega), ha.2 k hk]
end
end Go.Proofs.YtcpmendkocnlhaaDoor
/-! Capi: Slices that have as much room as they are long, at least. -/
namespace Go.Proofs.YtcpmendkocnlhaaDoor
open Go.ChangeShapes Go.WideShapes Go.ChangeAt Go.RowKit Go.Deep
set_option linter.unusedVariables false

/-! ### A slice that has as much room as it is long, at least -/
def IsC (n₀ : Nat) (W : World) (a : Option Addr) (zs : List Int) (cap : Nat) : Prop := IsInts n₀ W a zs ∧ zs.length ≤ cap
def NewC (lo : Nat) (W : World) (a : Option Addr) (zs : List Int) (cap : Nat) : Prop := NewInts lo W a zs ∧ zs.length ≤ cap
section
variable {n₀ n₁ lo : Nat} {A B W : World} {a : Option Addr} {zs : List Int} {cap : Nat}
theorem IsC.below (h : Below n₀ A B) (k : IsC n₀ A a zs cap) : IsC n₀ B a zs cap := ⟨k.1.below h, k.2⟩
theorem IsC.mono (h : n₀ ≤ n₁) (k : IsC n₀ A a zs cap) : IsC n₁ A a zs cap := ⟨k.1.mono h, k.2⟩
theorem NewC.ints (h : NewC lo W a zs cap) : IsC W.heap.size W a zs cap := ⟨h.1.ints, h.2⟩
theorem NewC.low {lo' : Nat} (h : lo' ≤ lo) (k : NewC lo W a zs cap) : NewC lo' W a zs cap := ⟨k.1.low h, k.2⟩
theorem NewC.go {W' : World} (hB : Below W.heap.size W W') (h : NewC lo W a zs cap) : NewC lo W' a zs cap := ⟨h.1.go hB, h.2⟩
theorem NewC.set3 {b : Nat} (hb : b < lo) (x y z : Value) (h : NewC lo W a zs cap) : NewC lo (((W.setCell ⟨b, 0, none⟩ x).setCell ⟨b, 1, none⟩ y).setCell ⟨b, 2, none⟩ z) a zs cap := ⟨h.1.set3 hb x y z, h.2⟩
theorem NewC.al (h : NewC lo W a zs cap) (o : Obj) : NewC lo (W.alloc o) a zs cap := ⟨h.1.al o, h.2⟩
theorem NewC.dr (h : NewC lo W a zs cap) : NewC lo W.drew a zs cap := h
theorem IsInts.c (h : IsInts n₀ W a zs) (k : zs.length ≤ cap) : IsC n₀ W a zs cap := ⟨h, k⟩
end
theorem own_cap {w : World} {base : Nat} {e : TypeId} {v : Value} {n : Nat} {xs : List Int} (h : w.ownsRow base e 1 v n (xs.map (Value.int .i64))) :
    ∃ g cap, v = .slice g xs.length cap ∧ NewC base w g xs cap := by
  obtain ⟨g, cap, rfl, hN⟩ := owns_new h
  refine ⟨g, cap, rfl, hN, ?_⟩
  rcases h.2 with ⟨e1, _⟩ | ⟨g', cap', cur, e1, _, _, h1, _⟩
  · simp only [Value.slice.injEq] at e1; omega
  · simp only [Value.slice.injEq] at e1; have := h.1; simp only [List.length_map] at this; omega
/-- The lengths and the cells of an array that came in, and that its shape has room. -/
def IsArrC (W : World) (sa : Option Addr) (sz : List Int) (sc : Nat) (da : Option Addr) (dz : List Int) : Prop :=
  sz.length ≤ 9223372036854775807 ∧ dz.length ≤ 9223372036854775807 ∧ IsC W.heap.size W sa sz sc ∧ IsInts W.heap.size W da dz ∧ (∀ j, In64 (nth sz j)) ∧ ∀ j, In64 (nth dz j)
theorem IsArrC.arr {W : World} {sa : Option Addr} {sz : List Int} {sc : Nat} {da : Option Addr} {dz : List Int} (h : IsArrC W sa sz sc da dz) : IsArr W sa sz da dz := ⟨h.1, h.2.1, h.2.2.1.1, h.2.2.2⟩
set_option maxRecDepth 100000 in
theorem open_slC {H : Type} {enc : TypeId × Value → H} {W : World} {fuel : Nat} {x : Value} {y : DataW H × List MemPlace} (h : DataW.trod enc Tryd.prog W 0 (fun _ => true) true fuel 23 [x] = some y) :
    ∃ (a : Option Addr) (c : Nat) (z : List Int), x = .slice a z.length c ∧ z.length ≤ 9223372036854775807 ∧ IsInts W.heap.size W a z ∧ (∀ j, In64 (nth z j)) ∧ z.length ≤ c := by
  rcases open_ints Tryd.underlying23 Tryd.underlying3 (by kernel_rfl) h with ⟨hcs, _⟩ | ⟨x', l, c, zs, hcs, _, hl, hm, hz, _, hcell, hwz⟩
  · obtain rfl := (List.cons.inj hcs).1
    exact ⟨none, 0, [], rfl, by simp, .inl rfl, fun j => by rw [nth_nil]; unfold In64; decide, Nat.le_refl _⟩
  · obtain rfl := (List.cons.inj hcs).1
    obtain ⟨z, hz1, hz2, hz3, hz4⟩ := row_ints (w := W) (a := some x') (len := l) (cap := c) (z := zs) (.inr ⟨x', rfl, hl, hm, by simpa using hz, hcell, hwz⟩)
    exact ⟨some x', c, z, by rw [hz1], hz2, hz3, hz4, by omega⟩
set_option maxRecDepth 100000 in
theorem open_arrC {H : Type} {enc : TypeId × Value → H} {W : World} {base : Nat} {v : Value} {d : DataW H} {p : List MemPlace} (hv : Value.okWide Tryd.prog W .any base 25 v)
    (h : DataW.Trod enc Tryd.prog W 0 (fun _ => true) true 25 v d p) :
    ∃ (c : Bool) (sa : Option Addr) (sc : Nat) (sz : List Int) (da : Option Addr) (dc : Nat) (dz : List Int), v = .agg #[.bool c, .slice sa sz.length sc, .slice da dz.length dc] ∧ IsArrC W sa sz sc da dz := by
  obtain ⟨cs, rfl, hsz⟩ := okWide_struct Tryd.underlying25 hv
  rw [show Tryd.prog.cellsOf 25 = 3 by kernel_rfl] at hsz
  obtain ⟨x0, x1, x2, rfl⟩ := three hsz
  obtain ⟨fuel, hf⟩ := h
  obtain ⟨y0, y1, y2, n, _, _, h0, h1, h2⟩ := trod_struct3 Tryd.underlying25 hf
  have e0 : DataW.trod enc Tryd.prog W 0 (fun _ => true) true n 4 [x0] = some y0 := by
    have := h0
    rw [show Tryd.prog.cellsOf 4 = 1 by kernel_rfl] at this
    exact this
  have e1 : DataW.trod enc Tryd.prog W 0 (fun _ => true) true n 23 [x1] = some y1 := by
    have := h1
    rw [show Tryd.prog.cellsOf 23 = 1 by kernel_rfl] at this
    exact this
  have e2 : DataW.trod enc Tryd.prog W 0 (fun _ => true) true n 23 [x2] = some y2 := by
    have := h2
    rw [show Tryd.prog.cellsOf 23 = 1 by kernel_rfl] at this
    exact this
  obtain ⟨sa, sc, sz, rfl, s1, s2, s3, s4⟩ := open_slC e1
  obtain ⟨da, dc, dz, rfl, d1, d2, d3, d4⟩ := open_slC e2
  obtain ⟨c, hc, _⟩ := DataW.trod_bool Tryd.underlying4 e0
  obtain rfl := (List.cons.inj hc).1
  exact ⟨c, sa, sc, sz, da, dc, dz, rfl, s1, d1, ⟨s2, s4⟩, d2, s3, d3⟩
end Go.Proofs.YtcpmendkocnlhaaDoor
/-! Turnq: Answers of the turns in one form. -/
namespace Go.Proofs.YtcpmendkocnlhaaDoor
open Go.RowKit
set_option linter.unusedVariables false

/-! ### Errors and answers -/
/-- Is there such an axis? -/
def axE (x : Int) (c : Bool) (sz dz : List Int) : Int := if flawE c sz dz ≠ 0 then flawE c sz dz else if x < 0 ∨ (sz.length : Int) ≤ x then 5 else 0
def flE (p : List Int) (c : Bool) (sz dz : List Int) : Int := if flawE c sz dz ≠ 0 then flawE c sz dz else axErr sz p
/-- Only where nothing is wrong. -/
def onl (e : Int) (xs : List Int) : List Int := if e = 0 then xs else []
def onc (e : Int) (c : Bool) : Bool := if e = 0 then c else false
theorem onl_ok {e : Int} (h : e = 0) (xs : List Int) : onl e xs = xs := if_pos h
theorem onl_no {e : Int} (h : e ≠ 0) (xs : List Int) : onl e xs = [] := if_neg h
theorem onc_ok {e : Int} (h : e = 0) (c : Bool) : onc e c = c := if_pos h
theorem onc_no {e : Int} (h : e ≠ 0) (c : Bool) : onc e c = false := if_neg h
theorem axE_zero {x : Int} {c : Bool} {sz dz : List Int} : axE x c sz dz = 0 ↔ flawE c sz dz = 0 ∧ 0 ≤ x ∧ x.toNat < sz.length := by
  unfold axE
  by_cases h : flawE c sz dz = 0
  · rw [if_neg (by simpa using h)]
    by_cases h2 : x < 0 ∨ (sz.length : Int) ≤ x
    · rw [if_pos h2]; exact ⟨fun e => absurd e (by decide), fun e => by omega⟩
    · rw [if_neg h2]; exact ⟨fun _ => ⟨h, by omega, by omega⟩, fun _ => rfl⟩
  · rw [if_pos h]; exact ⟨fun e => absurd e h, fun e => absurd e.1 h⟩
theorem flE_zero {p : List Int} {c : Bool} {sz dz : List Int} : flE p c sz dz = 0 ↔ flawE c sz dz = 0 ∧ p.length = sz.length ∧ IsOrd p := by
  unfold flE
  by_cases h : flawE c sz dz = 0
  · rw [if_neg (by simpa using h), axErr_zero]
    exact ⟨fun e => ⟨h, e.2.1, e.2.2⟩, fun e => ⟨(flawE_zero h).1, e.2.1, e.2.2⟩⟩
  · rw [if_pos h]; exact ⟨fun e => absurd e h, fun e => absurd e.1 h⟩
section
variable (x n : Int) (p : List Int) (c : Bool) (sz dz : List Int)
def rvD5 : List Int := onl (axE x c sz dz) (GA sz dz sz (revT sz x.toNat))
def rtD5 : List Int := onl (axE x c sz dz) (GA sz dz sz (rotT sz n x.toNat))
def axS5 : List Int := onl (axE x c sz dz) sz
def flS5 : List Int := onl (flE p c sz dz) (axVal sz p)
def flD5 : List Int := onl (flE p c sz dz) (GA sz dz (axVal sz p) (flpT p))
end
/-- An array and an error, whichever it is. -/
def UA (e : Int) (c : Bool) (S D : List Int) (w : World) (r : Ending) (w' : World) : Prop :=
  ∃ xa xc ya yc, r = .returned (.tuple #[.agg #[.bool c, .slice xa S.length xc, .slice ya D.length yc], errV e]) ∧ NewC w.heap.size w' xa S xc ∧ NewInts w.heap.size w' ya D ∧ Below w.heap.size w w'
end Go.Proofs.YtcpmendkocnlhaaDoor
