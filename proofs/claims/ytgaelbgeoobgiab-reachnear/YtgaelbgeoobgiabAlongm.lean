/-
  Plain mathematics of cells along one axis, and of places told by steps; nothing of the program.
-/
import Derived.Test.YtgaelbgeoobgiabTurnm
namespace Go.Proofs.Ytgaelbgeoobgiab
open Go.RowKit
set_option linter.unusedVariables false

/-- How many places two cells next to each other on an axis are apart. -/
def stp (s : List Int) (x : Nat) : Int := prod (s.drop (x + 1))
theorem stp_zero (a : Int) (s : List Int) : stp (a :: s) 0 = prod s := by simp [stp]
theorem stp_succ (a : Int) (s : List Int) (x : Nat) : stp (a :: s) (x + 1) = stp s x := by simp [stp]
theorem al_prod {s : List Int} (h : AllPos s) : 0 < prod s := by
  induction s with
  | nil => simp [prod]
  | cons x r ih => exact Int.mul_pos (h x List.mem_cons_self) (ih h.tail)
theorem al_drop {s : List Int} (h : AllPos s) (k : Nat) : AllPos (s.drop k) := fun y hy => h y (List.mem_of_mem_drop hy)
theorem al_take {s : List Int} (h : AllPos s) (k : Nat) : AllPos (s.take k) := fun y hy => h y (List.mem_of_mem_take hy)
theorem stp_pos {s : List Int} (h : AllPos s) (x : Nat) : 0 < stp s x := al_prod (al_drop h _)
theorem al_pos {s t : List Int} (h : insB s t = true) : AllPos s := fun y hy => by
  obtain ⟨j, hj, rfl⟩ := List.mem_iff_getElem.1 hy
  have := ins_at h hj
  rw [← nth_get s j hj]
  omega
theorem al_split (s : List Int) {x : Nat} (hx : x < s.length) : prod s = prod (s.take x) * (nth s x * stp s x) := by
  have e := prod_append (s.take x) (s.drop x)
  rw [List.take_append_drop, drop_nth s x hx] at e
  exact e
/-- No more than 4096 cells: no step is longer. -/
theorem stp_le {s : List Int} (h : AllPos s) {x : Nat} (hx : x < s.length) : nth s x * stp s x ≤ prod s := by
  have e := al_split s hx
  have h1 := al_prod (al_take h x)
  have h2 := stp_pos h x
  have h3 := h _ (nth_mem s x hx)
  have h4 : 0 ≤ nth s x * stp s x := Int.le_of_lt (Int.mul_pos h3 h2)
  have : 1 * (nth s x * stp s x) ≤ prod (s.take x) * (nth s x * stp s x) := Int.mul_le_mul_of_nonneg_right (by omega) h4
  omega
theorem place_set : ∀ {s t : List Int} {x : Nat} (v : Int), t.length = s.length → x < s.length → place s (t.set x v) = place s t + (v - nth t x) * stp s x
  | [], _, _, _, _, h => by simp at h
  | _ :: _, [], _, _, h, _ => by simp at h
  | b :: s, a :: t, 0, v, hl, _ => by
    simp only [List.set_cons_zero, place, nth_zero, stp_zero, Int.sub_mul]
    omega
  | b :: s, a :: t, x + 1, v, hl, hx => by
    have ih := place_set (s := s) (t := t) (x := x) v (by simpa using hl) (by simpa using hx)
    simp only [List.set_cons_succ, place, nth_succ, stp_succ, ih]
    omega
/-- The index on an axis, out of the place. -/
theorem idx_at : ∀ {s t : List Int} {x : Nat}, insB s t = true → x < s.length → place s t / stp s x % nth s x = nth t x
  | [], _, _, _, h => by simp at h
  | _ :: _, [], _, h, _ => by simp [insB] at h
  | b :: s, a :: t, 0, h, _ => by
    have h1 := ins_cons.1 h
    have hb := place_bd h1.2
    simp only [place, nth_zero, stp_zero]
    have e : (a * prod s + place s t) / prod s = a := by
      rw [Int.add_comm, Int.add_mul_ediv_right _ _ (by omega), Int.ediv_eq_zero_of_lt hb.1 hb.2]; omega
    rw [e, Int.emod_eq_of_lt h1.1.1 h1.1.2]
  | b :: s, a :: t, x + 1, h, hx => by
    have h1 := ins_cons.1 h
    have hx' : x < s.length := by simpa using hx
    have ih := idx_at (s := s) (t := t) (x := x) h1.2 hx'
    have hp := stp_pos (al_pos h1.2) x
    simp only [place, nth_succ, stp_succ]
    have e : a * prod s + place s t = place s t + (a * prod (s.take x) * nth s x) * stp s x := by
      rw [al_split s hx', Int.add_comm]
      congr 1
      rw [Int.mul_assoc, Int.mul_assoc]
    rw [e, Int.add_mul_ediv_right _ _ (by omega), Int.add_mul_emod_self_right]
    exact ih
/-- The place at which that stood which is now at the place j: on one axis the index i was g i. -/
def mvP (s : List Int) (x : Nat) (g : Int → Int) (j : Int) : Int := j + (g (j / stp s x % nth s x) - j / stp s x % nth s x) * stp s x
def mvT (x : Nat) (g : Int → Int) (t : List Int) : List Int := t.set x (g (nth t x))
theorem mvP_at {s : List Int} (he : errOf s = 0) {x : Nat} (hx : x < s.length) {j : Nat} (hj : (j : Int) < prod s) (g : Int → Int) : (j : Int) / stp s x % nth s x = nth (cr s j) x ∧ mvP s x g j = place s (mvT x g (cr s j)) := by
  obtain ⟨h1, h2⟩ := cr_fact he hj
  have e : (j : Int) / stp s x % nth s x = nth (cr s j) x := by rw [← idx_at h1 hx, h2]
  refine ⟨e, ?_⟩
  unfold mvP mvT
  rw [place_set _ (cr_length s j) hx, h2, e]
theorem mvT_in {s t : List Int} {x : Nat} {g : Int → Int} (h : insB s t = true) (hx : x < s.length) (hg : ∀ i, 0 ≤ i → i < nth s x → 0 ≤ g i ∧ g i < nth s x) : insB s (mvT x g t) = true := by
  have hb := ins_at h hx
  exact ins_set h hx (hg _ hb.1 hb.2)
theorem rev_mvT (s : List Int) (x : Nat) : revT s x = mvT x (fun i => nth s x - 1 - i) := rfl
theorem rot_mvT (s : List Int) (n : Int) (x : Nat) : rotT s n x = mvT x (fun i => (i + n) % nth s x) := rfl
/-- All that the program needs of one round: no number is too great, the cell is there, and it is the one. -/
theorem mv_round {s dz : List Int} (he : errOf s = 0) (hd : (dz.length : Int) = prod s) {x : Nat} (hx : x < s.length) {j : Nat} (hj : j < dz.length) {g : Int → Int} (hg : ∀ i, 0 ≤ i → i < nth s x → 0 ≤ g i ∧ g i < nth s x) :
    0 < stp s x ∧ stp s x ≤ 4096 ∧ 0 < nth s x ∧ nth s x ≤ 4096 ∧ (∃ i : Nat, (j : Int) / stp s x % nth s x = i ∧ (i : Int) < nth s x ∧ mvP s x g j = j + (g i - i) * stp s x ∧ (g i - i) * stp s x ≤ 16777216 ∧ -16777216 ≤ (g i - i) * stp s x ∧ 0 ≤ g i ∧ g i < nth s x) ∧ ∃ m : Nat, m < dz.length ∧ mvP s x g j = m ∧ nth dz m = nth (GA s dz s (mvT x g)) j := by
  have hz := errOf_zero.1 he
  have hj' : (j : Int) < prod s := by omega
  obtain ⟨h1, h2⟩ := cr_fact he hj'
  obtain ⟨e1, e2⟩ := mvP_at he hx hj' g
  have hp := al_pos h1
  have hb := ins_at h1 hx
  have hs1 := stp_pos hp x
  have hs2 := stp_le hp hx
  have hn := hz.2.1.nth x
  have hgb := hg _ hb.1 hb.2
  have hin := mvT_in h1 hx hg
  have hpb := place_bd hin
  have hs3 : 1 * stp s x ≤ nth s x * stp s x := Int.mul_le_mul_of_nonneg_right (by omega) (by omega)
  have hs4 : stp s x ≤ 4096 := by omega
  refine ⟨hs1, hs4, by omega, hn.2, ⟨(nth (cr s j) x).toNat, by omega, by omega, ?_⟩, (place s (mvT x g (cr s j))).toNat, by omega, by omega, ?_⟩
  · have ei : ((nth (cr s j) x).toNat : Int) = nth (cr s j) x := by omega
    rw [ei]
    have hab : g (nth (cr s j) x) - nth (cr s j) x ≤ 4096 ∧ -4096 ≤ g (nth (cr s j) x) - nth (cr s j) x := by omega
    refine ⟨by unfold mvP; rw [e1], ?_, ?_, hgb⟩
    · have : (g (nth (cr s j) x) - nth (cr s j) x) * stp s x ≤ 4096 * 4096 := Int.le_trans (Int.mul_le_mul_of_nonneg_right hab.1 (by omega)) (Int.mul_le_mul_of_nonneg_left hs4 (by omega))
      omega
    · have h5 : (-4096) * stp s x ≤ (g (nth (cr s j) x) - nth (cr s j) x) * stp s x := Int.mul_le_mul_of_nonneg_right hab.2 (by omega)
      omega
  · rw [GA_nth (by omega)]
/-! ### Sums -/
def sumI : List Int → Int
  | [] => 0
  | x :: r => x + sumI r
theorem sumI_perm {a b : List Int} (h : a.Perm b) : sumI a = sumI b := by
  induction h with
  | nil => rfl
  | cons x _ ih => simp only [sumI, ih]
  | swap x y l => simp only [sumI]; omega
  | trans _ _ ih1 ih2 => exact ih1.trans ih2
/-- The first n of f, together. -/
def sumR (n : Nat) (f : Nat → Int) : Int := sumI ((List.range n).map f)
theorem sumR_succ (n : Nat) (f : Nat → Int) : sumR (n + 1) f = f 0 + sumR n (fun k => f (k + 1)) := by
  unfold sumR
  rw [List.range_succ_eq_map, List.map_cons, List.map_map]
  rfl
theorem sumR_congr {n : Nat} {f g : Nat → Int} (h : ∀ k, k < n → f k = g k) : sumR n f = sumR n g := by
  unfold sumR
  rw [List.map_congr_left fun k hk => h k (List.mem_range.1 hk)]
theorem sumR_ord {p : List Int} (h : IsOrd p) (f : Nat → Int) : sumR p.length f = sumR p.length (fun k => f (nth p k).toNat) := by
  have e := sumI_perm ((nats_perm h).map f)
  unfold sumR
  rw [← e]
  congr 1
  apply List.ext_getElem (by simp [nats_length])
  intro i h1 h2
  rw [List.length_map, nats_length] at h1
  rw [List.getElem_map, List.getElem_map, List.getElem_range]
  have := nats_get p i h1
  rw [List.getElem?_eq_getElem (by rw [nats_length]; exact h1)] at this
  rw [Option.some.inj this]
theorem place_sum : ∀ {s t : List Int}, t.length = s.length → place s t = sumR s.length (fun k => nth t k * stp s k)
  | [], [], _ => rfl
  | [], _ :: _, h => by simp at h
  | _ :: _, [], h => by simp at h
  | b :: s, a :: t, h => by
    have ih := place_sum (s := s) (t := t) (by simpa using h)
    rw [List.length_cons, sumR_succ]
    simp only [nth_zero, stp_zero, nth_succ, stp_succ, place, ih]
/-- Indices times steps, together, from the last axis on. -/
def dotL : List Int → List Int → Int
  | a :: t, b :: u => dotL t u + a * b
  | _, _ => 0
theorem dotL_sum : ∀ {t u : List Int}, u.length = t.length → dotL t u = sumR t.length (fun k => nth t k * nth u k)
  | [], [], _ => rfl
  | [], _ :: _, h => by simp at h
  | _ :: _, [], h => by simp at h
  | a :: t, b :: u, h => by
    have ih := dotL_sum (t := t) (u := u) (by simpa using h)
    rw [List.length_cons, sumR_succ]
    simp only [nth_zero, nth_succ, dotL, ih]
    omega
/-- The steps of another shape's axes: that of axis p[k] is that of axis k. -/
def StSpec (s p u : List Int) : Prop := u.length = s.length ∧ ∀ k, k < s.length → nth u (nth p k).toNat = stp s k
theorem flp_dot {s p u t : List Int} (ho : IsOrd p) (hl : p.length = s.length) (hu : StSpec s p u) (ht : t.length = s.length) : dotL t u = place s (flpT p t) := by
  rw [dotL_sum (by rw [hu.1, ht]), place_sum (by rw [flpT_length, hl]), ht, ← hl, sumR_ord ho]
  refine sumR_congr fun k hk => ?_
  rw [flpT_nth p t hk, hu.2 k (by omega)]
/-- The steps as the program puts them: those of the first k axes. -/
def stk (s p : List Int) : Nat → List Int
  | 0 => List.replicate p.length 0
  | k + 1 => (stk s p k).set (nth p k).toNat (stp s k)
theorem stk_length (s p : List Int) : ∀ k, (stk s p k).length = p.length
  | 0 => by simp [stk]
  | k + 1 => by simp [stk, stk_length s p k]
theorem stk_at {s p : List Int} (ho : IsOrd p) : ∀ k, k ≤ p.length → ∀ i, i < k → nth (stk s p k) (nth p i).toNat = stp s i
  | 0, _, i, h => by omega
  | k + 1, hk, i, h => by
    have b := ho.1 k (by omega)
    have bi := ho.1 i (by omega)
    simp only [stk]
    rw [nth_set _ _ _ _ (by rw [stk_length]; omega)]
    by_cases e : i = k
    · rw [if_pos (by rw [e]), e]
    · have hne : (nth p i).toNat ≠ (nth p k).toNat := fun e2 => e (ho.inj (by omega) (by omega) (by omega))
      rw [if_neg hne]
      exact stk_at ho k (by omega) i (by omega)
theorem stk_spec {s p : List Int} (ho : IsOrd p) (hl : p.length = s.length) : StSpec s p (stk s p p.length) :=
  ⟨by rw [stk_length, hl], fun k hk => stk_at ho _ (Nat.le_refl _) k (by omega)⟩
theorem stk_bd {s p : List Int} (hb : ∀ k, 0 ≤ stp s k ∧ stp s k ≤ 1152921504606846976) : ∀ k j, 0 ≤ nth (stk s p k) j ∧ nth (stk s p k) j ≤ 1152921504606846976
  | 0, j => by simp only [stk, nth_replicate]; omega
  | k + 1, j => by
    simp only [stk]
    by_cases h : (nth p k).toNat < (stk s p k).length
    · rw [nth_set _ _ _ _ h]
      split
      · exact hb k
      · exact stk_bd hb k j
    · rw [List.set_eq_of_length_le (by omega)]
      exact stk_bd hb k j
/-! ### What the program reckons of a place -/
def sstep (zs u : List Int) (q : Int × Int) (x : Ax zs.length) : Int × Int := (wrap64 (q.1 + wrap64 (q.2.tmod (nth zs x.1) * nth u x.1)), q.2.tdiv (nth zs x.1))
def srV (zs u : List Int) (p : Int) (pre : List (Ax zs.length)) : Int := (pre.foldl (sstep zs u) (0, p)).1
def srQ (zs u : List Int) (p : Int) (pre : List (Ax zs.length)) : Int := (pre.foldl (sstep zs u) (0, p)).2
theorem srV_snoc (zs u : List Int) (p : Int) (pre : List (Ax zs.length)) (k : Nat) (hk : k < zs.length) : srV zs u p (pre ++ [⟨k, hk⟩]) = wrap64 (srV zs u p pre + wrap64 ((srQ zs u p pre).tmod (nth zs k) * nth u k)) := by
  simp only [srV, srQ, List.foldl_append, List.foldl_cons, List.foldl_nil, sstep]
theorem srQ_snoc (zs u : List Int) (p : Int) (pre : List (Ax zs.length)) (k : Nat) (hk : k < zs.length) : srQ zs u p (pre ++ [⟨k, hk⟩]) = (srQ zs u p pre).tdiv (nth zs k) := by
  simp only [srQ, List.foldl_append, List.foldl_cons, List.foldl_nil, sstep]
theorem srQ_fold_bd {zs u : List Int} (h : AllPos zs) : ∀ (pre : List (Ax zs.length)) (s : Int × Int), 0 ≤ s.2 → 0 ≤ (pre.foldl (sstep zs u) s).2 ∧ (pre.foldl (sstep zs u) s).2 ≤ s.2
  | [], s, hs => ⟨hs, Int.le_refl _⟩
  | x :: pre, s, hs => by
    have hx := h _ (nth_mem zs x.1 x.2)
    have e1 : 0 ≤ s.2.tdiv (nth zs x.1) := Int.tdiv_nonneg hs (by omega)
    have e2 : s.2.tdiv (nth zs x.1) ≤ s.2 := by
      have ed := Int.tmod_add_mul_tdiv s.2 (nth zs x.1)
      have em := Int.tmod_nonneg (nth zs x.1) hs
      have : 1 * s.2.tdiv (nth zs x.1) ≤ nth zs x.1 * s.2.tdiv (nth zs x.1) := Int.mul_le_mul_of_nonneg_right (by omega) e1
      omega
    have ih := srQ_fold_bd (u := u) h pre (sstep zs u s x) e1
    rw [List.foldl_cons]
    have e3 : (sstep zs u s x).2 = s.2.tdiv (nth zs x.1) := rfl
    omega
theorem srQ_bd {zs u : List Int} (h : AllPos zs) {p : Int} (hp : 0 ≤ p) (pre : List (Ax zs.length)) : 0 ≤ srQ zs u p pre ∧ srQ zs u p pre ≤ p := srQ_fold_bd h pre (0, p) hp
theorem dot_wrap {t : List Int} {u : List Int} {x b : Int} : wrap64 (wrap64 (dotL t u) + wrap64 (x * b)) = wrap64 (dotL t u + x * b) := by unfold wrap64; omega
theorem srfold (zs u : List Int) (hl : u.length = zs.length) (p : Int) : (dn zs.length zs.length).foldl (sstep zs u) (0, p) = (wrap64 (dotL (crd zs p).1 u), (crd zs p).2) := by
  have := fold_dn zs.length (sstep zs u) (fun k => (wrap64 (dotL (crd (zs.drop k) p).1 (u.drop k)), (crd (zs.drop k) p).2)) (fun k hk => by
    simp only [sstep]
    rw [drop_nth zs k hk, drop_nth u k (by omega)]
    simp only [crd, dotL, dot_wrap]) zs.length (Nat.le_refl _)
  have e0 : zs.length - zs.length = 0 := by omega
  simpa [crd, dotL, e0, show wrap64 0 = 0 from by unfold wrap64; omega] using this
/-- All that the program needs: what it reckons is the cell's place. -/
theorem sr_place {s s' p u : List Int} (ho : IsOrd p) (hl : p.length = s.length) (ha : AxSpec s p s') (he : errOf s = 0) (hu : StSpec s p u) {j : Nat} (hj : (j : Int) < prod s) :
    ∃ m : Nat, (m : Int) < prod s ∧ srV s' u j (dn s'.length s'.length) = m ∧ place s (flpT p (cr s' j)) = m := by
  have he' := ax_err ho hl ha he
  have hp' := ax_prod ho hl ha
  obtain ⟨h1, h2⟩ := cr_fact (zs := s') (i := j) he' (by omega)
  have hin := flpT_in ho hl ha h1
  have hb := place_bd hin
  have hz := errOf_zero.1 he
  refine ⟨(place s (flpT p (cr s' j))).toNat, by omega, ?_, by omega⟩
  unfold srV
  rw [srfold s' u (by rw [hu.1, ha.1])]
  show wrap64 (dotL (cr s' j) u) = _
  rw [flp_dot ho hl hu (by rw [cr_length, ha.1])]
  unfold wrap64
  omega
theorem prod_le60 : ∀ {s : List Int} (m : Nat), AllIn s → s.length ≤ m → prod s ≤ 4096 ^ m
  | [], m, _, _ => by
    have h : (0 : Int) < 4096 ^ m := Int.pow_pos (by decide)
    exact Int.add_one_le_of_lt h
  | x :: s, 0, _, h => by simp at h
  | x :: s, m + 1, ha, h => by
    have hx := ha x List.mem_cons_self
    have ih := prod_le60 (s := s) m ha.tail (by simpa using h)
    have h0 := prod_nonneg ha.tail
    simp only [prod, Int.pow_succ]
    rw [Int.mul_comm]
    exact Int.mul_le_mul ih hx.2 hx.1 (by omega)
/-- A few lengths' product is not too great. -/
theorem prod_60 {s : List Int} (ha : AllIn s) (h : s.length ≤ 5) : 0 ≤ prod s ∧ prod s ≤ 1152921504606846976 := ⟨prod_nonneg ha, prod_le60 5 ha h⟩
theorem stp_60 {s : List Int} (he : errOf s = 0) (x : Nat) : 0 ≤ stp s x ∧ stp s x ≤ 1152921504606846976 := by
  have hz := errOf_zero.1 he
  exact prod_60 (hz.2.1.drop _) (by rw [List.length_drop]; omega)
theorem prod_take1 (zs : List Int) (k : Nat) (h : k < zs.length) : prod (zs.take (k + 1)) = prod (zs.take k) * nth zs k := by
  rw [List.take_succ_eq_append_getElem h, prod_append, nth_get zs k h]
  simp [prod]
end Go.Proofs.Ytgaelbgeoobgiab
