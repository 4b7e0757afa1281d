/-
  Alongm Cycd Cutm Cutl Cutn, together.
-/
import Derived.Test.YtjaabemlpiafaaaDoorTurnm
import Derived.Test.YtjaabemlpiafaaaDoorBase
import Derived.Test.YtjaabemlpiafaaaDoorTurnq
/-! Alongm: Plain mathematics of cells along one axis, and of places told by steps; nothing of the program. -/
namespace Go.Proofs.YtjaabemlpiafaaaDoor
open Go.RowKit
set_option linter.unusedVariables false

/-- How many places two cells next to each other on an axis are apart. -/
def stp (s : List Int) (x : Nat) : Int := prod (s.drop (x + 1))
theorem stp_zero (a : Int) (s : List Int) : stp (a :: s) 0 = prod s := by simp [stp]
theorem stp_succ (a : Int) (s : List Int) (x : Nat) : stp (a :: s) (x + 1) = stp s x := by simp [stp]
theorem al_prod {s : List Int} (h : AllPos s) : 0 < prod s := by
  induction s with
  | nil => simp [prod]
  | cons x r ih => exact Int.mul_pos (h x List.mem_cons_self) (ih h.tail)
theorem al_drop {s : List Int} (h : AllPos s) (k : Nat) : AllPos (s.drop k) := fun y hy => h y (List.mem_of_mem_drop hy)
theorem al_take {s : List Int} (h : AllPos s) (k : Nat) : AllPos (s.take k) := fun y hy => h y (List.mem_of_mem_take hy)
theorem stp_pos {s : List Int} (h : AllPos s) (x : Nat) : 0 < stp s x := al_prod (al_drop h _)
theorem al_pos {s t : List Int} (h : insB s t = true) : AllPos s := fun y hy => by
  obtain ⟨j, hj, rfl⟩ := List.mem_iff_getElem.1 hy
  have := ins_at h hj
  rw [← nth_get s j hj]
  omega
theorem al_split (s : List Int) {x : Nat} (hx : x < s.length) : prod s = prod (s.take x) * (nth s x * stp s x) := by
  have e := prod_append (s.take x) (s.drop x)
  rw [List.take_append_drop, drop_nth s x hx] at e
  exact e
/-- No more than 4096 cells: no step is longer. -/
theorem stp_le {s : List Int} (h : AllPos s) {x : Nat} (hx : x < s.length) : nth s x * stp s x ≤ prod s := by
  have e := al_split s hx
  have h1 := al_prod (al_take h x)
  have h2 := stp_pos h x
  have h3 := h _ (nth_mem s x hx)
  have h4 : 0 ≤ nth s x * stp s x := Int.le_of_lt (Int.mul_pos h3 h2)
  have : 1 * (nth s x * stp s x) ≤ prod (s.take x) * (nth s x * stp s x) := Int.mul_le_mul_of_nonneg_right (by omega) h4
  omega
theorem place_set : ∀ {s t : List Int} {x : Nat} (v : Int), t.length = s.length → x < s.length → place s (t.set x v) = place s t + (v - nth t x) * stp s x
  | [], _, _, _, _, h => by simp at h
  | _ :: _, [], _, _, h, _ => by simp at h
  | b :: s, a :: t, 0, v, hl, _ => by
    simp only [List.set_cons_zero, place, nth_zero, stp_zero, Int.sub_mul]
    omega
  | b :: s, a :: t, x + 1, v, hl, hx => by
    have ih := place_set (s := s) (t := t) (x := x) v (by simpa using hl) (by simpa using hx)
    simp only [List.set_cons_succ, place, nth_succ, stp_succ, ih]
    omega
/-- The index on an axis, out of the place. -/
theorem idx_at : ∀ {s t : List Int} {x : Nat}, insB s t = true → x < s.length → place s t / stp s x % nth s x = nth t x
  | [], _, _, _, h => by simp at h
  | _ :: _, [], _, h, _ => by simp [insB] at h
  | b :: s, a :: t, 0, h, _ => by
    have h1 := ins_cons.1 h
    have hb := place_bd h1.2
    simp only [place, nth_zero, stp_zero]
    have e : (a * prod s + place s t) / prod s = a := by
      rw [Int.add_comm, Int.add_mul_ediv_right _ _ (by omega), Int.ediv_eq_zero_of_lt hb.1 hb.2]; omega
    rw [e, Int.emod_eq_of_lt h1.1.1 h1.1.2]
  | b :: s, a :: t, x + 1, h, hx => by
    have h1 := ins_cons.1 h
    have hx' : x < s.length := by simpa using hx
    have ih := idx_at (s := s) (t := t) (x := x) h1.2 hx'
    have hp := stp_pos (al_pos h1.2) x
    simp only [place, nth_succ, stp_succ]
    have e : a * prod s + place s t = place s t + (a * prod (s.take x) * nth s x) * stp s x := by
      rw [al_split s hx', Int.add_comm]
      congr 1
      rw [Int.mul_assoc, Int.mul_assoc]
    rw [e, Int.add_mul_ediv_right _ _ (by omega), Int.add_mul_emod_self_right]
    exact ih
/-- The place at which that stood which is now at the place j: on one axis the index i was g i. -/
def mvP (s : List Int) (x : Nat) (g : Int → Int) (j : Int) : Int := j + (g (j / stp s x % nth s x) - j / stp s x % nth s x) * stp s x
def mvT (x : Nat) (g : Int → Int) (t : List Int) : List Int := t.set x (g (nth t x))
theorem mvP_at {s : List Int} (he : errOf s = 0) {x : Nat} (hx : x < s.length) {j : Nat} (hj : (j : Int) < prod s) (g : Int → Int) : (j : Int) / stp s x % nth s x = nth (cr s j) x ∧ mvP s x g j = place s (mvT x g (cr s j)) := by
  obtain ⟨h1, h2⟩ := cr_fact he hj
  have e : (j : Int) / stp s x % nth s x = nth (cr s j) x := by rw [← idx_at h1 hx, h2]
  refine ⟨e, ?_⟩
  unfold mvP mvT
  rw [place_set _ (cr_length s j) hx, h2, e]
theorem mvT_in {s t : List Int} {x : Nat} {g : Int → Int} (h : insB s t = true) (hx : x < s.length) (hg : ∀ i, 0 ≤ i → i < nth s x → 0 ≤ g i ∧ g i < nth s x) : insB s (mvT x g t) = true := by
  have hb := ins_at h hx
  exact ins_set h hx (hg _ hb.1 hb.2)
theorem rev_mvT (s : List Int) (x : Nat) : revT s x = mvT x (fun i => nth s x - 1 - i) := rfl
theorem rot_mvT (s : List Int) (n : Int) (x : Nat) : rotT s n x = mvT x (fun i => (i + n) % nth s x) := rfl
/-- All that the program needs of one round: no number is too great, the cell is there, and it is the one. -/
theorem mv_round {s dz : List Int} (he : errOf s = 0) (hd : (dz.length : Int) = prod s) {x : Nat} (hx : x < s.length) {j : Nat} (hj : j < dz.length) {g : Int → Int} (hg : ∀ i, 0 ≤ i → i < nth s x → 0 ≤ g i ∧ g i < nth s x) :
    0 < stp s x ∧ stp s x ≤ 4096 ∧ 0 < nth s x ∧ nth s x ≤ 4096 ∧ (∃ i : Nat, (j : Int) / stp s x % nth s x = i ∧ (i : Int) < nth s x ∧ mvP s x g j = j + (g i - i) * stp s x ∧ (g i - i) * stp s x ≤ 16777216 ∧ -16777216 ≤ (g i - i) * stp s x ∧ 0 ≤ g i ∧ g i < nth s x) ∧ ∃ m : Nat, m < dz.length ∧ mvP s x g j = m ∧ nth dz m = nth (GA s dz s (mvT x g)) j := by
  have hz := errOf_zero.1 he
  have hj' : (j : Int) < prod s := by omega
  obtain ⟨h1, h2⟩ := cr_fact he hj'
  obtain ⟨e1, e2⟩ := mvP_at he hx hj' g
  have hp := al_pos h1
  have hb := ins_at h1 hx
  have hs1 := stp_pos hp x
  have hs2 := stp_le hp hx
  have hn := hz.2.1.nth x
  have hgb := hg _ hb.1 hb.2
  have hin := mvT_in h1 hx hg
  have hpb := place_bd hin
  have hs3 : 1 * stp s x ≤ nth s x * stp s x := Int.mul_le_mul_of_nonneg_right (by omega) (by omega)
  have hs4 : stp s x ≤ 4096 := by omega
  refine ⟨hs1, hs4, by omega, hn.2, ⟨(nth (cr s j) x).toNat, by omega, by omega, ?_⟩, (place s (mvT x g (cr s j))).toNat, by omega, by omega, ?_⟩
  · have ei : ((nth (cr s j) x).toNat : Int) = nth (cr s j) x := by omega
    rw [ei]
    have hab : g (nth (cr s j) x) - nth (cr s j) x ≤ 4096 ∧ -4096 ≤ g (nth (cr s j) x) - nth (cr s j) x := by omega
    refine ⟨by unfold mvP; rw [e1], ?_, ?_, hgb⟩
    · have : (g (nth (cr s j) x) - nth (cr s j) x) * stp s x ≤ 4096 * 4096 := Int.le_trans (Int.mul_le_mul_of_nonneg_right hab.1 (by omega)) (Int.mul_le_mul_of_nonneg_left hs4 (by omega))
      omega
    · have h5 : (-4096) * stp s x ≤ (g (nth (cr s j) x) - nth (cr s j) x) * stp s x := Int.mul_le_mul_of_nonneg_right hab.2 (by omega)
      omega
  · rw [GA_nth (by omega)]
/-! ### Sums -/
def sumI : List Int → Int
  | [] => 0
  | x :: r => x + sumI r
theorem sumI_perm {a b : List Int} (h : a.Perm b) : sumI a = sumI b := by
  induction h with
  | nil => rfl
  | cons x _ ih => simp only [sumI, ih]
  | swap x y l => simp only [sumI]; omega
  | trans _ _ ih1 ih2 => exact ih1.trans ih2
/-- The first n of f, together. -/
def sumR (n : Nat) (f : Nat → Int) : Int := sumI ((List.range n).map f)
theorem sumR_succ (n : Nat) (f : Nat → Int) : sumR (n + 1) f = f 0 + sumR n (fun k => f (k + 1)) := by
  unfold sumR
  rw [List.range_succ_eq_map, List.map_cons, List.map_map]
  rfl
theorem sumR_congr {n : Nat} {f g : Nat → Int} (h : ∀ k, k < n → f k = g k) : sumR n f = sumR n g := by
  unfold sumR
  rw [List.map_congr_left fun k hk => h k (List.mem_range.1 hk)]
theorem sumR_ord {p : List Int} (h : IsOrd p) (f : Nat → Int) : sumR p.length f = sumR p.length (fun k => f (nth p k).toNat) := by
  have e := sumI_perm ((nats_perm h).map f)
  unfold sumR
  rw [← e]
  congr 1
  apply List.ext_getElem (by simp [nats_length])
  intro i h1 h2
  rw [List.length_map, nats_length] at h1
  rw [List.getElem_map, List.getElem_map, List.getElem_range]
  have := nats_get p i h1
  rw [List.getElem?_eq_getElem (by rw [nats_length]; exact h1)] at this
  rw [Option.some.inj this]
theorem place_sum : ∀ {s t : List Int}, t.length = s.length → place s t = sumR s.length (fun k => nth t k * stp s k)
  | [], [], _ => rfl
  | [], _ :: _, h => by simp at h
  | _ :: _, [], h => by simp at h
  | b :: s, a :: t, h => by
    have ih := place_sum (s := s) (t := t) (by simpa using h)
    rw [List.length_cons, sumR_succ]
    simp only [nth_zero, stp_zero, nth_succ, stp_succ, place, ih]
/-- Indices times steps, together, from the last axis on. -/
def dotL : List Int → List Int → Int
  | a :: t, b :: u => dotL t u + a * b
  | _, _ => 0
theorem dotL_sum : ∀ {t u : List Int}, u.length = t.length → dotL t u = sumR t.length (fun k => nth t k * nth u k)
  | [], [], _ => rfl
  | [], _ :: _, h => by simp at h
  | _ :: _, [], h => by simp at h
  | a :: t, b :: u, h => by
    have ih := dotL_sum (t := t) (u := u) (by simpa using h)
    rw [List.length_cons, sumR_succ]
    simp only [nth_zero, nth_succ, dotL, ih]
    omega
/-- The steps of another shape's axes: that of axis p[k] is that of axis k. -/
def StSpec (s p u : List Int) : Prop := u.length = s.length ∧ ∀ k, k < s.length → nth u (nth p k).toNat = stp s k
theorem flp_dot {s p u t : List Int} (ho : IsOrd p) (hl : p.length = s.length) (hu : StSpec s p u) (ht : t.length = s.length) : dotL t u = place s (flpT p t) := by
  rw [dotL_sum (by rw [hu.1, ht]), place_sum (by rw [flpT_length, hl]), ht, ← hl, sumR_ord ho]
  refine sumR_congr fun k hk => ?_
  rw [flpT_nth p t hk, hu.2 k (by omega)]
/-- The steps as the program puts them: those of the first k axes. -/
def stk (s p : List Int) : Nat → List Int
  | 0 => List.replicate p.length 0
  | k + 1 => (stk s p k).set (nth p k).toNat (stp s k)
theorem stk_length (s p : List Int) : ∀ k, (stk s p k).length = p.length
  | 0 => by simp [stk]
  | k + 1 => by simp [stk, stk_length s p k]
theorem stk_at {s p : List Int} (ho : IsOrd p) : ∀ k, k ≤ p.length → ∀ i, i < k → nth (stk s p k) (nth p i).toNat = stp s i
  | 0, _, i, h => by omega
  | k + 1, hk, i, h => by
    have b := ho.1 k (by omega)
    have bi := ho.1 i (by omega)
    simp only [stk]
    rw [nth_set _ _ _ _ (by rw [stk_length]; omega)]
    by_cases e : i = k
    · rw [if_pos (by rw [e]), e]
    · have hne : (nth p i).toNat ≠ (nth p k).toNat := fun e2 => e (ho.inj (by omega) (by omega) (by omega))
      rw [if_neg hne]
      exact stk_at ho k (by omega) i (by omega)
theorem stk_spec {s p : List Int} (ho : IsOrd p) (hl : p.length = s.length) : StSpec s p (stk s p p.length) :=
  ⟨by rw [stk_length, hl], fun k hk => stk_at ho _ (Nat.le_refl _) k (by omega)⟩
theorem stk_bd {s p : List Int} (hb : ∀ k, 0 ≤ stp s k ∧ stp s k ≤ 1152921504606846976) : ∀ k j, 0 ≤ nth (stk s p k) j ∧ nth (stk s p k) j ≤ 1152921504606846976
  | 0, j => by simp only [stk, nth_replicate]; omega
  | k + 1, j => by
    simp only [stk]
    by_cases h : (nth p k).toNat < (stk s p k).length
    · rw [nth_set _ _ _ _ h]
      split
      · exact hb k
      · exact stk_bd hb k j
    · rw [List.set_eq_of_length_le (by omega)]
      exact stk_bd hb k j
/-! ### What the program reckons of a place -/
def sstep (zs u : List Int) (q : Int × Int) (x : Ax zs.length) : Int × Int := (wrap64 (q.1 + wrap64 (q.2.tmod (nth zs x.1) * nth u x.1)), q.2.tdiv (nth zs x.1))
def srV (zs u : List Int) (p : Int) (pre : List (Ax zs.length)) : Int := (pre.foldl (sstep zs u) (0, p)).1
def srQ (zs u : List Int) (p : Int) (pre : List (Ax zs.length)) : Int := (pre.foldl (sstep zs u) (0, p)).2
theorem srV_snoc (zs u : List Int) (p : Int) (pre : List (Ax zs.length)) (k : Nat) (hk : k < zs.length) : srV zs u p (pre ++ [⟨k, hk⟩]) = wrap64 (srV zs u p pre + wrap64 ((srQ zs u p pre).tmod (nth zs k) * nth u k)) := by
  simp only [srV, srQ, List.foldl_append, List.foldl_cons, List.foldl_nil, sstep]
theorem srQ_snoc (zs u : List Int) (p : Int) (pre : List (Ax zs.length)) (k : Nat) (hk : k < zs.length) : srQ zs u p (pre ++ [⟨k, hk⟩]) = (srQ zs u p pre).tdiv (nth zs k) := by
  simp only [srQ, List.foldl_append, List.foldl_cons, List.foldl_nil, sstep]
theorem srQ_fold_bd {zs u : List Int} (h : AllPos zs) : ∀ (pre : List (Ax zs.length)) (s : Int × Int), 0 ≤ s.2 → 0 ≤ (pre.foldl (sstep zs u) s).2 ∧ (pre.foldl (sstep zs u) s).2 ≤ s.2
  | [], s, hs => ⟨hs, Int.le_refl _⟩
  | x :: pre, s, hs => by
    have hx := h _ (nth_mem zs x.1 x.2)
    have e1 : 0 ≤ s.2.tdiv (nth zs x.1) := Int.tdiv_nonneg hs (by omega)
    have e2 : s.2.tdiv (nth zs x.1) ≤ s.2 := by
      have ed := Int.tmod_add_mul_tdiv s.2 (nth zs x.1)
      have em := Int.tmod_nonneg (nth zs x.1) hs
      have : 1 * s.2.tdiv (nth zs x.1) ≤ nth zs x.1 * s.2.tdiv (nth zs x.1) := Int.mul_le_mul_of_nonneg_right (by omega) e1
      omega
    have ih := srQ_fold_bd (u := u) h pre (sstep zs u s x) e1
    rw [List.foldl_cons]
    have e3 : (sstep zs u s x).2 = s.2.tdiv (nth zs x.1) := rfl
    omega
theorem srQ_bd {zs u : List Int} (h : AllPos zs) {p : Int} (hp : 0 ≤ p) (pre : List (Ax zs.length)) : 0 ≤ srQ zs u p pre ∧ srQ zs u p pre ≤ p := srQ_fold_bd h pre (0, p) hp
theorem dot_wrap {t : List Int} {u : List Int} {x b : Int} : wrap64 (wrap64 (dotL t u) + wrap64 (x * b)) = wrap64 (dotL t u + x * b) := by unfold wrap64; omega
theorem srfold (zs u : List Int) (hl : u.length = zs.length) (p : Int) : (dn zs.length zs.length).foldl (sstep zs u) (0, p) = (wrap64 (dotL (crd zs p).1 u), (crd zs p).2) := by
  have := fold_dn zs.length (sstep zs u) (fun k => (wrap64 (dotL (crd (zs.drop k) p).1 (u.drop k)), (crd (zs.drop k) p).2)) (fun k hk => by
    simp only [sstep]
    rw [drop_nth zs k hk, drop_nth u k (by omega)]
    simp only [crd, dotL, dot_wrap]) zs.length (Nat.le_refl _)
  have e0 : zs.length - zs.length = 0 := by omega
  simpa [crd, dotL, e0, show wrap64 0 = 0 from by unfold wrap64; omega] using this
/-- All that the program needs: what it reckons is the cell's place. -/
theorem sr_place {s s' p u : List Int} (ho : IsOrd p) (hl : p.length = s.length) (ha : AxSpec s p s') (he : errOf s = 0) (hu : StSpec s p u) {j : Nat} (hj : (j : Int) < prod s) :
    ∃ m : Nat, (m : Int) < prod s ∧ srV s' u j (dn s'.length s'.length) = m ∧ place s (flpT p (cr s' j)) = m := by
  have he' := ax_err ho hl ha he
  have hp' := ax_prod ho hl ha
  obtain ⟨h1, h2⟩ := cr_fact (zs := s') (i := j) he' (by omega)
  have hin := flpT_in ho hl ha h1
  have hb := place_bd hin
  have hz := errOf_zero.1 he
  refine ⟨(place s (flpT p (cr s' j))).toNat, by omega, ?_, by omega⟩
  unfold srV
  rw [srfold s' u (by rw [hu.1, ha.1])]
  show wrap64 (dotL (cr s' j) u) = _
  rw [flp_dot ho hl hu (by rw [cr_length, ha.1])]
  unfold wrap64
  omega
theorem prod_le60 : ∀ {s : List Int} (m : Nat), AllIn s → s.length ≤ m → prod s ≤ 4096 ^ m
  | [], m, _, _ => by
    have h : (0 : Int) < 4096 ^ m := Int.pow_pos (by decide)
    exact Int.add_one_le_of_lt h
  | x :: s, 0, _, h => by simp at h
  | x :: s, m + 1, ha, h => by
    have hx := ha x List.mem_cons_self
    have ih := prod_le60 (s := s) m ha.tail (by simpa using h)
    have h0 := prod_nonneg ha.tail
    simp only [prod, Int.pow_succ]
    rw [Int.mul_comm]
    exact Int.mul_le_mul ih hx.2 hx.1 (by omega)
/-- A few lengths' product is not too great. -/
theorem prod_60 {s : List Int} (ha : AllIn s) (h : s.length ≤ 5) : 0 ≤ prod s ∧ prod s ≤ 1152921504606846976 := ⟨prod_nonneg ha, prod_le60 5 ha h⟩
theorem stp_60 {s : List Int} (he : errOf s = 0) (x : Nat) : 0 ≤ stp s x ∧ stp s x ≤ 1152921504606846976 := by
  have hz := errOf_zero.1 he
  exact prod_60 (hz.2.1.drop _) (by rw [List.length_drop]; omega)
theorem prod_take1 (zs : List Int) (k : Nat) (h : k < zs.length) : prod (zs.take (k + 1)) = prod (zs.take k) * nth zs k := by
  rw [List.take_succ_eq_append_getElem h, prod_append, nth_get zs k h]
  simp [prod]
end Go.Proofs.YtjaabemlpiafaaaDoor
/-! Cycd: Cells round and round, plain; rows that are filled from their first cell on. -/
namespace Go.Proofs.YtjaabemlpiafaaaDoor
open Go.RowKit
set_option linter.unusedVariables false

/-- The cell at a place, round and round. -/
def cyA (zs : List Int) (d : Int) (i : Nat) : Int := if zs.length = 0 then d else nth zs (i % zs.length)
def cyc (zs : List Int) (n : Nat) (d : Int) : List Int := (List.range n).map (cyA zs d)
theorem cyc_length (zs : List Int) (n : Nat) (d : Int) : (cyc zs n d).length = n := by simp [cyc]
theorem cyc_nth (zs : List Int) (n : Nat) (d : Int) {j : Nat} (h : j < n) : nth (cyc zs n d) j = cyA zs d j := by simp [cyc, nth, h]
/-- What stands where there is no cell. -/
def fillE (c : Bool) : Int := if c = true then 32 else 0
/-- A row that is filled as far as k. -/
def upTo (f : Nat → Int) (k j : Nat) : Value := .int .i64 (if j < k then f j else 0)
theorem upTo_set {wr : World} {B : Nat} {t : TypeId} {n : Nat} {f : Nat → Int} {k : Nat} (h : wr.rowIs B t n (upTo f k)) (v : Int) (hv : v = f k) : (wr.setCell ⟨B, k, none⟩ (.int .i64 v)).rowIs B t n (upTo f (k + 1)) := by
  subst hv
  refine (h.set k _).congr fun j hj => ?_
  unfold upTo
  by_cases e : j = k
  · subst e; rw [if_pos rfl, if_pos (by omega)]
  · rw [if_neg e]
    by_cases h2 : j < k
    · rw [if_pos h2, if_pos (by omega)]
    · rw [if_neg h2, if_neg (by omega)]
theorem upTo_new {wr : World} {lo B : Nat} {t : TypeId} {n : Nat} {f : Nat → Int} (h : wr.rowIs B t n (upTo f n)) (hlo : lo ≤ B) (xs : List Int) (hx : xs.length = n) (hf : ∀ j, j < n → nth xs j = f j) : NewInts lo wr (some ⟨B, 0, none⟩) xs := by
  refine .inr ⟨B, 0, rfl, hlo, h.lt, fun j hj => ?_, fun j => h.frozen _⟩
  rw [hx] at hj
  have := h.cell hj
  unfold upTo at this
  rw [if_pos hj] at this
  rw [Nat.zero_add, hf j hj]
  exact this
theorem ret_slice' {a : Option Addr} {n m c : Nat} (h : n = m) : Ending.returned (.slice a n c) = .returned (.slice a m c) := by rw [h]
theorem modN (k n : Nat) : ((k : Int) % (n : Int)) = ((k % n : Nat) : Int) := rfl
end Go.Proofs.YtjaabemlpiafaaaDoor
/-! Cutm: Plain mathematics of arrays told cell by cell: fewer cells, and more; nothing of the program. -/
namespace Go.Proofs.YtjaabemlpiafaaaDoor
open Go.RowKit
set_option linter.unusedVariables false

/-- The cell at these indices. -/
def cel (s dz t : List Int) : Int := nth dz (place s t).toNat
/-- The array of this shape whose cell at indices t is f t. -/
def TA (s : List Int) (f : List Int → Int) : List Int := (List.range (prod s).toNat).map fun i => f (cr s i)
section
variable {s s' dz xs : List Int} {f g : List Int → Int}
theorem GA_TA (s dz s' : List Int) (src : List Int → List Int) : GA s dz s' src = TA s' (fun t => cel s dz (src t)) := rfl
theorem TA_length : (TA s f).length = (prod s).toNat := by simp [TA]
theorem TA_nth {i : Nat} (h : i < (prod s).toNat) : nth (TA s f) i = f (cr s i) := by simp [TA, nth, h]
theorem TA_at (he : errOf s = 0) {t : List Int} (ht : insB s t = true) : cel s (TA s f) t = f t := by
  have h := cr_place he ht
  unfold cel
  rw [TA_nth h.2, h.1]
theorem TA_ext (he : errOf s = 0) (hl : xs.length = (prod s).toNat) (h : ∀ t, insB s t = true → cel s xs t = f t) : xs = TA s f := by
  refine nth_ext (by rw [hl, TA_length]) fun i hi => ?_
  rw [hl] at hi
  have hc := cr_in he hi
  have h' := h _ hc.1
  unfold cel at h'
  rw [hc.2, Int.toNat_natCast] at h'
  rw [TA_nth hi, h']
theorem TA_congr (he : errOf s = 0) (h : ∀ t, insB s t = true → f t = g t) : TA s f = TA s g :=
  TA_ext he TA_length fun t ht => by rw [TA_at he ht, h t ht]
theorem TA_self (he : errOf s = 0) (hd : (dz.length : Int) = prod s) : TA s (cel s dz) = dz := (TA_ext he (by omega) fun _ _ => rfl).symm
theorem TA_is (he : errOf s = 0) (hd : (dz.length : Int) = prod s) (h : ∀ t, insB s t = true → f t = cel s dz t) : TA s f = dz := by rw [TA_congr he h, TA_self he hd]
theorem TA_len (he : errOf s = 0) : ((TA s f).length : Int) = prod s := by
  have := prod_nonneg (errOf_zero.1 he).2.1
  rw [TA_length]; omega
theorem TA_mem {x : Int} (he : errOf s = 0) (hx : x ∈ TA s f) : ∃ t, insB s t = true ∧ x = f t := by
  obtain ⟨j, hj, rfl⟩ := List.mem_iff_getElem.1 hx
  have hj' : j < (prod s).toNat := by rwa [TA_length] at hj
  exact ⟨_, (cr_in he hj').1, by rw [← nth_get _ j hj, TA_nth hj']⟩
theorem TA_flaw {c : Bool} (he : errOf s = 0) (h : c = true → ∀ t, insB s t = true → chOk (f t) = true) : flawE c s (TA s f) = 0 := by
  cases c
  · exact flawE_okn he (TA_len he)
  · refine flawE_okc he (TA_len he) ?_
    unfold chAll
    rw [List.all_eq_true]
    intro x hx
    obtain ⟨t, ht, rfl⟩ := TA_mem he hx
    exact h rfl t ht
theorem TA_64 (he : errOf s = 0) (h : ∀ t, insB s t = true → In64 (f t)) : ∀ j, In64 (nth (TA s f) j) := fun j => by
  by_cases hj : j < (prod s).toNat
  · rw [TA_nth hj]; exact h _ (cr_in he hj).1
  · have : nth (TA s f) j = 0 := by simp [nth, List.getElem?_eq_none (show (TA s f).length ≤ j by rw [TA_length]; omega)]
    rw [this]; unfold In64; decide
theorem cel_ch {c : Bool} (hf : flawE c s dz = 0) (hc : c = true) {t : List Int} (ht : insB s t = true) : chOk (cel s dz t) = true := by
  obtain ⟨h1, h2, h3⟩ := flawE_zero hf
  have hb := place_bd ht
  have := h3 hc
  unfold chAll at this
  exact List.all_eq_true.1 this _ (nth_mem dz _ (by omega))
theorem fill_ch {c : Bool} (hc : c = true) : chOk (fillE c) = true := by subst hc; decide
theorem fill_64 (c : Bool) : In64 (fillE c) := by cases c <;> (unfold In64; decide)
theorem cel_64 (T : ∀ j, In64 (nth dz j)) (t : List Int) : In64 (cel s dz t) := T _
end
/-! ### A part of an array -/
def addL (t u : List Int) : List Int := (List.range t.length).map fun k => nth t k + nth u k
theorem addL_length (t u : List Int) : (addL t u).length = t.length := by simp [addL]
theorem addL_nth (t u : List Int) {k : Nat} (h : k < t.length) : nth (addL t u) k = nth t k + nth u k := by simp [addL, nth, h]
/-- What stands at indices t of the part that begins at u: fills outside. -/
def ptC (c : Bool) (s dz u t : List Int) : Int := if insB s (addL t u) = true then cel s dz (addL t u) else fillE c
def ptD (c : Bool) (s dz s' u : List Int) : List Int := TA s' (ptC c s dz u)
theorem pt_flaw {c : Bool} {s dz s' u : List Int} (hf : flawE c s dz = 0) (he : errOf s' = 0) : flawE c s' (ptD c s dz s' u) = 0 := TA_flaw he fun hc t ht => by
  unfold ptC
  split
  · rename_i h; exact cel_ch hf hc h
  · exact fill_ch hc
theorem pt_64 {c : Bool} {s dz s' u : List Int} (he : errOf s' = 0) (T : ∀ j, In64 (nth dz j)) : ∀ j, In64 (nth (ptD c s dz s' u) j) := TA_64 he fun t ht => by
  unfold ptC
  split
  · exact cel_64 T _
  · exact fill_64 c
/-! ### Take -/
def tks (x : Int) : Int := if 0 ≤ x then x else -x
def tkS (n : List Int) : List Int := n.map tks
def tkU (s n : List Int) : List Int := (List.range n.length).map fun k => if 0 ≤ nth n k then 0 else nth s k + nth n k
def tkBig (n : List Int) : Bool := n.any fun x => decide (4096 < x) || decide (x < -4096)
def tkE (n : List Int) (c : Bool) (s dz : List Int) : Int := if flawE c s dz ≠ 0 then flawE c s dz else if n.length ≠ s.length then 4 else if tkBig n = true then 7 else errOf (tkS n)
def tkD (n : List Int) (c : Bool) (s dz : List Int) : List Int := ptD c s dz (tkS n) (tkU s n)
theorem tkS_length (n : List Int) : (tkS n).length = n.length := by simp [tkS]
theorem tkS_nth (n : List Int) {k : Nat} (h : k < n.length) : nth (tkS n) k = tks (nth n k) := by simp [tkS, nth, h]
theorem tkU_length (s n : List Int) : (tkU s n).length = n.length := by simp [tkU]
theorem tkU_nth (s n : List Int) {k : Nat} (h : k < n.length) : nth (tkU s n) k = if 0 ≤ nth n k then 0 else nth s k + nth n k := by simp [tkU, nth, h]
theorem tkE_zero {n : List Int} {c : Bool} {s dz : List Int} : tkE n c s dz = 0 ↔ flawE c s dz = 0 ∧ n.length = s.length ∧ tkBig n = false ∧ errOf (tkS n) = 0 := by
  unfold tkE
  by_cases h : flawE c s dz = 0
  · rw [if_neg (by simpa using h)]
    by_cases h1 : n.length = s.length
    · rw [if_neg (by simpa using h1)]
      cases h2 : tkBig n
      · simp [h, h1]
      · simp
    · rw [if_pos h1]; exact ⟨fun e => absurd e (by decide), fun e => absurd e.2.1 h1⟩
  · rw [if_pos h]; exact ⟨fun e => absurd e h, fun e => absurd e.1 h⟩
/-! ### Drop -/
def drs (l x : Int) : Int := if l ≤ x ∨ x ≤ -l then (if x = 0 then l else 0) else if 0 ≤ x then l - x else l + x
def dru (l x : Int) : Int := if l ≤ x ∨ x ≤ -l then 0 else if 0 ≤ x then x else 0
def drS (s n : List Int) : List Int := (List.range n.length).map fun k => drs (nth s k) (nth n k)
def drU (s n : List Int) : List Int := (List.range n.length).map fun k => dru (nth s k) (nth n k)
def drE (n : List Int) (c : Bool) (s dz : List Int) : Int := if flawE c s dz ≠ 0 then flawE c s dz else if n.length ≠ s.length then 4 else 0
def drD (n : List Int) (c : Bool) (s dz : List Int) : List Int := ptD c s dz (drS s n) (drU s n)
theorem drS_length (s n : List Int) : (drS s n).length = n.length := by simp [drS]
theorem drS_nth (s n : List Int) {k : Nat} (h : k < n.length) : nth (drS s n) k = drs (nth s k) (nth n k) := by simp [drS, nth, h]
theorem drU_length (s n : List Int) : (drU s n).length = n.length := by simp [drU]
theorem drU_nth (s n : List Int) {k : Nat} (h : k < n.length) : nth (drU s n) k = dru (nth s k) (nth n k) := by simp [drU, nth, h]
theorem drE_zero {n : List Int} {c : Bool} {s dz : List Int} : drE n c s dz = 0 ↔ flawE c s dz = 0 ∧ n.length = s.length := by
  unfold drE
  by_cases h : flawE c s dz = 0
  · rw [if_neg (by simpa using h)]
    by_cases h1 : n.length = s.length
    · rw [if_neg (by simpa using h1)]; simp [h, h1]
    · rw [if_pos h1]; exact ⟨fun e => absurd e (by decide), fun e => absurd e.2 h1⟩
  · rw [if_pos h]; exact ⟨fun e => absurd e h, fun e => absurd e.1 h⟩
theorem drs_bd {l x : Int} (h : 0 ≤ l) : 0 ≤ drs l x ∧ drs l x ≤ l := by unfold drs; repeat' split
                                                                         all_goals omega
/-- Shorter axes have no more cells. -/
theorem prod_mono : ∀ {a b : List Int}, a.length = b.length → (∀ k, k < a.length → 0 ≤ nth a k ∧ nth a k ≤ nth b k) → 0 ≤ prod a ∧ prod a ≤ prod b
  | [], [], _, _ => by simp [prod]
  | [], _ :: _, h, _ => by simp at h
  | _ :: _, [], h, _ => by simp at h
  | x :: a, y :: b, hl, h => by
    have h0 := h 0 (by simp)
    rw [nth_zero, nth_zero] at h0
    have ih := prod_mono (a := a) (b := b) (by simpa using hl) fun k hk => by have := h (k + 1) (by simpa using hk); rwa [nth_succ, nth_succ] at this
    simp only [prod]
    exact ⟨Int.mul_nonneg h0.1 ih.1, Int.mul_le_mul h0.2 ih.2 ih.1 (by omega)⟩
theorem all_in {s : List Int} (h : ∀ k, k < s.length → 0 ≤ nth s k ∧ nth s k ≤ 4096) : AllIn s := fun x hx => by
  obtain ⟨j, hj, rfl⟩ := List.mem_iff_getElem.1 hx
  rw [← nth_get s j hj]; exact h j hj
theorem err_mono {a b : List Int} (hl : a.length = b.length) (h : ∀ k, k < a.length → 0 ≤ nth a k ∧ nth a k ≤ nth b k) (he : errOf b = 0) : errOf a = 0 := by
  have hb := errOf_zero.1 he
  have hp := prod_mono hl h
  exact errOf_zero.2 ⟨by omega, all_in fun k hk => by have := h k hk; have := hb.2.1.nth k; omega, by omega⟩
theorem dr_err {n : List Int} {c : Bool} {s dz : List Int} (h : drE n c s dz = 0) : errOf (drS s n) = 0 := by
  obtain ⟨h1, h2⟩ := drE_zero.1 h
  have he := (flawE_zero h1).1
  have hb := errOf_zero.1 he
  refine err_mono (b := s) (by rw [drS_length, h2]) (fun k hk => ?_) he
  rw [drS_length] at hk
  rw [drS_nth s n hk]
  exact drs_bd (hb.2.1.nth k).1
/-! ### Join -/
def othB (x : Nat) (s s' : List Int) : Bool := (List.range s.length).all fun k => decide (k = x) || nth s k == nth s' k
def jnS (x : Nat) (s s' : List Int) : List Int := s.set x (nth s x + nth s' x)
def jnC (x : Nat) (s dz s' dz' t : List Int) : Int := if nth t x < nth s x then cel s dz t else cel s' dz' (t.set x (nth t x - nth s x))
def jnD (x : Nat) (s dz s' dz' : List Int) : List Int := TA (jnS x s s') (jnC x s dz s' dz')
def jnE (x : Int) (c : Bool) (s dz : List Int) (c' : Bool) (s' dz' : List Int) : Int :=
  if flawE c s dz ≠ 0 then flawE c s dz else if flawE c' s' dz' ≠ 0 then flawE c' s' dz' else if s.length ≠ s'.length then 3 else if x < 0 ∨ (s.length : Int) ≤ x then 5 else if othB x.toNat s s' = false then 4 else if c ≠ c' then 6 else errOf (jnS x.toNat s s')
theorem othB_iff {x : Nat} {s s' : List Int} : othB x s s' = true ↔ ∀ k, k < s.length → k ≠ x → nth s k = nth s' k := by
  unfold othB
  simp only [List.all_eq_true, List.mem_range, Bool.or_eq_true, decide_eq_true_eq, beq_iff_eq]
  exact ⟨fun h k hk hn => (h k hk).resolve_left hn, fun h k hk => by by_cases e : k = x; · exact .inl e
                                                                     · exact .inr (h k hk e)⟩
theorem jnE_zero {x : Int} {c : Bool} {s dz : List Int} {c' : Bool} {s' dz' : List Int} : jnE x c s dz c' s' dz' = 0 ↔ flawE c s dz = 0 ∧ flawE c' s' dz' = 0 ∧ s.length = s'.length ∧ 0 ≤ x ∧ x.toNat < s.length ∧ othB x.toNat s s' = true ∧ c = c' ∧ errOf (jnS x.toNat s s') = 0 := by
  unfold jnE
  by_cases h1 : flawE c s dz = 0
  · rw [if_neg (by simpa using h1)]
    by_cases h2 : flawE c' s' dz' = 0
    · rw [if_neg (by simpa using h2)]
      by_cases h3 : s.length = s'.length
      · rw [if_neg (by simpa using h3)]
        by_cases h4 : x < 0 ∨ (s.length : Int) ≤ x
        · rw [if_pos h4]; exact ⟨fun e => absurd e (by decide), fun e => by omega⟩
        · rw [if_neg h4]
          cases h5 : othB x.toNat s s'
          · simp
          · rw [if_neg (by simp)]
            by_cases h6 : c = c'
            · rw [if_neg (by simpa using h6)]
              exact ⟨fun e => ⟨h1, h2, h3, by omega, by omega, rfl, h6, e⟩, fun e => e.2.2.2.2.2.2.2⟩
            · rw [if_pos h6]; exact ⟨fun e => absurd e (by decide), fun e => absurd e.2.2.2.2.2.2.1 h6⟩
      · rw [if_pos h3]; exact ⟨fun e => absurd e (by decide), fun e => absurd e.2.2.1 h3⟩
    · rw [if_pos h2]; exact ⟨fun e => absurd e h2, fun e => absurd e.2.1 h2⟩
  · rw [if_pos h1]; exact ⟨fun e => absurd e h1, fun e => absurd e.1 h1⟩
/-! ### Masks -/
def mskB (m : List Int) : Bool := m.all fun x => x == 0 || x == 1
theorem mskB_nth {m : List Int} (h : mskB m = true) {j : Nat} (hj : j < m.length) : nth m j = 0 ∨ nth m j = 1 := by
  unfold mskB at h
  have := List.all_eq_true.1 h _ (nth_mem m j hj)
  simpa using this
/-- How many 1 there are ahead of an index. -/
def rnk (m : List Int) (i : Nat) : Int := sumI (m.take i)
theorem sumI_append (a b : List Int) : sumI (a ++ b) = sumI a + sumI b := by
  induction a with
  | nil => simp [sumI]
  | cons x r ih => simp only [List.cons_append, sumI, ih]; omega
theorem rnk_zero (m : List Int) : rnk m 0 = 0 := rfl
theorem rnk_succ (m : List Int) {i : Nat} (h : i < m.length) : rnk m (i + 1) = rnk m i + nth m i := by
  unfold rnk
  rw [List.take_succ_eq_append_getElem h, sumI_append, nth_get m i h]
  simp [sumI]
theorem rnk_all (m : List Int) : rnk m m.length = sumI m := by unfold rnk; rw [List.take_length]
theorem rnk_bd {m : List Int} (h : mskB m = true) : ∀ i, i ≤ m.length → 0 ≤ rnk m i ∧ rnk m i ≤ i
  | 0, _ => by simp [rnk_zero]
  | i + 1, hi => by
    have ih := rnk_bd h i (by omega)
    have := mskB_nth h (j := i) (by omega)
    rw [rnk_succ m (by omega)]
    omega
theorem rnk_mono {m : List Int} (h : mskB m = true) {i : Nat} : ∀ d, i + d ≤ m.length → rnk m i ≤ rnk m (i + d)
  | 0, _ => Int.le_refl _
  | d + 1, hd => by
    have ih := rnk_mono h (i := i) d (by omega)
    have := mskB_nth h (j := i + d) (by omega)
    rw [← Nat.add_assoc, rnk_succ m (by omega)]
    omega
theorem rnk_le {m : List Int} (h : mskB m = true) {i j : Nat} (hij : i ≤ j) (hj : j ≤ m.length) : rnk m i ≤ rnk m j := by
  have := rnk_mono h (i := i) (j - i) (by omega)
  rwa [show i + (j - i) = j by omega] at this
/-- The index of the 1 that has so many ahead of it (the length where there is none). -/
def pos1 : List Int → Nat → Nat
  | [], _ => 0
  | x :: m, j => if x = 1 then (match j with | 0 => 0 | j + 1 => pos1 m j + 1) else pos1 m j + 1
theorem pos1_fact : ∀ {m : List Int} {j : Nat}, mskB m = true → (j : Int) < sumI m → pos1 m j < m.length ∧ nth m (pos1 m j) = 1 ∧ rnk m (pos1 m j) = j
  | [], j, _, h => by simp [sumI] at h; omega
  | x :: m, j, hm, h => by
    have hx : x = 0 ∨ x = 1 := mskB_nth hm (j := 0) (by simp)
    have hm' : mskB m = true := by unfold mskB at *; simp only [List.all_cons, Bool.and_eq_true] at hm; exact hm.2
    simp only [sumI] at h
    have rs : ∀ i, rnk (x :: m) (i + 1) = x + rnk m i := fun i => by unfold rnk; rw [List.take_succ_cons]; rfl
    rcases hx with rfl | rfl
    · have ih := pos1_fact (m := m) (j := j) hm' (by omega)
      simp only [pos1, Int.reduceEq, if_false] at *
      refine ⟨by simp only [List.length_cons]; omega, by rw [nth_succ]; exact ih.2.1, by rw [rs, ih.2.2]; omega⟩
    · cases j with
      | zero => simp only [pos1, if_true]; exact ⟨by simp, rfl, rfl⟩
      | succ j =>
        have ih := pos1_fact (m := m) (j := j) hm' (by omega)
        simp only [pos1, if_true]
        refine ⟨by simp only [List.length_cons]; omega, by rw [nth_succ]; exact ih.2.1, by rw [rs, ih.2.2]; omega⟩
theorem rnk_inj {m : List Int} (h : mskB m = true) {i j : Nat} (hi : i < m.length) (hj : j < m.length) (ni : nth m i = 1) (nj : nth m j = 1) (e : rnk m i = rnk m j) : i = j := by
  by_cases h1 : i < j
  · have := rnk_le h (i := i + 1) (j := j) h1 (by omega)
    rw [rnk_succ m hi] at this; omega
  · by_cases h2 : j < i
    · have := rnk_le h (i := j + 1) (j := i) h2 (by omega)
      rw [rnk_succ m hj] at this; omega
    · omega
theorem pos1_rnk {m : List Int} (h : mskB m = true) {i : Nat} (hi : i < m.length) (ni : nth m i = 1) : pos1 m (rnk m i).toNat = i := by
  have h0 := rnk_bd h i (by omega)
  have h1 := rnk_le h (i := i + 1) (j := m.length) (by omega) (Nat.le_refl _)
  rw [rnk_succ m hi, rnk_all] at h1
  have hp := pos1_fact (m := m) (j := (rnk m i).toNat) h (by omega)
  exact rnk_inj h hp.1 hi hp.2.1 ni (by omega)
/-! ### Keep, Spread -/
def kpS (m : List Int) (x : Nat) (s : List Int) : List Int := s.set x (sumI m)
def kpT (m : List Int) (x : Nat) (t : List Int) : List Int := t.set x (pos1 m (nth t x).toNat : Nat)
def kpD (m : List Int) (x : Nat) (s dz : List Int) : List Int := TA (kpS m x s) (fun t => cel s dz (kpT m x t))
def kpE (m : List Int) (x : Int) (c : Bool) (s dz : List Int) : Int := if axE x c s dz ≠ 0 then axE x c s dz else if (m.length : Int) ≠ nth s x.toNat then 4 else if mskB m = false then 6 else 0
def spS (m : List Int) (x : Nat) (s : List Int) : List Int := s.set x m.length
def spC (m : List Int) (x : Nat) (c : Bool) (s dz t : List Int) : Int := if nth m (nth t x).toNat = 0 then fillE c else cel s dz (t.set x (rnk m (nth t x).toNat))
def spD (m : List Int) (x : Nat) (c : Bool) (s dz : List Int) : List Int := TA (spS m x s) (spC m x c s dz)
def spE (m : List Int) (x : Int) (c : Bool) (s dz : List Int) : Int := if axE x c s dz ≠ 0 then axE x c s dz else if mskB m = false then 6 else if sumI m ≠ nth s x.toNat then 4 else errOf (spS m x.toNat s)
end Go.Proofs.YtjaabemlpiafaaaDoor
/-! Cutl: Plain mathematics: heads and tails, arrays joined; nothing of the program. -/
namespace Go.Proofs.YtjaabemlpiafaaaDoor
open Go.RowKit
set_option linter.unusedVariables false

section
variable {s t : List Int} {x : Nat} {v : Int}
theorem insS (hx : x < s.length) : insB (s.set x v) t = true ↔ t.length = s.length ∧ (∀ k, k < s.length → k ≠ x → 0 ≤ nth t k ∧ nth t k < nth s k) ∧ 0 ≤ nth t x ∧ nth t x < v := by
  constructor
  · intro h
    have hl := insB_len h
    rw [List.length_set] at hl
    have h' := (insB_iff (by rw [List.length_set]; exact hl)).1 h
    rw [List.length_set] at h'
    refine ⟨hl, fun k hk hn => ?_, ?_⟩
    · have := h' k hk
      rwa [nth_set _ _ _ _ hx, if_neg hn] at this
    · have := h' x hx
      rwa [nth_set _ _ _ _ hx, if_pos rfl] at this
  · rintro ⟨hl, h1, h2⟩
    rw [insB_iff (by rw [List.length_set]; exact hl), List.length_set]
    intro k hk
    rw [nth_set _ _ _ _ hx]
    split
    · rename_i e; subst e; exact h2
    · rename_i e; exact h1 k hk e
theorem ins_all (h : insB s t = true) : t.length = s.length ∧ ∀ k, k < s.length → 0 ≤ nth t k ∧ nth t k < nth s k := ⟨insB_len h, fun k hk => ins_at h hk⟩
theorem ins_mk (hl : t.length = s.length) (h : ∀ k, k < s.length → 0 ≤ nth t k ∧ nth t k < nth s k) : insB s t = true := (insB_iff hl).2 h
theorem set_get (hx : x < s.length) (h : v = nth s x) : s.set x v = s := by
  refine nth_ext (by simp) fun k hk => ?_
  rw [nth_set _ _ _ _ hx]
  split
  · rename_i e; rw [e, h]
  · rfl
theorem set_set (u : Int) : (s.set x u).set x v = s.set x v := by simp
theorem nth_set_self (hx : x < s.length) : nth (s.set x v) x = v := by rw [nth_set _ _ _ _ hx, if_pos rfl]
theorem nth_set_ne (hx : x < s.length) {k : Nat} (h : k ≠ x) : nth (s.set x v) k = nth s k := by rw [nth_set _ _ _ _ hx, if_neg h]
theorem err_set (he : errOf s = 0) (hx : x < s.length) (h0 : 0 ≤ v) (h1 : v ≤ nth s x) : errOf (s.set x v) = 0 := by
  have hb := errOf_zero.1 he
  refine err_mono (b := s) (by simp) (fun k hk => ?_) he
  rw [nth_set _ _ _ _ hx]
  split
  · rename_i e; subst e; exact ⟨h0, h1⟩
  · have := hb.2.1.nth k; omega
/-- The product, one axis apart. -/
def rest (s : List Int) (x : Nat) : Int := prod (s.take x) * prod (s.drop (x + 1))
theorem prod_set (hx : x < s.length) (v : Int) : prod (s.set x v) = v * rest s x := by
  have e := al_split (s.set x v) (x := x) (by rw [List.length_set]; exact hx)
  rw [nth_set_self hx] at e
  have e1 : (s.set x v).take x = s.take x := by
    rw [List.take_set]
    exact List.set_eq_of_length_le (by rw [List.length_take]; omega)
  have e2 : stp (s.set x v) x = prod (s.drop (x + 1)) := by
    unfold stp
    rw [List.drop_set]
    simp
  rw [e, e1, e2]
  unfold rest
  rw [← Int.mul_assoc, Int.mul_comm (prod (s.take x)) v, Int.mul_assoc]
theorem prod_get (hx : x < s.length) : prod s = nth s x * rest s x := by
  have := prod_set hx (nth s x)
  rwa [set_get hx rfl] at this
end
/-! ### Head and tail -/
def zer (n : Nat) : List Int := List.replicate n 0
theorem zer_nth (n k : Nat) : nth (zer n) k = 0 := nth_replicate n k
section
variable {c : Bool} {s dz : List Int} {x : Nat} {n : Int}
theorem add_zer (t u : List Int) (h : ∀ k, k < t.length → nth u k = 0) : addL t u = t :=
  nth_ext (addL_length t u) fun k hk => by rw [addL_length] at hk; rw [addL_nth t u hk, h k hk]; omega
theorem tk_head (hf : flawE c s dz = 0) (hx : x < s.length) (h0 : 0 ≤ n) (h1 : n ≤ nth s x) : tkE (s.set x n) c s dz = 0 ∧ tkS (s.set x n) = s.set x n ∧ tkD (s.set x n) c s dz = TA (s.set x n) (cel s dz) := by
  have he := (flawE_zero hf).1
  have hb := errOf_zero.1 he
  have hn : ∀ k, k < (s.set x n).length → 0 ≤ nth (s.set x n) k ∧ nth (s.set x n) k ≤ 4096 := fun k hk => by
    rw [nth_set _ _ _ _ hx]
    have := hb.2.1.nth k
    split
    · rename_i e; subst e; omega
    · exact this
  have hS : tkS (s.set x n) = s.set x n := nth_ext (tkS_length _) fun k hk => by
    rw [tkS_length] at hk
    rw [tkS_nth _ hk]
    unfold tks
    rw [if_pos (hn k hk).1]
  have hbig : tkBig (s.set x n) = false := by
    unfold tkBig
    rw [List.any_eq_false]
    intro y hy
    obtain ⟨j, hj, rfl⟩ := List.mem_iff_getElem.1 hy
    have := hn j hj
    rw [← nth_get _ j hj]
    simp; omega
  have hE := err_set he hx h0 h1
  refine ⟨tkE_zero.2 ⟨hf, by simp, hbig, by rw [hS]; exact hE⟩, hS, ?_⟩
  unfold tkD ptD
  rw [hS]
  refine TA_congr hE fun t ht => ?_
  have hi := (insS hx).1 ht
  have ha : addL t (tkU s (s.set x n)) = t := add_zer _ _ fun k hk => by
    rw [tkU_nth _ _ (by rw [List.length_set]; omega), if_pos (hn k (by rw [List.length_set]; omega)).1]
  unfold ptC
  rw [ha, if_pos]
  refine ins_mk hi.1 fun k hk => ?_
  by_cases e : k = x
  · subst e; omega
  · exact hi.2.1 k hk e
theorem dr_tail (hf : flawE c s dz = 0) (hx : x < s.length) (h0 : 0 ≤ n) (h1 : n ≤ nth s x) : drE ((zer s.length).set x n) c s dz = 0 ∧ drS s ((zer s.length).set x n) = s.set x (nth s x - n) ∧ drD ((zer s.length).set x n) c s dz = TA (s.set x (nth s x - n)) (fun t => cel s dz (t.set x (nth t x + n))) := by
  have he := (flawE_zero hf).1
  have hb := errOf_zero.1 he
  have hz : x < (zer s.length).length := by simp [zer]; exact hx
  have hl : ((zer s.length).set x n).length = s.length := by simp [zer]
  have hS : drS s ((zer s.length).set x n) = s.set x (nth s x - n) := nth_ext (by rw [drS_length, hl, List.length_set]) fun k hk => by
    rw [drS_length] at hk
    rw [drS_nth _ _ hk, nth_set _ _ _ _ hz, nth_set _ _ _ _ hx]
    have := hb.2.1.nth k
    unfold drs
    by_cases e : k = x
    · subst e
      rw [if_pos rfl, if_pos rfl]
      repeat' split
      all_goals omega
    · rw [if_neg e, if_neg e, zer_nth]
      repeat' split
      all_goals omega
  have hE := err_set (v := nth s x - n) he hx (by omega) (by omega)
  refine ⟨drE_zero.2 ⟨hf, hl⟩, hS, ?_⟩
  unfold drD ptD
  rw [hS]
  refine TA_congr hE fun t ht => ?_
  have hi := (insS hx).1 ht
  have hxt : x < t.length := by omega
  have ha : addL t (drU s ((zer s.length).set x n)) = t.set x (nth t x + n) := nth_ext (by rw [addL_length, List.length_set]) fun k hk => by
    rw [addL_length] at hk
    rw [addL_nth _ _ hk, drU_nth _ _ (by omega), nth_set _ _ _ _ hz, nth_set _ _ _ _ hxt]
    unfold dru
    by_cases e : k = x
    · subst e
      rw [if_pos rfl, if_pos rfl, if_neg (by omega), if_pos h0]
    · rw [if_neg e, if_neg e, zer_nth]
      repeat' split
      all_goals omega
  unfold ptC
  rw [ha, if_pos]
  refine ins_mk (by rw [List.length_set]; exact hi.1) fun k hk => ?_
  rw [nth_set _ _ _ _ hxt]
  split
  · rename_i e; subst e; omega
  · rename_i e; exact hi.2.1 k hk e
/-- The last ones are all but the others. -/
theorem tk_last (hf : flawE c s dz = 0) (hx : x < s.length) (h0 : 0 ≤ n) (h1 : n ≤ nth s x) : tkE (s.set x (n - nth s x)) c s dz = 0 ∧ tkS (s.set x (n - nth s x)) = s.set x (nth s x - n) ∧ tkD (s.set x (n - nth s x)) c s dz = TA (s.set x (nth s x - n)) (fun t => cel s dz (t.set x (nth t x + n))) := by
  have he := (flawE_zero hf).1
  have hb := errOf_zero.1 he
  have hbx := hb.2.1.nth x
  have hS : tkS (s.set x (n - nth s x)) = s.set x (nth s x - n) := nth_ext (by rw [tkS_length, List.length_set, List.length_set]) fun k hk => by
    rw [tkS_length] at hk
    rw [tkS_nth _ hk, nth_set _ _ _ _ hx, nth_set _ _ _ _ hx]
    have := hb.2.1.nth k
    unfold tks
    by_cases e : k = x
    · subst e; rw [if_pos rfl, if_pos rfl]; split <;> omega
    · rw [if_neg e, if_neg e]; split <;> omega
  have hbig : tkBig (s.set x (n - nth s x)) = false := by
    unfold tkBig
    rw [List.any_eq_false]
    intro y hy
    obtain ⟨j, hj, rfl⟩ := List.mem_iff_getElem.1 hy
    rw [← nth_get _ j hj, nth_set _ _ _ _ hx]
    have := hb.2.1.nth j
    split <;> (simp; omega)
  have hE := err_set (v := nth s x - n) he hx (by omega) (by omega)
  refine ⟨tkE_zero.2 ⟨hf, by simp, hbig, by rw [hS]; exact hE⟩, hS, ?_⟩
  unfold tkD ptD
  rw [hS]
  refine TA_congr hE fun t ht => ?_
  have hi := (insS hx).1 ht
  have hxt : x < t.length := by omega
  have ha : addL t (tkU s (s.set x (n - nth s x))) = t.set x (nth t x + n) := nth_ext (by rw [addL_length, List.length_set]) fun k hk => by
    rw [addL_length] at hk
    rw [addL_nth _ _ hk, tkU_nth _ _ (by rw [List.length_set]; omega), nth_set _ _ _ _ hx, nth_set _ _ _ _ hxt]
    by_cases e : k = x
    · subst e; rw [if_pos rfl, if_pos rfl, if_neg (by omega)]; omega
    · have := hb.2.1.nth k
      rw [if_neg e, if_neg e, if_pos this.1]; omega
  unfold ptC
  rw [ha, if_pos]
  refine ins_mk (by rw [List.length_set]; exact hi.1) fun k hk => ?_
  rw [nth_set _ _ _ _ hxt]
  split
  · rename_i e; subst e; omega
  · rename_i e; exact hi.2.1 k hk e
/-- All but the last ones are the first ones. -/
theorem dr_last (hf : flawE c s dz = 0) (hx : x < s.length) (h0 : 0 ≤ n) (h1 : n ≤ nth s x) : drE ((zer s.length).set x (n - nth s x)) c s dz = 0 ∧ drS s ((zer s.length).set x (n - nth s x)) = s.set x n ∧ drD ((zer s.length).set x (n - nth s x)) c s dz = TA (s.set x n) (cel s dz) := by
  have he := (flawE_zero hf).1
  have hb := errOf_zero.1 he
  have hbx := hb.2.1.nth x
  have hz : x < (zer s.length).length := by simp [zer]; exact hx
  have hl : ((zer s.length).set x (n - nth s x)).length = s.length := by simp [zer]
  have hS : drS s ((zer s.length).set x (n - nth s x)) = s.set x n := nth_ext (by rw [drS_length, hl, List.length_set]) fun k hk => by
    rw [drS_length] at hk
    rw [drS_nth _ _ hk, nth_set _ _ _ _ hz, nth_set _ _ _ _ hx]
    have := hb.2.1.nth k
    unfold drs
    by_cases e : k = x
    · subst e
      rw [if_pos rfl, if_pos rfl]
      repeat' split
      all_goals omega
    · rw [if_neg e, if_neg e, zer_nth]
      repeat' split
      all_goals omega
  have hE := err_set (v := n) he hx h0 h1
  refine ⟨drE_zero.2 ⟨hf, hl⟩, hS, ?_⟩
  unfold drD ptD
  rw [hS]
  refine TA_congr hE fun t ht => ?_
  have hi := (insS hx).1 ht
  have ha : addL t (drU s ((zer s.length).set x (n - nth s x))) = t := add_zer _ _ fun k hk => by
    rw [drU_nth _ _ (by omega), nth_set _ _ _ _ hz]
    unfold dru
    by_cases e : k = x
    · subst e
      rw [if_pos rfl]
      repeat' split
      all_goals omega
    · rw [if_neg e, zer_nth]
      repeat' split
      all_goals omega
  unfold ptC
  rw [ha, if_pos]
  refine ins_mk hi.1 fun k hk => ?_
  by_cases e : k = x
  · subst e; omega
  · exact hi.2.1 k hk e
end
/-! ### Joined -/
section
variable {c : Bool} {s dz s' dz' : List Int} {x : Nat}
theorem jn_flaw {X : Int} {c' : Bool} (h : jnE X c s dz c' s' dz' = 0) : flawE c (jnS X.toNat s s') (jnD X.toNat s dz s' dz') = 0 := by
  obtain ⟨h1, h2, h3, h4, h5, h6, h7, h8⟩ := jnE_zero.1 h
  subst h7
  have ho := othB_iff.1 h6
  refine TA_flaw h8 fun hc t ht => ?_
  have hi := (insS h5).1 ht
  unfold jnC
  split
  · rename_i hlt
    exact cel_ch h1 hc (ins_mk hi.1 fun k hk => by
      by_cases e : k = X.toNat
      · subst e; omega
      · exact hi.2.1 k hk e)
  · rename_i hlt
    refine cel_ch h2 hc (ins_mk (by rw [List.length_set]; omega) fun k hk => ?_)
    rw [nth_set _ _ _ _ (by omega)]
    split
    · rename_i e; subst e; omega
    · rename_i e
      rw [← ho k (by omega) e]
      exact hi.2.1 k (by omega) e
theorem jn_64 {X : Int} {c' : Bool} (h : jnE X c s dz c' s' dz' = 0) (T : ∀ j, In64 (nth dz j)) (T' : ∀ j, In64 (nth dz' j)) : ∀ j, In64 (nth (jnD X.toNat s dz s' dz') j) := TA_64 (jnE_zero.1 h).2.2.2.2.2.2.2 fun t ht => by
  unfold jnC
  split
  · exact cel_64 T _
  · exact cel_64 T' _
/-- Head and tail are all. -/
theorem jn_whole {n : Int} (hf : flawE c s dz = 0) (hx : x < s.length) (h0 : 0 ≤ n) (h1 : n ≤ nth s x) :
    jnE x c (s.set x n) (TA (s.set x n) (cel s dz)) c (s.set x (nth s x - n)) (TA (s.set x (nth s x - n)) (fun t => cel s dz (t.set x (nth t x + n)))) = 0 ∧ jnS x (s.set x n) (s.set x (nth s x - n)) = s
    ∧ jnD x (s.set x n) (TA (s.set x n) (cel s dz)) (s.set x (nth s x - n)) (TA (s.set x (nth s x - n)) (fun t => cel s dz (t.set x (nth t x + n)))) = dz := by
  obtain ⟨he, hd, _⟩ := flawE_zero hf
  have hb := errOf_zero.1 he
  have hE1 := err_set (v := n) he hx h0 h1
  have hE2 := err_set (v := nth s x - n) he hx (by omega) (by omega)
  have hS : jnS x (s.set x n) (s.set x (nth s x - n)) = s := by
    unfold jnS
    rw [nth_set_self hx, nth_set_self hx, set_set]
    exact set_get hx (by omega)
  have f1 : flawE c (s.set x n) (TA (s.set x n) (cel s dz)) = 0 := TA_flaw hE1 fun hc t ht => by
    have hi := (insS hx).1 ht
    exact cel_ch hf hc (ins_mk hi.1 fun k hk => by
      by_cases e : k = x
      · subst e; omega
      · exact hi.2.1 k hk e)
  have f2 : flawE c (s.set x (nth s x - n)) (TA (s.set x (nth s x - n)) (fun t => cel s dz (t.set x (nth t x + n)))) = 0 := TA_flaw hE2 fun hc t ht => by
    have hi := (insS hx).1 ht
    refine cel_ch hf hc (ins_mk (by rw [List.length_set]; exact hi.1) fun k hk => ?_)
    rw [nth_set _ _ _ _ (by omega)]
    split
    · rename_i e; subst e; omega
    · rename_i e; exact hi.2.1 k hk e
  refine ⟨jnE_zero.2 ⟨f1, f2, by simp, by omega, by simpa using hx, othB_iff.2 fun k hk e => ?_, rfl, by rw [Int.toNat_natCast, hS]; exact he⟩, hS, ?_⟩
  · rw [List.length_set] at hk
    rw [Int.toNat_natCast] at e
    rw [nth_set_ne hx e, nth_set_ne hx e]
  · unfold jnD
    rw [hS]
    refine TA_is he hd fun t ht => ?_
    have hi := ins_all ht
    have hxi := hi.2 x hx
    have hxt : x < t.length := by omega
    unfold jnC
    rw [nth_set_self hx]
    by_cases hlt : nth t x < n
    · rw [if_pos hlt]
      exact TA_at hE1 ((insS hx).2 ⟨hi.1, fun k hk _ => hi.2 k hk, hxi.1, hlt⟩)
    · rw [if_neg hlt, TA_at hE2 ((insS hx).2 ⟨by rw [List.length_set]; exact hi.1, fun k hk e => by rw [nth_set_ne hxt e]; exact hi.2 k hk, by rw [nth_set_self hxt]; omega, by rw [nth_set_self hxt]; omega⟩)]
      rw [nth_set_self hxt, set_set]
      congr 1
      exact set_get hxt (by omega)
end
end Go.Proofs.YtjaabemlpiafaaaDoor
/-! Cutn: Plain mathematics: arrays joined, kept and spread; nothing of the program. -/
namespace Go.Proofs.YtjaabemlpiafaaaDoor
open Go.RowKit
set_option linter.unusedVariables false

theorem TA_none {s : List Int} {f : List Int → Int} (h : prod s = 0) : TA s f = [] := by unfold TA; rw [h]; rfl
/-- Indices of two joined: those of the first one, and of the second one. -/
theorem jn_left {s s' t : List Int} {x : Nat} (hx : x < s.length) (h : insB (jnS x s s') t = true) (hlt : nth t x < nth s x) : insB s t = true := by
  have hi := (insS hx).1 h
  exact ins_mk hi.1 fun k hk => by
    by_cases e : k = x
    · subst e; omega
    · exact hi.2.1 k hk e
theorem jn_right {s s' t : List Int} {x : Nat} (hx : x < s.length) (hl : s.length = s'.length) (ho : othB x s s' = true) (h : insB (jnS x s s') t = true) (hlt : ¬ nth t x < nth s x) : insB s' (t.set x (nth t x - nth s x)) = true := by
  have hi := (insS hx).1 h
  refine ins_mk (by rw [List.length_set]; omega) fun k hk => ?_
  rw [nth_set _ _ _ _ (by omega)]
  split
  · rename_i e; subst e; omega
  · rename_i e
    rw [← othB_iff.1 ho k (by omega) e]
    exact hi.2.1 k (by omega) e
theorem jnS_length (x : Nat) (s s' : List Int) : (jnS x s s').length = s.length := by simp [jnS]
theorem jnS_at {x : Nat} {s s' : List Int} (hx : x < s.length) : nth (jnS x s s') x = nth s x + nth s' x := nth_set_self hx
theorem jnS_ne {x : Nat} {s s' : List Int} (hx : x < s.length) {k : Nat} (h : k ≠ x) : nth (jnS x s s') k = nth s k := nth_set_ne hx h
theorem jnZ {x : Nat} {c : Bool} {s dz : List Int} {c' : Bool} {s' dz' : List Int} : jnE x c s dz c' s' dz' = 0 ↔ flawE c s dz = 0 ∧ flawE c' s' dz' = 0 ∧ s.length = s'.length ∧ x < s.length ∧ othB x s s' = true ∧ c = c' ∧ errOf (jnS x s s') = 0 := by
  rw [jnE_zero, Int.toNat_natCast]
  exact ⟨fun h => ⟨h.1, h.2.1, h.2.2.1, h.2.2.2.2⟩, fun h => ⟨h.1, h.2.1, h.2.2.1, by omega, h.2.2.2⟩⟩
section
variable {x : Nat} {c c1 c2 : Bool} {s dz s' dz' s'' dz'' : List Int}
theorem jn_flawN (h : jnE x c s dz c1 s' dz' = 0) : flawE c (jnS x s s') (jnD x s dz s' dz') = 0 := jn_flaw h
/-- Whichever two come first. -/
theorem jn_assoc (h1 : jnE x c s dz c1 s' dz' = 0) (h2 : jnE x c (jnS x s s') (jnD x s dz s' dz') c2 s'' dz'' = 0) :
    jnE x c1 s' dz' c2 s'' dz'' = 0 ∧ jnE x c s dz c1 (jnS x s' s'') (jnD x s' dz' s'' dz'') = 0 ∧ jnS x s (jnS x s' s'') = jnS x (jnS x s s') s''
    ∧ jnD x s dz (jnS x s' s'') (jnD x s' dz' s'' dz'') = jnD x (jnS x s s') (jnD x s dz s' dz') s'' dz'' := by
  obtain ⟨a1, a2, a3, a5, a6, a7, a8⟩ := jnZ.1 h1
  obtain ⟨b1, b2, b3, b5, b6, b7, b8⟩ := jnZ.1 h2
  subst a7 b7
  rw [jnS_length] at b3 b5
  have o1 := othB_iff.1 a6
  have o2 := othB_iff.1 b6
  have hx' : x < s'.length := by omega
  have o3 : ∀ k, k < s'.length → k ≠ x → nth s' k = nth s'' k := fun k hk e => by
    have := o2 k (by rw [jnS_length]; omega) e
    rw [jnS_ne a5 e] at this
    rw [← o1 k (by omega) e]; exact this
  have z1 := (errOf_zero.1 (flawE_zero a1).1).2.1.nth x
  have z2 := (errOf_zero.1 (flawE_zero a2).1).2.1.nth x
  have z3 := (errOf_zero.1 (flawE_zero b2).1).2.1.nth x
  have hxS : x < (jnS x s s').length := by rw [jnS_length]; exact a5
  have eS : jnS x s (jnS x s' s'') = jnS x (jnS x s s') s'' := by
    refine nth_ext (by rw [jnS_length, jnS_length, jnS_length]) fun k hk => ?_
    rw [jnS_length] at hk
    by_cases e : k = x
    · subst e
      rw [jnS_at a5, jnS_at hx', jnS_at hxS, jnS_at a5]
      omega
    · rw [jnS_ne a5 e, jnS_ne hxS e, jnS_ne a5 e]
  have eU : errOf (jnS x s' s'') = 0 := by
    refine err_mono (b := jnS x (jnS x s s') s'') (by rw [jnS_length, jnS_length, jnS_length]; omega) (fun k hk => ?_) b8
    rw [jnS_length] at hk
    by_cases e : k = x
    · subst e
      rw [jnS_at hx', jnS_at hxS, jnS_at a5]
      omega
    · have := (errOf_zero.1 (flawE_zero a1).1).2.1.nth k
      rw [jnS_ne hx' e, jnS_ne hxS e, jnS_ne a5 e, ← o1 k (by omega) e]
      omega
  have E3 : jnE x c s' dz' c s'' dz'' = 0 := jnZ.2 ⟨a2, b2, by omega, hx', othB_iff.2 o3, rfl, eU⟩
  have E4 : jnE x c s dz c (jnS x s' s'') (jnD x s' dz' s'' dz'') = 0 := jnZ.2 ⟨a1, jn_flawN E3, by rw [jnS_length]; exact a3, a5, othB_iff.2 fun k hk e => by rw [jnS_ne hx' e]; exact o1 k hk e, rfl, by rw [eS]; exact b8⟩
  refine ⟨E3, E4, eS, ?_⟩
  unfold jnD
  rw [eS]
  refine TA_congr b8 fun t ht => ?_
  have hi := (insS hxS).1 ht
  rw [jnS_length] at hi
  have hxt : x < t.length := by omega
  rw [jnS_at a5] at hi
  unfold jnC
  rw [jnS_at a5]
  by_cases g1 : nth t x < nth s x
  · rw [if_pos g1, if_pos (by omega), TA_at a8]
    · rw [if_pos g1]
    · exact (insS a5).2 ⟨by omega, fun k hk e => by have := hi.2.1 k (by omega) e; rwa [jnS_ne a5 e] at this, by omega, by omega⟩
  · rw [if_neg g1, TA_at eU]
    · rw [nth_set_self hxt, set_set]
      by_cases g2 : nth t x < nth s x + nth s' x
      · rw [if_pos (by omega), if_pos g2, TA_at a8]
        · rw [if_neg g1]
        · exact (insS a5).2 ⟨by omega, fun k hk e => by have := hi.2.1 k (by omega) e; rwa [jnS_ne a5 e] at this, by omega, by omega⟩
      · rw [if_neg (by omega), if_neg g2]
        congr 2
        omega
    · refine (insS hx').2 ⟨by rw [List.length_set]; omega, fun k hk e => ?_, ?_, ?_⟩
      · rw [nth_set_ne hxt e, ← o1 k (by omega) e]
        have := hi.2.1 k (by omega) e
        rwa [jnS_ne a5 e] at this
      · rw [nth_set_self hxt]; omega
      · rw [nth_set_self hxt]; omega
/-- With nothing joined it is itself. -/
theorem jn_none (hf : flawE c s dz = 0) (hx : x < s.length) : jnE x c s dz c (s.set x 0) (TA (s.set x 0) (cel s dz)) = 0 ∧ jnS x s (s.set x 0) = s ∧ jnD x s dz (s.set x 0) (TA (s.set x 0) (cel s dz)) = dz
    ∧ jnE x c (s.set x 0) (TA (s.set x 0) (cel s dz)) c s dz = 0 ∧ jnS x (s.set x 0) s = s ∧ jnD x (s.set x 0) (TA (s.set x 0) (cel s dz)) s dz = dz := by
  obtain ⟨he, hd, _⟩ := flawE_zero hf
  have z := (errOf_zero.1 he).2.1.nth x
  have p0 : prod (s.set x 0) = 0 := by rw [prod_set hx]; omega
  have w1 := jn_whole (n := nth s x) hf hx z.1 (Int.le_refl _)
  have w2 := jn_whole (n := 0) hf hx (Int.le_refl _) z.1
  rw [set_get hx rfl, TA_self he hd, show nth s x - nth s x = 0 by omega, TA_none p0] at w1
  rw [show nth s x - 0 = nth s x by omega, set_get (v := nth s x) hx rfl, TA_none p0, TA_is he hd fun t ht => by
    have hi := ins_all ht
    rw [set_get (by omega) (by omega)]] at w2
  rw [TA_none p0]
  exact ⟨w1.1, w1.2.1, w1.2.2, w2.1, w2.2.1, w2.2.2⟩
end
/-! ### Masks: kept and spread -/
def otm (m : List Int) : List Int := m.map fun v => 1 - v
theorem otm_length (m : List Int) : (otm m).length = m.length := by simp [otm]
theorem otm_nth (m : List Int) {j : Nat} (h : j < m.length) : nth (otm m) j = 1 - nth m j := by simp [otm, nth, h]
theorem otm_msk {m : List Int} (h : mskB m = true) : mskB (otm m) = true := by
  unfold mskB otm at *
  rw [List.all_map]
  refine List.all_eq_true.2 fun v hv => ?_
  have := List.all_eq_true.1 h v hv
  simp at this ⊢
  omega
theorem otm_sum : ∀ m : List Int, sumI (otm m) = m.length - sumI m
  | [] => by simp [otm, sumI]
  | v :: m => by
    have ih := otm_sum m
    unfold otm at *
    simp only [List.map_cons, sumI, ih, List.length_cons]
    omega
theorem otm_otm (m : List Int) : otm (otm m) = m := by
  refine nth_ext (by rw [otm_length, otm_length]) fun k hk => ?_
  rw [otm_length, otm_length] at hk
  rw [otm_nth _ (by rw [otm_length]; exact hk), otm_nth _ hk]
  omega
theorem msk_sum {m : List Int} (h : mskB m = true) : 0 ≤ sumI m ∧ sumI m ≤ m.length := by have := rnk_bd h m.length (Nat.le_refl _); rwa [rnk_all] at this
theorem kpZ {x : Nat} {m : List Int} {c : Bool} {s dz : List Int} : kpE m x c s dz = 0 ↔ flawE c s dz = 0 ∧ x < s.length ∧ (m.length : Int) = nth s x ∧ mskB m = true := by
  unfold kpE
  rw [Int.toNat_natCast]
  by_cases h : axE x c s dz = 0
  · have h' := axE_zero.1 h
    rw [Int.toNat_natCast] at h'
    rw [if_neg (by simpa using h)]
    by_cases h1 : (m.length : Int) = nth s x
    · rw [if_neg (by simpa using h1)]
      cases h2 : mskB m
      · simp
      · simp [h'.1, h'.2.2, h1]
    · rw [if_pos h1]; exact ⟨fun e => absurd e (by decide), fun e => absurd e.2.2.1 h1⟩
  · rw [if_pos h]; exact ⟨fun e => absurd e h, fun e => absurd (axE_zero.2 ⟨e.1, by omega, by rw [Int.toNat_natCast]; exact e.2.1⟩) h⟩
theorem spZ {x : Nat} {m : List Int} {c : Bool} {s dz : List Int} : spE m x c s dz = 0 ↔ flawE c s dz = 0 ∧ x < s.length ∧ mskB m = true ∧ sumI m = nth s x ∧ errOf (spS m x s) = 0 := by
  unfold spE
  rw [Int.toNat_natCast]
  by_cases h : axE x c s dz = 0
  · have h' := axE_zero.1 h
    rw [Int.toNat_natCast] at h'
    rw [if_neg (by simpa using h)]
    cases h2 : mskB m
    · simp
    · rw [if_neg (by simp)]
      by_cases h1 : sumI m = nth s x
      · rw [if_neg (by simpa using h1)]
        simp [h'.1, h'.2.2, h1]
      · rw [if_pos h1]; exact ⟨fun e => absurd e (by decide), fun e => absurd e.2.2.2.1 h1⟩
  · rw [if_pos h]; exact ⟨fun e => absurd e h, fun e => absurd (axE_zero.2 ⟨e.1, by omega, by rw [Int.toNat_natCast]; exact e.2.1⟩) h⟩
section
variable {x : Nat} {m : List Int} {c : Bool} {s dz : List Int}
theorem kp_err (h : kpE m x c s dz = 0) : errOf (kpS m x s) = 0 := by
  obtain ⟨h1, h2, h3, h4⟩ := kpZ.1 h
  have := msk_sum h4
  exact err_set (flawE_zero h1).1 h2 this.1 (by omega)
/-- What is kept is there. -/
theorem kp_in (h : kpE m x c s dz = 0) {t : List Int} (ht : insB (kpS m x s) t = true) : insB s (kpT m x t) = true ∧ nth m (nth (kpT m x t) x).toNat = 1 ∧ rnk m (nth (kpT m x t) x).toNat = nth t x := by
  obtain ⟨h1, h2, h3, h4⟩ := kpZ.1 h
  have hi := (insS h2).1 ht
  have hxt : x < t.length := by omega
  have hp := pos1_fact (m := m) (j := (nth t x).toNat) h4 (by omega)
  unfold kpT
  rw [nth_set_self hxt, Int.toNat_natCast]
  refine ⟨ins_mk (by rw [List.length_set]; exact hi.1) fun k hk => ?_, hp.2.1, by rw [hp.2.2]; omega⟩
  rw [nth_set _ _ _ _ hxt]
  split
  · rename_i e; subst e; omega
  · rename_i e; exact hi.2.1 k hk e
theorem kp_flaw (h : kpE m x c s dz = 0) : flawE c (kpS m x s) (kpD m x s dz) = 0 := TA_flaw (kp_err h) fun hc t ht => cel_ch (kpZ.1 h).1 hc (kp_in h ht).1
theorem kp_64 (h : kpE m x c s dz = 0) (T : ∀ j, In64 (nth dz j)) : ∀ j, In64 (nth (kpD m x s dz) j) := TA_64 (kp_err h) fun t _ => cel_64 T _
theorem sp_in (h : spE m x c s dz = 0) {t : List Int} (ht : insB (spS m x s) t = true) (h1 : nth m (nth t x).toNat ≠ 0) : insB s (t.set x (rnk m (nth t x).toNat)) = true := by
  obtain ⟨g1, g2, g3, g4, g5⟩ := spZ.1 h
  have hi := (insS g2).1 ht
  have hxt : x < t.length := by omega
  have hm := (mskB_nth g3 (j := (nth t x).toNat) (by omega)).resolve_left h1
  have r0 := rnk_bd g3 (nth t x).toNat (by omega)
  have r1 := rnk_le g3 (i := (nth t x).toNat + 1) (j := m.length) (by omega) (Nat.le_refl _)
  rw [rnk_succ m (by omega), rnk_all, hm] at r1
  refine ins_mk (by rw [List.length_set]; exact hi.1) fun k hk => ?_
  rw [nth_set _ _ _ _ hxt]
  split
  · rename_i e; subst e; omega
  · rename_i e; exact hi.2.1 k hk e
theorem sp_flaw (h : spE m x c s dz = 0) : flawE c (spS m x s) (spD m x c s dz) = 0 := TA_flaw (spZ.1 h).2.2.2.2 fun hc t ht => by
  unfold spC
  split
  · exact fill_ch hc
  · rename_i h1; exact cel_ch (spZ.1 h).1 hc (sp_in h ht h1)
theorem sp_64 (h : spE m x c s dz = 0) (T : ∀ j, In64 (nth dz j)) : ∀ j, In64 (nth (spD m x c s dz) j) := TA_64 (spZ.1 h).2.2.2.2 fun t _ => by
  unfold spC
  split
  · exact fill_64 c
  · exact cel_64 T _
/-- What is spread is kept. -/
theorem sp_kp (h : spE m x c s dz = 0) : kpE m x c (spS m x s) (spD m x c s dz) = 0 ∧ kpS m x (spS m x s) = s ∧ kpD m x (spS m x s) (spD m x c s dz) = dz := by
  obtain ⟨g1, g2, g3, g4, g5⟩ := spZ.1 h
  obtain ⟨he, hd, _⟩ := flawE_zero g1
  have hxS : x < (spS m x s).length := by simp [spS]; exact g2
  have hK : kpE m x c (spS m x s) (spD m x c s dz) = 0 := kpZ.2 ⟨sp_flaw h, hxS, by unfold spS; rw [nth_set_self g2], g3⟩
  have hS : kpS m x (spS m x s) = s := by
    unfold kpS spS
    rw [set_set, g4]
    exact set_get g2 rfl
  refine ⟨hK, hS, ?_⟩
  unfold kpD
  rw [hS]
  refine TA_is he hd fun t ht => ?_
  have hk := kp_in hK (t := t) (by rw [hS]; exact ht)
  have hi := ins_all ht
  have hxt : x < t.length := by omega
  unfold spD
  rw [TA_at g5 hk.1]
  unfold spC
  rw [hk.2.1, if_neg (by decide), hk.2.2]
  unfold kpT
  rw [set_set]
  congr 1
  exact set_get hxt rfl
/-- Elsewhere there stand fills. -/
theorem sp_fills (h : spE m x c s dz = 0) : kpE (otm m) x c (spS m x s) (spD m x c s dz) = 0 ∧ (∀ j, j < (kpD (otm m) x (spS m x s) (spD m x c s dz)).length → nth (kpD (otm m) x (spS m x s) (spD m x c s dz)) j = fillE c)
    ∧ (kpD (otm m) x (spS m x s) (spD m x c s dz)).length + dz.length = (spD m x c s dz).length := by
  obtain ⟨g1, g2, g3, g4, g5⟩ := spZ.1 h
  obtain ⟨he, hd, _⟩ := flawE_zero g1
  have hxS : x < (spS m x s).length := by simp [spS]; exact g2
  have hK : kpE (otm m) x c (spS m x s) (spD m x c s dz) = 0 := kpZ.2 ⟨sp_flaw h, hxS, by unfold spS; rw [nth_set_self g2, otm_length], otm_msk g3⟩
  have hE := kp_err hK
  refine ⟨hK, fun j hj => ?_, ?_⟩
  · unfold kpD at hj ⊢
    rw [TA_length] at hj
    rw [TA_nth hj]
    have hc := cr_in hE hj
    have hk := kp_in hK hc.1
    have hi := ins_all hk.1
    have hxi := hi.2 x hxS
    rw [show nth (spS m x s) x = m.length from nth_set_self g2] at hxi
    rw [otm_nth m (by omega)] at hk
    unfold spD
    rw [TA_at g5 hk.1]
    unfold spC
    rw [if_pos (by have := hk.2.1; omega)]
  · have l1 : ((kpD (otm m) x (spS m x s) (spD m x c s dz)).length : Int) = prod (kpS (otm m) x (spS m x s)) := TA_len hE
    have l2 : ((spD m x c s dz).length : Int) = prod (spS m x s) := TA_len g5
    have e1 : kpS (otm m) x (spS m x s) = s.set x (m.length - nth s x) := by unfold kpS spS; rw [set_set, otm_sum, g4]
    rw [e1, prod_set g2, Int.sub_mul] at l1
    unfold spS at l2
    rw [prod_set g2] at l2
    rw [prod_get g2] at hd
    omega
/-- What is taken apart: each part spread again. -/
theorem kp_sp (h : kpE m x c s dz = 0) : spE m x c (kpS m x s) (kpD m x s dz) = 0 ∧ spS m x (kpS m x s) = s ∧ spD m x c (kpS m x s) (kpD m x s dz) = TA s (fun t => if nth m (nth t x).toNat = 0 then fillE c else cel s dz t) := by
  obtain ⟨g1, g2, g3, g4⟩ := kpZ.1 h
  obtain ⟨he, hd, _⟩ := flawE_zero g1
  have hxS : x < (kpS m x s).length := by simp [kpS]; exact g2
  have hS : spS m x (kpS m x s) = s := by
    unfold kpS spS
    rw [set_set, g3]
    exact set_get g2 rfl
  have hE := kp_err h
  refine ⟨spZ.2 ⟨kp_flaw h, hxS, g4, by unfold kpS; rw [nth_set_self g2], by rw [hS]; exact he⟩, hS, ?_⟩
  unfold spD
  rw [hS]
  refine TA_congr he fun t ht => ?_
  have hi := ins_all ht
  have hxi := hi.2 x g2
  have hxt : x < t.length := by omega
  unfold spC
  by_cases h0 : nth m (nth t x).toNat = 0
  · rw [if_pos h0, if_pos h0]
  · rw [if_neg h0, if_neg h0]
    have hm := (mskB_nth g4 (j := (nth t x).toNat) (by omega)).resolve_left h0
    have r0 := rnk_bd g4 (nth t x).toNat (by omega)
    have r1 := rnk_le g4 (i := (nth t x).toNat + 1) (j := m.length) (by omega) (Nat.le_refl _)
    rw [rnk_succ m (by omega), rnk_all, hm] at r1
    unfold kpD
    rw [TA_at hE ((insS g2).2 ⟨by rw [List.length_set]; exact hi.1, fun k hk e => by rw [nth_set_ne hxt e]; exact hi.2 k hk, by rw [nth_set_self hxt]; omega, by rw [nth_set_self hxt]; omega⟩)]
    unfold kpT
    rw [nth_set_self hxt, set_set, pos1_rnk g4 (by omega) hm]
    congr 1
    exact set_get hxt (by omega)
theorem kp_other (h : kpE m x c s dz = 0) : kpE (otm m) x c s dz = 0 := by
  obtain ⟨g1, g2, g3, g4⟩ := kpZ.1 h
  exact kpZ.2 ⟨g1, g2, by rw [otm_length]; exact g3, otm_msk g4⟩
end
end Go.Proofs.YtjaabemlpiafaaaDoor
