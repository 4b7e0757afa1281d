/-
  Plain mathematics of arrays told cell by cell: fewer cells, and more; nothing of the program.
-/
import Derived.Test.YtgaelbgeoobgiabDoorAlongm
import Derived.Test.YtgaelbgeoobgiabDoorCycd
import Derived.Test.YtgaelbgeoobgiabDoorTurnq
namespace Go.Proofs.YtgaelbgeoobgiabDoor
open Go.RowKit
set_option linter.unusedVariables false

/-- The cell at these indices. -/
def cel (s dz t : List Int) : Int := nth dz (place s t).toNat
/-- The array of this shape whose cell at indices t is f t. -/
def TA (s : List Int) (f : List Int → Int) : List Int := (List.range (prod s).toNat).map fun i => f (cr s i)
section
variable {s s' dz xs : List Int} {f g : List Int → Int}
theorem GA_TA (s dz s' : List Int) (src : List Int → List Int) : GA s dz s' src = TA s' (fun t => cel s dz (src t)) := rfl
theorem TA_length : (TA s f).length = (prod s).toNat := by simp [TA]
theorem TA_nth {i : Nat} (h : i < (prod s).toNat) : nth (TA s f) i = f (cr s i) := by simp [TA, nth, h]
theorem TA_at (he : errOf s = 0) {t : List Int} (ht : insB s t = true) : cel s (TA s f) t = f t := by
  have h := cr_place he ht
  unfold cel
  rw [TA_nth h.2, h.1]
theorem TA_ext (he : errOf s = 0) (hl : xs.length = (prod s).toNat) (h : ∀ t, insB s t = true → cel s xs t = f t) : xs = TA s f := by
  refine nth_ext (by rw [hl, TA_length]) fun i hi => ?_
  rw [hl] at hi
  have hc := cr_in he hi
  have h' := h _ hc.1
  unfold cel at h'
  rw [hc.2, Int.toNat_natCast] at h'
  rw [TA_nth hi, h']
theorem TA_congr (he : errOf s = 0) (h : ∀ t, insB s t = true → f t = g t) : TA s f = TA s g :=
  TA_ext he TA_length fun t ht => by rw [TA_at he ht, h t ht]
theorem TA_self (he : errOf s = 0) (hd : (dz.length : Int) = prod s) : TA s (cel s dz) = dz := (TA_ext he (by omega) fun _ _ => rfl).symm
theorem TA_is (he : errOf s = 0) (hd : (dz.length : Int) = prod s) (h : ∀ t, insB s t = true → f t = cel s dz t) : TA s f = dz := by rw [TA_congr he h, TA_self he hd]
theorem TA_len (he : errOf s = 0) : ((TA s f).length : Int) = prod s := by
  have := prod_nonneg (errOf_zero.1 he).2.1
  rw [TA_length]; omega
theorem TA_mem {x : Int} (he : errOf s = 0) (hx : x ∈ TA s f) : ∃ t, insB s t = true ∧ x = f t := by
  obtain ⟨j, hj, rfl⟩ := List.mem_iff_getElem.1 hx
  have hj' : j < (prod s).toNat := by rwa [TA_length] at hj
  exact ⟨_, (cr_in he hj').1, by rw [← nth_get _ j hj, TA_nth hj']⟩
theorem TA_flaw {c : Bool} (he : errOf s = 0) (h : c = true → ∀ t, insB s t = true → chOk (f t) = true) : flawE c s (TA s f) = 0 := by
  cases c
  · exact flawE_okn he (TA_len he)
  · refine flawE_okc he (TA_len he) ?_
    unfold chAll
    rw [List.all_eq_true]
    intro x hx
    obtain ⟨t, ht, rfl⟩ := TA_mem he hx
    exact h rfl t ht
theorem TA_64 (he : errOf s = 0) (h : ∀ t, insB s t = true → In64 (f t)) : ∀ j, In64 (nth (TA s f) j) := fun j => by
  by_cases hj : j < (prod s).toNat
  · rw [TA_nth hj]; exact h _ (cr_in he hj).1
  · have : nth (TA s f) j = 0 := by simp [nth, List.getElem?_eq_none (show (TA s f).length ≤ j by rw [TA_length]; omega)]
    rw [this]; unfold In64; decide
theorem cel_ch {c : Bool} (hf : flawE c s dz = 0) (hc : c = true) {t : List Int} (ht : insB s t = true) : chOk (cel s dz t) = true := by
  obtain ⟨h1, h2, h3⟩ := flawE_zero hf
  have hb := place_bd ht
  have := h3 hc
  unfold chAll at this
  exact List.all_eq_true.1 this _ (nth_mem dz _ (by omega))
theorem fill_ch {c : Bool} (hc : c = true) : chOk (fillE c) = true := by subst hc; decide
theorem fill_64 (c : Bool) : In64 (fillE c) := by cases c <;> (unfold In64; decide)
theorem cel_64 (T : ∀ j, In64 (nth dz j)) (t : List Int) : In64 (cel s dz t) := T _
end
/-! ### A part of an array -/
def addL (t u : List Int) : List Int := (List.range t.length).map fun k => nth t k + nth u k
theorem addL_length (t u : List Int) : (addL t u).length = t.length := by simp [addL]
theorem addL_nth (t u : List Int) {k : Nat} (h : k < t.length) : nth (addL t u) k = nth t k + nth u k := by simp [addL, nth, h]
/-- What stands at indices t of the part that begins at u: fills outside. -/
def ptC (c : Bool) (s dz u t : List Int) : Int := if insB s (addL t u) = true then cel s dz (addL t u) else fillE c
def ptD (c : Bool) (s dz s' u : List Int) : List Int := TA s' (ptC c s dz u)
theorem pt_flaw {c : Bool} {s dz s' u : List Int} (hf : flawE c s dz = 0) (he : errOf s' = 0) : flawE c s' (ptD c s dz s' u) = 0 := TA_flaw he fun hc t ht => by
  unfold ptC
  split
  · rename_i h; exact cel_ch hf hc h
  · exact fill_ch hc
theorem pt_64 {c : Bool} {s dz s' u : List Int} (he : errOf s' = 0) (T : ∀ j, In64 (nth dz j)) : ∀ j, In64 (nth (ptD c s dz s' u) j) := TA_64 he fun t ht => by
  unfold ptC
  split
  · exact cel_64 T _
  · exact fill_64 c
/-! ### Take -/
def tks (x : Int) : Int := if 0 ≤ x then x else -x
def tkS (n : List Int) : List Int := n.map tks
def tkU (s n : List Int) : List Int := (List.range n.length).map fun k => if 0 ≤ nth n k then 0 else nth s k + nth n k
def tkBig (n : List Int) : Bool := n.any fun x => decide (4096 < x) || decide (x < -4096)
def tkE (n : List Int) (c : Bool) (s dz : List Int) : Int := if flawE c s dz ≠ 0 then flawE c s dz else if n.length ≠ s.length then 4 else if tkBig n = true then 7 else errOf (tkS n)
def tkD (n : List Int) (c : Bool) (s dz : List Int) : List Int := ptD c s dz (tkS n) (tkU s n)
theorem tkS_length (n : List Int) : (tkS n).length = n.length := by simp [tkS]
theorem tkS_nth (n : List Int) {k : Nat} (h : k < n.length) : nth (tkS n) k = tks (nth n k) := by simp [tkS, nth, h]
theorem tkU_length (s n : List Int) : (tkU s n).length = n.length := by simp [tkU]
theorem tkU_nth (s n : List Int) {k : Nat} (h : k < n.length) : nth (tkU s n) k = if 0 ≤ nth n k then 0 else nth s k + nth n k := by simp [tkU, nth, h]
theorem tkE_zero {n : List Int} {c : Bool} {s dz : List Int} : tkE n c s dz = 0 ↔ flawE c s dz = 0 ∧ n.length = s.length ∧ tkBig n = false ∧ errOf (tkS n) = 0 := by
  unfold tkE
  by_cases h : flawE c s dz = 0
  · rw [if_neg (by simpa using h)]
    by_cases h1 : n.length = s.length
    · rw [if_neg (by simpa using h1)]
      cases h2 : tkBig n
      · simp [h, h1]
      · simp
    · rw [if_pos h1]; exact ⟨fun e => absurd e (by decide), fun e => absurd e.2.1 h1⟩
  · rw [if_pos h]; exact ⟨fun e => absurd e h, fun e => absurd e.1 h⟩
/-! ### Drop -/
def drs (l x : Int) : Int := if l ≤ x ∨ x ≤ -l then (if x = 0 then l else 0) else if 0 ≤ x then l - x else l + x
def dru (l x : Int) : Int := if l ≤ x ∨ x ≤ -l then 0 else if 0 ≤ x then x else 0
def drS (s n : List Int) : List Int := (List.range n.length).map fun k => drs (nth s k) (nth n k)
def drU (s n : List Int) : List Int := (List.range n.length).map fun k => dru (nth s k) (nth n k)
def drE (n : List Int) (c : Bool) (s dz : List Int) : Int := if flawE c s dz ≠ 0 then flawE c s dz else if n.length ≠ s.length then 4 else 0
def drD (n : List Int) (c : Bool) (s dz : List Int) : List Int := ptD c s dz (drS s n) (drU s n)
theorem drS_length (s n : List Int) : (drS s n).length = n.length := by simp [drS]
theorem drS_nth (s n : List Int) {k : Nat} (h : k < n.length) : nth (drS s n) k = drs (nth s k) (nth n k) := by simp [drS, nth, h]
theorem drU_length (s n : List Int) : (drU s n).length = n.length := by simp [drU]
theorem drU_nth (s n : List Int) {k : Nat} (h : k < n.length) : nth (drU s n) k = dru (nth s k) (nth n k) := by simp [drU, nth, h]
theorem drE_zero {n : List Int} {c : Bool} {s dz : List Int} : drE n c s dz = 0 ↔ flawE c s dz = 0 ∧ n.length = s.length := by
  unfold drE
  by_cases h : flawE c s dz = 0
  · rw [if_neg (by simpa using h)]
    by_cases h1 : n.length = s.length
    · rw [if_neg (by simpa using h1)]; simp [h, h1]
    · rw [if_pos h1]; exact ⟨fun e => absurd e (by decide), fun e => absurd e.2 h1⟩
  · rw [if_pos h]; exact ⟨fun e => absurd e h, fun e => absurd e.1 h⟩
theorem drs_bd {l x : Int} (h : 0 ≤ l) : 0 ≤ drs l x ∧ drs l x ≤ l := by unfold drs; repeat' split
                                                                         all_goals omega
/-- Shorter axes have no more cells. -/
theorem prod_mono : ∀ {a b : List Int}, a.length = b.length → (∀ k, k < a.length → 0 ≤ nth a k ∧ nth a k ≤ nth b k) → 0 ≤ prod a ∧ prod a ≤ prod b
  | [], [], _, _ => by simp [prod]
  | [], _ :: _, h, _ => by simp at h
  | _ :: _, [], h, _ => by simp at h
  | x :: a, y :: b, hl, h => by
    have h0 := h 0 (by simp)
    rw [nth_zero, nth_zero] at h0
    have ih := prod_mono (a := a) (b := b) (by simpa using hl) fun k hk => by have := h (k + 1) (by simpa using hk); rwa [nth_succ, nth_succ] at this
    simp only [prod]
    exact ⟨Int.mul_nonneg h0.1 ih.1, Int.mul_le_mul h0.2 ih.2 ih.1 (by omega)⟩
theorem all_in {s : List Int} (h : ∀ k, k < s.length → 0 ≤ nth s k ∧ nth s k ≤ 4096) : AllIn s := fun x hx => by
  obtain ⟨j, hj, rfl⟩ := List.mem_iff_getElem.1 hx
  rw [← nth_get s j hj]; exact h j hj
theorem err_mono {a b : List Int} (hl : a.length = b.length) (h : ∀ k, k < a.length → 0 ≤ nth a k ∧ nth a k ≤ nth b k) (he : errOf b = 0) : errOf a = 0 := by
  have hb := errOf_zero.1 he
  have hp := prod_mono hl h
  exact errOf_zero.2 ⟨by omega, all_in fun k hk => by have := h k hk; have := hb.2.1.nth k; omega, by omega⟩
theorem dr_err {n : List Int} {c : Bool} {s dz : List Int} (h : drE n c s dz = 0) : errOf (drS s n) = 0 := by
  obtain ⟨h1, h2⟩ := drE_zero.1 h
  have he := (flawE_zero h1).1
  have hb := errOf_zero.1 he
  refine err_mono (b := s) (by rw [drS_length, h2]) (fun k hk => ?_) he
  rw [drS_length] at hk
  rw [drS_nth s n hk]
  exact drs_bd (hb.2.1.nth k).1
/-! ### Join -/
def othB (x : Nat) (s s' : List Int) : Bool := (List.range s.length).all fun k => decide (k = x) || nth s k == nth s' k
def jnS (x : Nat) (s s' : List Int) : List Int := s.set x (nth s x + nth s' x)
def jnC (x : Nat) (s dz s' dz' t : List Int) : Int := if nth t x < nth s x then cel s dz t else cel s' dz' (t.set x (nth t x - nth s x))
def jnD (x : Nat) (s dz s' dz' : List Int) : List Int := TA (jnS x s s') (jnC x s dz s' dz')
def jnE (x : Int) (c : Bool) (s dz : List Int) (c' : Bool) (s' dz' : List Int) : Int :=
  if flawE c s dz ≠ 0 then flawE c s dz else if flawE c' s' dz' ≠ 0 then flawE c' s' dz' else if s.length ≠ s'.length then 3 else if x < 0 ∨ (s.length : Int) ≤ x then 5 else if othB x.toNat s s' = false then 4 else if c ≠ c' then 6 else errOf (jnS x.toNat s s')
theorem othB_iff {x : Nat} {s s' : List Int} : othB x s s' = true ↔ ∀ k, k < s.length → k ≠ x → nth s k = nth s' k := by
  unfold othB
  simp only [List.all_eq_true, List.mem_range, Bool.or_eq_true, decide_eq_true_eq, beq_iff_eq]
  exact ⟨fun h k hk hn => (h k hk).resolve_left hn, fun h k hk => by by_cases e : k = x; · exact .inl e
                                                                     · exact .inr (h k hk e)⟩
theorem jnE_zero {x : Int} {c : Bool} {s dz : List Int} {c' : Bool} {s' dz' : List Int} : jnE x c s dz c' s' dz' = 0 ↔ flawE c s dz = 0 ∧ flawE c' s' dz' = 0 ∧ s.length = s'.length ∧ 0 ≤ x ∧ x.toNat < s.length ∧ othB x.toNat s s' = true ∧ c = c' ∧ errOf (jnS x.toNat s s') = 0 := by
  unfold jnE
  by_cases h1 : flawE c s dz = 0
  · rw [if_neg (by simpa using h1)]
    by_cases h2 : flawE c' s' dz' = 0
    · rw [if_neg (by simpa using h2)]
      by_cases h3 : s.length = s'.length
      · rw [if_neg (by simpa using h3)]
        by_cases h4 : x < 0 ∨ (s.length : Int) ≤ x
        · rw [if_pos h4]; exact ⟨fun e => absurd e (by decide), fun e => by omega⟩
        · rw [if_neg h4]
          cases h5 : othB x.toNat s s'
          · simp
          · rw [if_neg (by simp)]
            by_cases h6 : c = c'
            · rw [if_neg (by simpa using h6)]
              exact ⟨fun e => ⟨h1, h2, h3, by omega, by omega, rfl, h6, e⟩, fun e => e.2.2.2.2.2.2.2⟩
            · rw [if_pos h6]; exact ⟨fun e => absurd e (by decide), fun e => absurd e.2.2.2.2.2.2.1 h6⟩
      · rw [if_pos h3]; exact ⟨fun e => absurd e (by decide), fun e => absurd e.2.2.1 h3⟩
    · rw [if_pos h2]; exact ⟨fun e => absurd e h2, fun e => absurd e.2.1 h2⟩
  · rw [if_pos h1]; exact ⟨fun e => absurd e h1, fun e => absurd e.1 h1⟩
/-! ### Masks -/
def mskB (m : List Int) : Bool := m.all fun x => x == 0 || x == 1
theorem mskB_nth {m : List Int} (h : mskB m = true) {j : Nat} (hj : j < m.length) : nth m j = 0 ∨ nth m j = 1 := by
  unfold mskB at h
  have := List.all_eq_true.1 h _ (nth_mem m j hj)
  simpa using this
/-- How many 1 there are ahead of an index. -/
def rnk (m : List Int) (i : Nat) : Int := sumI (m.take i)
theorem sumI_append (a b : List Int) : sumI (a ++ b) = sumI a + sumI b := by
  induction a with
  | nil => simp [sumI]
  | cons x r ih => simp only [List.cons_append, sumI, ih]; omega
theorem rnk_zero (m : List Int) : rnk m 0 = 0 := rfl
theorem rnk_succ (m : List Int) {i : Nat} (h : i < m.length) : rnk m (i + 1) = rnk m i + nth m i := by
  unfold rnk
  rw [List.take_succ_eq_append_getElem h, sumI_append, nth_get m i h]
  simp [sumI]
theorem rnk_all (m : List Int) : rnk m m.length = sumI m := by unfold rnk; rw [List.take_length]
theorem rnk_bd {m : List Int} (h : mskB m = true) : ∀ i, i ≤ m.length → 0 ≤ rnk m i ∧ rnk m i ≤ i
  | 0, _ => by simp [rnk_zero]
  | i + 1, hi => by
    have ih := rnk_bd h i (by omega)
    have := mskB_nth h (j := i) (by omega)
    rw [rnk_succ m (by omega)]
    omega
theorem rnk_mono {m : List Int} (h : mskB m = true) {i : Nat} : ∀ d, i + d ≤ m.length → rnk m i ≤ rnk m (i + d)
  | 0, _ => Int.le_refl _
  | d + 1, hd => by
    have ih := rnk_mono h (i := i) d (by omega)
    have := mskB_nth h (j := i + d) (by omega)
    rw [← Nat.add_assoc, rnk_succ m (by omega)]
    omega
theorem rnk_le {m : List Int} (h : mskB m = true) {i j : Nat} (hij : i ≤ j) (hj : j ≤ m.length) : rnk m i ≤ rnk m j := by
  have := rnk_mono h (i := i) (j - i) (by omega)
  rwa [show i + (j - i) = j by omega] at this
/-- The index of the 1 that has so many ahead of it (the length where there is none). -/
def pos1 : List Int → Nat → Nat
  | [], _ => 0
  | x :: m, j => if x = 1 then (match j with | 0 => 0 | j + 1 => pos1 m j + 1) else pos1 m j + 1
theorem pos1_fact : ∀ {m : List Int} {j : Nat}, mskB m = true → (j : Int) < sumI m → pos1 m j < m.length ∧ nth m (pos1 m j) = 1 ∧ rnk m (pos1 m j) = j
  | [], j, _, h => by simp [sumI] at h; omega
  | x :: m, j, hm, h => by
    have hx : x = 0 ∨ x = 1 := mskB_nth hm (j := 0) (by simp)
    have hm' : mskB m = true := by unfold mskB at *; simp only [List.all_cons, Bool.and_eq_true] at hm; exact hm.2
    simp only [sumI] at h
    have rs : ∀ i, rnk (x :: m) (i + 1) = x + rnk m i := fun i => by unfold rnk; rw [List.take_succ_cons]; rfl
    rcases hx with rfl | rfl
    · have ih := pos1_fact (m := m) (j := j) hm' (by omega)
      simp only [pos1, Int.reduceEq, if_false] at *
      refine ⟨by simp only [List.length_cons]; omega, by rw [nth_succ]; exact ih.2.1, by rw [rs, ih.2.2]; omega⟩
    · cases j with
      | zero => simp only [pos1, if_true]; exact ⟨by simp, rfl, rfl⟩
      | succ j =>
        have ih := pos1_fact (m := m) (j := j) hm' (by omega)
        simp only [pos1, if_true]
        refine ⟨by simp only [List.length_cons]; omega, by rw [nth_succ]; exact ih.2.1, by rw [rs, ih.2.2]; omega⟩
theorem rnk_inj {m : List Int} (h : mskB m = true) {i j : Nat} (hi : i < m.length) (hj : j < m.length) (ni : nth m i = 1) (nj : nth m j = 1) (e : rnk m i = rnk m j) : i = j := by
  by_cases h1 : i < j
  · have := rnk_le h (i := i + 1) (j := j) h1 (by omega)
    rw [rnk_succ m hi] at this; omega
  · by_cases h2 : j < i
    · have := rnk_le h (i := j + 1) (j := i) h2 (by omega)
      rw [rnk_succ m hj] at this; omega
    · omega
theorem pos1_rnk {m : List Int} (h : mskB m = true) {i : Nat} (hi : i < m.length) (ni : nth m i = 1) : pos1 m (rnk m i).toNat = i := by
  have h0 := rnk_bd h i (by omega)
  have h1 := rnk_le h (i := i + 1) (j := m.length) (by omega) (Nat.le_refl _)
  rw [rnk_succ m hi, rnk_all] at h1
  have hp := pos1_fact (m := m) (j := (rnk m i).toNat) h (by omega)
  exact rnk_inj h hp.1 hi hp.2.1 ni (by omega)
/-! ### Keep, Spread -/
def kpS (m : List Int) (x : Nat) (s : List Int) : List Int := s.set x (sumI m)
def kpT (m : List Int) (x : Nat) (t : List Int) : List Int := t.set x (pos1 m (nth t x).toNat : Nat)
def kpD (m : List Int) (x : Nat) (s dz : List Int) : List Int := TA (kpS m x s) (fun t => cel s dz (kpT m x t))
def kpE (m : List Int) (x : Int) (c : Bool) (s dz : List Int) : Int := if axE x c s dz ≠ 0 then axE x c s dz else if (m.length : Int) ≠ nth s x.toNat then 4 else if mskB m = false then 6 else 0
def spS (m : List Int) (x : Nat) (s : List Int) : List Int := s.set x m.length
def spC (m : List Int) (x : Nat) (c : Bool) (s dz t : List Int) : Int := if nth m (nth t x).toNat = 0 then fillE c else cel s dz (t.set x (rnk m (nth t x).toNat))
def spD (m : List Int) (x : Nat) (c : Bool) (s dz : List Int) : List Int := TA (spS m x s) (spC m x c s dz)
def spE (m : List Int) (x : Int) (c : Bool) (s dz : List Int) : Int := if axE x c s dz ≠ 0 then axE x c s dz else if mskB m = false then 6 else if sumI m ≠ nth s x.toNat then 4 else errOf (spS m x.toNat s)
end Go.Proofs.YtgaelbgeoobgiabDoor
