/-
  Plain mathematics of indices that are counted up: the next place's indices.
-/
import Derived.Test.YtgaelbgeoobgiabDoorBase
namespace Go.Proofs.YtgaelbgeoobgiabDoor

theorem ins_cons {x a : Int} {s t : List Int} : insB (x :: s) (a :: t) = true ↔ (0 ≤ a ∧ a < x) ∧ insB s t = true := by
  simp only [insB, Bool.and_eq_true, decide_eq_true_eq]
theorem place_zeros : ∀ s : List Int, place s (List.replicate s.length 0) = 0
  | [] => rfl
  | x :: s => by simp [List.replicate_succ, place, place_zeros s]
theorem ins_zeros : ∀ {s : List Int}, AllPos s → insB s (List.replicate s.length 0) = true
  | [], _ => rfl
  | x :: s, h => by
    have := h x List.mem_cons_self
    simp only [List.length_cons, List.replicate_succ]
    exact ins_cons.2 ⟨⟨by omega, by omega⟩, ins_zeros h.tail⟩
/-- The last place of all. -/
theorem place_max : ∀ {s t : List Int}, t.length = s.length → (∀ j, j < s.length → nth t j = nth s j - 1) → place s t = prod s - 1
  | [], [], _, _ => by simp [place, prod]
  | [], _ :: _, h, _ => by simp at h
  | _ :: _, [], h, _ => by simp at h
  | x :: s, a :: t, hl, h => by
    have h0 := h 0 (by simp)
    rw [nth_zero, nth_zero] at h0
    have ih := place_max (s := s) (t := t) (by simpa using hl) (fun j hj => by have := h (j + 1) (by simpa using hj); rwa [nth_succ, nth_succ] at this)
    simp only [place, prod, ih, h0, Int.sub_mul, Int.one_mul]
    omega
/-- The first m numbers, and 0 behind them. -/
def zr (c : List Int) (m : Nat) : List Int := c.take m ++ List.replicate (c.length - m) 0
theorem zr_length (c : List Int) (m : Nat) (h : m ≤ c.length) : (zr c m).length = c.length := by simp [zr]; omega
theorem zr_all (c : List Int) : zr c c.length = c := by simp [zr]
theorem zr_at (c : List Int) (m j : Nat) (h : j < m) (hm : m ≤ c.length) : nth (zr c m) j = nth c j := by
  unfold zr
  rw [nth_append_left _ _ _ (by rw [List.length_take]; omega), nth_take c m j h]
theorem zr_behind (c : List Int) (m j : Nat) (h : m ≤ j) (hm : m ≤ c.length) : nth (zr c m) j = 0 := by
  have hl : (c.take m).length ≤ j := by rw [List.length_take]; omega
  unfold zr
  rw [show nth (c.take m ++ List.replicate (c.length - m) 0) j = nth (List.replicate (c.length - m) 0) (j - (c.take m).length) from by simp [nth, List.getElem?_append_right hl]]
  exact nth_replicate _ _
theorem zr_set (c : List Int) (q : Nat) (h : q < c.length) : (zr c (q + 1)).set q 0 = zr c q := by
  refine nth_ext (by rw [List.length_set, zr_length c _ (by omega), zr_length c _ (by omega)]) fun j hj => ?_
  rw [List.length_set, zr_length c _ (by omega)] at hj
  rw [nth_set _ _ _ _ (by rw [zr_length c _ (by omega)]; exact h)]
  by_cases e : j = q
  · rw [if_pos e, zr_behind c q j (by omega) (by omega)]
  · rw [if_neg e]
    by_cases e2 : j < q
    · rw [zr_at c _ j (by omega) (by omega), zr_at c _ j e2 (by omega)]
    · rw [zr_behind c _ j (by omega) (by omega), zr_behind c _ j (by omega) (by omega)]
/-- The next place's indices: the axis q goes on, those behind it begin anew. -/
def nxt (c : List Int) (q : Nat) : List Int := (zr c (q + 1)).set q (nth c q + 1)
theorem nxt_zero (a : Int) (t : List Int) : nxt (a :: t) 0 = (a + 1) :: List.replicate t.length 0 := by simp [nxt, zr, nth]
theorem nxt_succ (a : Int) (t : List Int) (q : Nat) : nxt (a :: t) (q + 1) = a :: nxt t q := by simp [nxt, zr, nth_succ]
theorem nxt_fact : ∀ {s c : List Int} (q : Nat), AllPos s → insB s c = true → q < s.length → (∀ j, q < j → j < s.length → nth c j = nth s j - 1) → nth c q ≠ nth s q - 1 → insB s (nxt c q) = true ∧ place s (nxt c q) = place s c + 1
  | [], _, _, _, _, h, _, _ => by simp at h
  | _ :: _, [], _, _, h, _, _, _ => by simp [insB] at h
  | x :: s, a :: t, 0, hp, hi, _, hm, hq => by
    have h1 := ins_cons.1 hi
    have hl := insB_len h1.2
    rw [nth_zero, nth_zero] at hq
    have e : place s t = prod s - 1 := place_max hl fun j hj => by have := hm (j + 1) (by omega) (by simpa using hj); rwa [nth_succ, nth_succ] at this
    rw [nxt_zero, hl]
    refine ⟨ins_cons.2 ⟨by omega, ins_zeros hp.tail⟩, ?_⟩
    simp only [place, place_zeros, e, Int.add_mul, Int.one_mul]
    omega
  | x :: s, a :: t, q + 1, hp, hi, hk, hm, hq => by
    have h1 := ins_cons.1 hi
    rw [nth_succ, nth_succ] at hq
    have ih := nxt_fact (s := s) (c := t) q hp.tail h1.2 (by simpa using hk) (fun j h2 h3 => by have := hm (j + 1) (by omega) (by simpa using h3); rwa [nth_succ, nth_succ] at this) hq
    rw [nxt_succ]
    refine ⟨ins_cons.2 ⟨h1.1, ih.1⟩, ?_⟩
    simp only [place, ih.2]
    omega

/-- The indices of the place i. -/
def cr (zs : List Int) (i : Nat) : List Int := (crd zs (i : Int)).1
theorem cr_length (zs : List Int) (i : Nat) : (cr zs i).length = zs.length := crd_len zs _
theorem cr_fact {zs : List Int} {i : Nat} (he : errOf zs = 0) (hi : (i : Int) < prod zs) : insB zs (cr zs i) = true ∧ place zs (cr zs i) = i := by
  have ha : atErr zs i = 0 := atErr_zero.2 ⟨he, by omega, hi⟩
  have := at_back ha
  rw [atVal_ok ha] at this
  exact ⟨(plErr_zero.1 this.1).2, this.2⟩
theorem cr_zero {zs : List Int} (he : errOf zs = 0) (hp : 0 < prod zs) : cr zs 0 = List.replicate zs.length 0 := by
  have h1 := cr_fact (i := 0) he (by simpa using hp)
  have hpos := allPos_of_prod (errOf_zero.1 he).2.1 hp
  exact place_inj h1.1 (ins_zeros hpos) (by rw [h1.2, place_zeros]; rfl)
theorem cr_next {zs : List Int} {i q : Nat} (he : errOf zs = 0) (hi : ((i + 1 : Nat) : Int) < prod zs) (hq : q < zs.length) (hm : ∀ j, q < j → j < zs.length → nth (cr zs i) j = nth zs j - 1) (hn : nth (cr zs i) q ≠ nth zs q - 1) : cr zs (i + 1) = nxt (cr zs i) q := by
  have hpos := allPos_of_prod (errOf_zero.1 he).2.1 (by omega)
  have h1 := cr_fact (i := i) he (by omega)
  have h2 := cr_fact (i := i + 1) he hi
  have h3 := nxt_fact q hpos h1.1 hq hm hn
  exact place_inj h2.1 h3.1 (by rw [h2.2, h3.2, h1.2]; omega)
/-- Not all indices are the last ones of their axes. -/
theorem cr_not_max {zs : List Int} {i : Nat} (he : errOf zs = 0) (hi : ((i + 1 : Nat) : Int) < prod zs) (hm : ∀ j, j < zs.length → nth (cr zs i) j = nth zs j - 1) : False := by
  have h1 := cr_fact (i := i) he (by omega)
  have := place_max (cr_length zs i) hm
  omega
end Go.Proofs.YtgaelbgeoobgiabDoor
