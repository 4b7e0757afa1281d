/-
  What each.Two tells.
-/
import Derived.Deep.DeepCutAuto
import Derived.Laws.EntriesVeiled
import Derived.Test.YtpcpokeehnkobaaDoorFree
import Derived.Test.YtpcpokeehnkobaaDoorEach2b
import Derived.Test.YtpcpokeehnkobaaDoorEachc
namespace Go.Proofs.YtpcpokeehnkobaaDoor
open Go.RowKit
set_option linter.unusedVariables false

/-- The error of Two of arrays, ahead of the cells', in the program's order. -/
theorem e2F_way (f : Int) (c : Bool) (sz dz : List Int) (c' : Bool) (sz' dz' : List Int) : e2F f c sz dz c' sz' dz' =
    if f < 1 ∨ 16 < f then 1 else if flawE c sz dz ≠ 0 then flawE c sz dz else if flawE c' sz' dz' ≠ 0 then flawE c' sz' dz' else if fitE sz sz' ≠ 0 then fitE sz sz' else if ((c || c') && !tkC f) = true then 6 else 0 := by
  have e : ((c || c') && !tkC f) = true ↔ (c = true ∨ c' = true) ∧ f ≠ 8 ∧ f ≠ 9 := by
    unfold tkC
    simp
  have e1 : flawsE c sz dz c' sz' dz' = if flawE c sz dz = 0 then flawE c' sz' dz' else flawE c sz dz := rfl
  have e2 : sz = sz' → sz.length = sz'.length := fun h => by rw [h]
  unfold e2F fitE
  simp only [e]
  grind
theorem p2E_err {f : Int} {c : Bool} {sz dz : List Int} {c' : Bool} {sz' dz' : List Int} {e : Int} (h : e2F f c sz dz c' sz' dz' = e) (h0 : e ≠ 0) : e2E f c sz dz c' sz' dz' = e := by
  unfold e2E
  rw [h, if_pos h0]
theorem two11 {f : Int} (h : ¬ (f < 1 ∨ 16 < f)) : errV (twoE f 1 1) = .nilIface := by
  unfold twoE
  rw [if_neg h, if_neg (by simp), if_neg (by simp)]
  rfl
theorem two11_no {f : Int} (h : f < 1 ∨ 16 < f) : errV (twoE f 1 1) = .iface 26 (.int .i64 1) := by
  unfold twoE
  rw [if_pos h]
  rfl
theorem mixed_fn {f : Int} {c c' : Bool} (h : ((c || c') && !tkC f) = false) : c ≠ c' → f = 8 ∨ f = 9 := by
  intro hne
  have hk : tkC f = true := by
    cases c <;> cases c' <;> simp_all
  unfold tkC at hk
  exact of_decide_eq_true hk
theorem prod_nil0 {sz : List Int} (h : sz.length = 0) : prod sz = 1 := by rw [List.eq_nil_of_length_eq_zero h]; rfl
theorem e2N_in {f : Int} {c : Bool} {sz dz : List Int} {c' : Bool} {sz' dz' : List Int} (h : e2F f c sz dz c' sz' dz' = 0) :
    (sz.length = 0 → 0 < dz.length) ∧ (sz.length ≠ 0 → e2N sz sz' ≤ dz.length) ∧ (sz'.length = 0 → 0 < dz'.length) ∧ (sz'.length ≠ 0 → e2N sz sz' ≤ dz'.length) := by
  obtain ⟨_, h1, h2, h3, _⟩ := e2F_zero.1 h
  have d1 := (flawE_zero h1).2.1
  have d2 := (flawE_zero h2).2.1
  refine ⟨fun e => ?_, fun e => ?_, fun e => ?_, fun e => ?_⟩
  · rw [prod_nil0 e] at d1; omega
  · unfold e2N shp; rw [if_neg e]; omega
  · rw [prod_nil0 e] at d2; omega
  · unfold e2N shp
    split
    · omega
    · rename_i e'
      rcases h3 with h | h | h
      · exact absurd h e'
      · exact absurd h e
      · rw [h]; omega
theorem e2N_r {f : Int} {c : Bool} {sz dz : List Int} {c' : Bool} {sz' dz' : List Int} (h : e2F f c sz dz c' sz' dz' = 0) (h0 : sz.length = 0) : e2N sz sz' = dz'.length := by
  obtain ⟨_, _, h2, _, _⟩ := e2F_zero.1 h
  have d2 := (flawE_zero h2).2.1
  unfold e2N shp
  rw [if_pos h0]
  omega
theorem e2N_l {f : Int} {c : Bool} {sz dz : List Int} {c' : Bool} {sz' dz' : List Int} (h : e2F f c sz dz c' sz' dz' = 0) (h0 : sz.length ≠ 0) : e2N sz sz' = dz.length := by
  obtain ⟨_, h1, _, _, _⟩ := e2F_zero.1 h
  have d1 := (flawE_zero h1).2.1
  unfold e2N shp
  rw [if_neg h0]
  omega
theorem cAt_cyc {sz dz : List Int} {n i : Nat} (h0 : sz.length = 0 → dz.length = 1) (hn : sz.length ≠ 0 → n ≤ dz.length) (hi : i < n) : cAt sz dz i = e2C dz i := by
  unfold cAt e2C cyA
  by_cases h : sz.length = 0
  · rw [if_pos h, h0 h, if_neg (by decide), Nat.mod_one]
  · have := hn h
    rw [if_neg h, if_neg (by omega), Nat.mod_eq_of_lt (by omega)]
theorem cAt_e2C {f : Int} {c : Bool} {sz dz : List Int} {c' : Bool} {sz' dz' : List Int} (h : e2F f c sz dz c' sz' dz' = 0) {i : Nat} (hi : i < e2N sz sz') : cAt sz dz i = e2C dz i ∧ cAt sz' dz' i = e2C dz' i := by
  obtain ⟨_, h1, h2, _, _⟩ := e2F_zero.1 h
  have d1 := (flawE_zero h1).2.1
  have d2 := (flawE_zero h2).2.1
  obtain ⟨_, a2, _, a4⟩ := e2N_in h
  exact ⟨cAt_cyc (fun e => by rw [prod_nil0 e] at d1; omega) a2 hi, cAt_cyc (fun e => by rw [prod_nil0 e] at d2; omega) a4 hi⟩
theorem p2E_no {f : Int} {c : Bool} {sz dz : List Int} {c' : Bool} {sz' dz' : List Int} (h : e2F f c sz dz c' sz' dz' = 0) {i : Nat} (hi : i < e2N sz sz') (hne : tcE f (c == c') (cAt sz dz i) (cAt sz' dz' i) ≠ 0) :
    tcE f (c == c') (cAt sz dz i) (cAt sz' dz' i) = 6 ∧ e2E f c sz dz c' sz' dz' = 6 := by
  refine ⟨(tcE_cell (e2F_zero.1 h).1 _ _ _).resolve_left hne, ?_⟩
  unfold e2E
  rw [if_neg (by simpa using h), if_neg]
  intro h'
  unfold e2O at h'
  have := List.all_eq_true.1 h' i (List.mem_range.2 hi)
  rw [(cAt_e2C h hi).1, (cAt_e2C h hi).2] at hne
  exact hne (by simpa using this)
theorem p2E_ok {f : Int} {c : Bool} {sz dz : List Int} {c' : Bool} {sz' dz' : List Int} (h : e2F f c sz dz c' sz' dz' = 0) (hall : ∀ i, i < e2N sz sz' → tcE f (c == c') (cAt sz dz i) (cAt sz' dz' i) = 0) :
    e2E f c sz dz c' sz' dz' = 0 ∧ upL (fun i => tcV f (c == c') (cAt sz dz i) (cAt sz' dz' i)) (e2N sz sz') = e2V f c sz dz c' sz' dz' := by
  constructor
  · unfold e2E
    rw [if_neg (by simpa using h), if_pos]
    unfold e2O
    refine List.all_eq_true.2 fun i hi => ?_
    have hi := List.mem_range.1 hi
    have := hall i hi
    rw [(cAt_e2C h hi).1, (cAt_e2C h hi).2] at this
    simpa using this
  · refine nth_ext (by rw [upL_length, e2V_length]) fun j hj => ?_
    rw [upL_length] at hj
    rw [upL_nth _ _ hj, e2V_nth _ _ _ _ _ _ _ hj, (cAt_e2C h hj).1, (cAt_e2C h hj).2]
theorem in_cAt {sz dz : List Int} (T : ∀ j, In64 (nth dz j)) (i : Nat) : In64 (cAt sz dz i) := by
  unfold cAt
  split
  · exact T 0
  · exact T i
/-! ### The three functions that are made, and the three variables that hold them -/
def L15 (x5 x7 x9 y0 y1 y2 : Bool) : Array Bool := #[true, true, true, true, true, x5, true, x7, true, x9, y0, y1, y2, false, false, false]
def cnt (x : Bool) : Nat := if x = true then 0 else 1
def ok15 (x5 x7 x9 y0 y1 y2 : Bool) (i : Nat) : Bool := (i == 5 && !x5) || (i == 7 && x5 && !x7) || (i == 9 && x7 && !x9) || (i == 10 && !y0) || (i == 11 && !y1) || (i == 12 && !y2)
def chk15 (md : Region.Mode) (ops : Array Oper) : Bool := allB fun x5 => allB fun x7 => allB fun x9 => allB fun y0 => allB fun y1 => allB fun y2 =>
  (x7 && !x5) || (x9 && !x7) || (x5 && x7 && x9 && y0 && y1 && y2) || ((Region.ready md ops (L15 x5 x7 x9 y0 y1 y2)).all (ok15 x5 x7 x9 y0 y1 y2) && !(Region.ready md ops (L15 x5 x7 x9 y0 y1 y2)).isEmpty)
def put6 (a : Act) (v62 v64 v66 v13 v14 v15 : Value) : Act := (((((a.put (some 62) v62).put (some 64) v64).put (some 66) v66).put (some 13) v13).put (some 14) v14).put (some 15) v15
section
variable {P : Program} {ops : Array Oper} {Q : Exit → Act → World → Prop} {md : Region.Mode} {C : World → Prop}
theorem free15 {a0 : Act} {wI : World} (St : Bool → Bool → Bool → Bool → Bool → Bool → Value → Value → Value → Value → Value → Value → World → Prop) (hchk : chk15 md ops = true)
    (hx : ∀ x5 x7 x9 y0 y1 y2 v62 v64 v66 v13 v14 v15 w, St x5 x7 x9 y0 y1 y2 v62 v64 v66 v13 v14 v15 w → (x7 = true → x5 = true) ∧ (x9 = true → x7 = true) ∧ C w)
    (h5 : ∀ y0 y1 y2 v62 v64 v66 v13 v14 v15 w, St false false false y0 y1 y2 v62 v64 v66 v13 v14 v15 w → wpOp P ops Q 5 (fun a' w' => ∃ v, a' = put6 a0 v v64 v66 v13 v14 v15 ∧ St true false false y0 y1 y2 v v64 v66 v13 v14 v15 w') (put6 a0 v62 v64 v66 v13 v14 v15) w)
    (h7 : ∀ y0 y1 y2 v62 v64 v66 v13 v14 v15 w, St true false false y0 y1 y2 v62 v64 v66 v13 v14 v15 w → wpOp P ops Q 7 (fun a' w' => ∃ v, a' = put6 a0 v62 v v66 v13 v14 v15 ∧ St true true false y0 y1 y2 v62 v v66 v13 v14 v15 w') (put6 a0 v62 v64 v66 v13 v14 v15) w)
    (h9 : ∀ y0 y1 y2 v62 v64 v66 v13 v14 v15 w, St true true false y0 y1 y2 v62 v64 v66 v13 v14 v15 w → wpOp P ops Q 9 (fun a' w' => ∃ v, a' = put6 a0 v62 v64 v v13 v14 v15 ∧ St true true true y0 y1 y2 v62 v64 v v13 v14 v15 w') (put6 a0 v62 v64 v66 v13 v14 v15) w)
    (h10 : ∀ x5 x7 x9 y1 y2 v62 v64 v66 v13 v14 v15 w, St x5 x7 x9 false y1 y2 v62 v64 v66 v13 v14 v15 w → wpOp P ops Q 10 (fun a' w' => ∃ v, a' = put6 a0 v62 v64 v66 v v14 v15 ∧ St x5 x7 x9 true y1 y2 v62 v64 v66 v v14 v15 w') (put6 a0 v62 v64 v66 v13 v14 v15) w)
    (h11 : ∀ x5 x7 x9 y0 y2 v62 v64 v66 v13 v14 v15 w, St x5 x7 x9 y0 false y2 v62 v64 v66 v13 v14 v15 w → wpOp P ops Q 11 (fun a' w' => ∃ v, a' = put6 a0 v62 v64 v66 v13 v v15 ∧ St x5 x7 x9 y0 true y2 v62 v64 v66 v13 v v15 w') (put6 a0 v62 v64 v66 v13 v14 v15) w)
    (h12 : ∀ x5 x7 x9 y0 y1 v62 v64 v66 v13 v14 v15 w, St x5 x7 x9 y0 y1 false v62 v64 v66 v13 v14 v15 w → wpOp P ops Q 12 (fun a' w' => ∃ v, a' = put6 a0 v62 v64 v66 v13 v14 v ∧ St x5 x7 x9 y0 y1 true v62 v64 v66 v13 v14 v w') (put6 a0 v62 v64 v66 v13 v14 v15) w)
    (h0 : ∀ v62 v64 v66 v13 v14 v15 w, St true true true true true true v62 v64 v66 v13 v14 v15 w → anyT P md ops Q 15 C 3 (L15 true true true true true true) (put6 a0 v62 v64 v66 v13 v14 v15) w)
    (hid : put6 a0 (a0.tmps.getD 62 undef) (a0.tmps.getD 64 undef) (a0.tmps.getD 66 undef) (a0.tmps.getD 13 undef) (a0.tmps.getD 14 undef) (a0.tmps.getD 15 undef) = a0)
    (hinit : St false false false false false false (a0.tmps.getD 62 undef) (a0.tmps.getD 64 undef) (a0.tmps.getD 66 undef) (a0.tmps.getD 13 undef) (a0.tmps.getD 14 undef) (a0.tmps.getD 15 undef) wI) :
    anyT P md ops Q 15 C 9 (L15 false false false false false false) a0 wI := by
  refine anyT_free 3 (fun m l a w => ∃ x5 x7 x9 y0 y1 y2 v62 v64 v66 v13 v14 v15, l = L15 x5 x7 x9 y0 y1 y2 ∧ a = put6 a0 v62 v64 v66 v13 v14 v15 ∧ m = cnt x5 + cnt x7 + cnt x9 + cnt y0 + cnt y1 + cnt y2 ∧ St x5 x7 x9 y0 y1 y2 v62 v64 v66 v13 v14 v15 w) ?_ ?_ 6 _ _ _ ⟨_, _, _, _, _, _, _, _, _, _, _, _, rfl, hid.symm, rfl, hinit⟩
  · rintro m l a w ⟨x5, x7, x9, y0, y1, y2, v62, v64, v66, v13, v14, v15, rfl, rfl, hm, hst⟩
    obtain ⟨q1, q2, _⟩ := hx _ _ _ _ _ _ _ _ _ _ _ _ _ hst
    have hc := allB_at (allB_at (allB_at (allB_at (allB_at (allB_at hchk x5) x7) x9) y0) y1) y2
    have n1 : (x7 && !x5) = false := by cases x7 <;> cases x5 <;> first | rfl | exact absurd (q1 rfl) (by decide)
    have n2 : (x9 && !x7) = false := by cases x9 <;> cases x7 <;> first | rfl | exact absurd (q2 rfl) (by decide)
    have n3 : (x5 && x7 && x9 && y0 && y1 && y2) = false := by
      cases hh : (x5 && x7 && x9 && y0 && y1 && y2)
      · rfl
      · simp only [Bool.and_eq_true] at hh
        obtain ⟨⟨⟨⟨⟨rfl, rfl⟩, rfl⟩, rfl⟩, rfl⟩, rfl⟩ := hh
        simp [cnt] at hm
    rw [n1, n2, n3, Bool.false_or, Bool.false_or, Bool.false_or, Bool.and_eq_true] at hc
    refine ⟨fun h => ?_, fun i hi => ?_⟩
    · have h' := hc.2
      rw [h] at h'
      simp at h'
    · have ho := List.all_eq_true.1 hc.1 i hi
      clear hc hi
      unfold ok15 at ho
      simp only [Bool.or_eq_true, Bool.and_eq_true, beq_iff_eq, Bool.not_eq_true'] at ho
      rcases ho with ((((⟨rfl, rfl⟩ | ⟨⟨rfl, rfl⟩, rfl⟩) | ⟨⟨rfl, rfl⟩, rfl⟩) | ⟨rfl, rfl⟩) | ⟨rfl, rfl⟩) | ⟨rfl, rfl⟩
      · obtain rfl : x7 = false := by cases x7; rfl; exact absurd (q1 rfl) (by decide)
        obtain rfl : x9 = false := by cases x9; rfl; exact absurd (q2 rfl) (by decide)
        exact wpOp_mono (fun a' w' ⟨v, e, h⟩ => ⟨fun _ => (hx _ _ _ _ _ _ _ _ _ _ _ _ _ h).2.2, _, _, _, _, _, _, _, _, _, _, _, _, rfl, e, by simp [cnt] at hm ⊢; omega, h⟩) (h5 _ _ _ _ _ _ _ _ _ _ hst)
      · obtain rfl : x9 = false := by cases x9; rfl; exact absurd (q2 rfl) (by decide)
        exact wpOp_mono (fun a' w' ⟨v, e, h⟩ => ⟨fun _ => (hx _ _ _ _ _ _ _ _ _ _ _ _ _ h).2.2, _, _, _, _, _, _, _, _, _, _, _, _, rfl, e, by simp [cnt] at hm ⊢; omega, h⟩) (h7 _ _ _ _ _ _ _ _ _ _ hst)
      · obtain rfl : x5 = true := q1 rfl
        exact wpOp_mono (fun a' w' ⟨v, e, h⟩ => ⟨fun _ => (hx _ _ _ _ _ _ _ _ _ _ _ _ _ h).2.2, _, _, _, _, _, _, _, _, _, _, _, _, rfl, e, by simp [cnt] at hm ⊢; omega, h⟩) (h9 _ _ _ _ _ _ _ _ _ _ hst)
      · exact wpOp_mono (fun a' w' ⟨v, e, h⟩ => ⟨fun _ => (hx _ _ _ _ _ _ _ _ _ _ _ _ _ h).2.2, _, _, _, _, _, _, _, _, _, _, _, _, rfl, e, by simp [cnt] at hm ⊢; omega, h⟩) (h10 _ _ _ _ _ _ _ _ _ _ _ _ hst)
      · exact wpOp_mono (fun a' w' ⟨v, e, h⟩ => ⟨fun _ => (hx _ _ _ _ _ _ _ _ _ _ _ _ _ h).2.2, _, _, _, _, _, _, _, _, _, _, _, _, rfl, e, by simp [cnt] at hm ⊢; omega, h⟩) (h11 _ _ _ _ _ _ _ _ _ _ _ _ hst)
      · exact wpOp_mono (fun a' w' ⟨v, e, h⟩ => ⟨fun _ => (hx _ _ _ _ _ _ _ _ _ _ _ _ _ h).2.2, _, _, _, _, _, _, _, _, _, _, _, _, rfl, e, by simp [cnt] at hm ⊢; omega, h⟩) (h12 _ _ _ _ _ _ _ _ _ _ _ _ hst)
  · rintro l a w ⟨x5, x7, x9, y0, y1, y2, v62, v64, v66, v13, v14, v15, rfl, rfl, hm, hst⟩
    have t : ∀ {x : Bool}, cnt x = 0 → x = true := fun {x} h => by cases x; exact absurd h (by decide); rfl
    obtain rfl : x5 = true := t (by omega)
    obtain rfl : x7 = true := t (by omega)
    obtain rfl : x9 = true := t (by omega)
    obtain rfl : y0 = true := t (by omega)
    obtain rfl : y1 = true := t (by omega)
    obtain rfl : y2 = true := t (by omega)
    exact h0 _ _ _ _ _ _ w hst
end
/-- A variable of a function's type that was made behind w0. -/
def Nf (w0 w : World) (v : Value) (t : TypeId) : Prop := ∃ b, v = .pointer (some ⟨b, 0, none⟩) ∧ w0.heap.size ≤ b ∧ w.heap[b]? = some (.cells #[.nilFunc] t (0, 0))
theorem Nf.go {w0 w w' : World} {v : Value} {t : TypeId} (h : Nf w0 w v t) (hB : Below w.heap.size w w') : Nf w0 w' v t := by
  obtain ⟨b, e, h0, hb⟩ := h
  exact ⟨b, e, h0, blk_to hb hB⟩
/-- What is known while they are made. -/
def St15 (B : Nat) (wa w0 : World) (f : Int) (t : Bool) (n : Nat) (g g' : Nat → Int) (x5 x7 x9 y0 y1 y2 : Bool) (v62 v64 v66 v13 v14 v15 : Value) (w : World) : Prop :=
  Below w0.heap.size w0 w ∧ (x7 = true → x5 = true) ∧ (x9 = true → x7 = true) ∧ (x5 = true → PairF w v62 f t) ∧ (x7 = true → GetF B wa w v64 n g) ∧ (x9 = true → GetF B wa w v66 n g') ∧
  (y0 = true → Nf w0 w v13 72) ∧ (y1 = true → Nf w0 w v14 74) ∧ (y2 = true → Nf w0 w v15 74) ∧ (y1 = true → y2 = true → v14 ≠ v15)
section
variable {B : Nat} {wa w0 w w' : World} {f : Int} {t : Bool} {n : Nat} {g g' : Nat → Int} {x5 x7 x9 y0 y1 y2 : Bool} {v62 v64 v66 v13 v14 v15 : Value}
theorem St15.go (h : St15 B wa w0 f t n g g' x5 x7 x9 y0 y1 y2 v62 v64 v66 v13 v14 v15 w) (hB : Below w.heap.size w w') : St15 B wa w0 f t n g g' x5 x7 x9 y0 y1 y2 v62 v64 v66 v13 v14 v15 w' := by
  obtain ⟨a1, a2, a3, a4, a5, a6, a7, a8, a9, a10⟩ := h
  exact ⟨a1.trans (hB.mono a1.size), a2, a3, fun e => (a4 e).go hB, fun e => (a5 e).go hB, fun e => (a6 e).go hB, fun e => (a7 e).go hB, fun e => (a8 e).go hB, fun e => (a9 e).go hB, a10⟩
theorem Nf.new (h : Below w0.heap.size w0 w) (t : TypeId) : Nf w0 (w.alloc (.cells #[.nilFunc] t)) (.pointer (some ⟨w.heap.size, 0, none⟩)) t := ⟨_, rfl, h.size, (MapKept.heap_alloc w _).1⟩
theorem Nf.old {t : TypeId} (h : Nf w0 w v15 t) : v15 ≠ .pointer (some ⟨w.heap.size, 0, none⟩) := by
  obtain ⟨b, rfl, _, hb⟩ := h
  intro e
  have := lt_of_block hb
  injection e with e1
  injection e1 with e2
  injection e2 with e3 e4 e5
  omega
theorem al_bel (w : World) (o : Obj) : Below w.heap.size w (w.alloc o) := (Below.refl _ w).alloc (Nat.le_refl _) o
theorem St15.n10 (h : St15 B wa w0 f t n g g' x5 x7 x9 false y1 y2 v62 v64 v66 v13 v14 v15 w) : St15 B wa w0 f t n g g' x5 x7 x9 true y1 y2 v62 v64 v66 (.pointer (some ⟨w.heap.size, 0, none⟩)) v14 v15 (w.alloc (.cells #[.nilFunc] 72)) := by
  obtain ⟨a1, a2, a3, a4, a5, a6, a7, a8, a9, a10⟩ := h.go (al_bel w (.cells #[.nilFunc] 72))
  exact ⟨a1, a2, a3, a4, a5, a6, fun _ => Nf.new h.1 _, a8, a9, a10⟩
theorem St15.n11 (h : St15 B wa w0 f t n g g' x5 x7 x9 y0 false y2 v62 v64 v66 v13 v14 v15 w) : St15 B wa w0 f t n g g' x5 x7 x9 y0 true y2 v62 v64 v66 v13 (.pointer (some ⟨w.heap.size, 0, none⟩)) v15 (w.alloc (.cells #[.nilFunc] 74)) := by
  obtain ⟨a1, a2, a3, a4, a5, a6, a7, a8, a9, a10⟩ := h.go (al_bel w (.cells #[.nilFunc] 74))
  exact ⟨a1, a2, a3, a4, a5, a6, a7, fun _ => Nf.new h.1 _, a9, fun _ e => ((h.2.2.2.2.2.2.2.2.1 e).old).symm⟩
theorem St15.n12 (h : St15 B wa w0 f t n g g' x5 x7 x9 y0 y1 false v62 v64 v66 v13 v14 v15 w) : St15 B wa w0 f t n g g' x5 x7 x9 y0 y1 true v62 v64 v66 v13 v14 (.pointer (some ⟨w.heap.size, 0, none⟩)) (w.alloc (.cells #[.nilFunc] 74)) := by
  obtain ⟨a1, a2, a3, a4, a5, a6, a7, a8, a9, a10⟩ := h.go (al_bel w (.cells #[.nilFunc] 74))
  exact ⟨a1, a2, a3, a4, a5, a6, a7, a8, fun _ => Nf.new h.1 _, fun e _ => (h.2.2.2.2.2.2.2.1 e).old⟩
theorem St15.m5 (h : St15 B wa w0 f t n g g' false false false y0 y1 y2 v62 v64 v66 v13 v14 v15 w) (hB : Below w.heap.size w w') {v : Value} (hv : PairF w' v f t) : St15 B wa w0 f t n g g' true false false y0 y1 y2 v v64 v66 v13 v14 v15 w' := by
  obtain ⟨a1, a2, a3, a4, a5, a6, a7, a8, a9, a10⟩ := h.go hB
  exact ⟨a1, fun _ => rfl, a3, fun _ => hv, a5, a6, a7, a8, a9, a10⟩
theorem St15.m7 (h : St15 B wa w0 f t n g g' true false false y0 y1 y2 v62 v64 v66 v13 v14 v15 w) (hB : Below w.heap.size w w') {v : Value} (hv : GetF B wa w' v n g) : St15 B wa w0 f t n g g' true true false y0 y1 y2 v62 v v66 v13 v14 v15 w' := by
  obtain ⟨a1, a2, a3, a4, a5, a6, a7, a8, a9, a10⟩ := h.go hB
  exact ⟨a1, fun _ => rfl, fun _ => rfl, a4, fun _ => hv, a6, a7, a8, a9, a10⟩
theorem St15.m9 (h : St15 B wa w0 f t n g g' true true false y0 y1 y2 v62 v64 v66 v13 v14 v15 w) (hB : Below w.heap.size w w') {v : Value} (hv : GetF B wa w' v n g') : St15 B wa w0 f t n g g' true true true y0 y1 y2 v62 v64 v v13 v14 v15 w' := by
  obtain ⟨a1, a2, a3, a4, a5, a6, a7, a8, a9, a10⟩ := h.go hB
  exact ⟨a1, fun _ => rfl, fun _ => rfl, a4, a5, fun _ => hv, a7, a8, a9, a10⟩
end
/-- The three variables, with what they hold. -/
def Got (B : Nat) (wa : World) (f : Int) (t : Bool) (n : Nat) (g g' : Nat → Int) (s13 s14 s15 : Value) (w : World) : Prop :=
  ∃ b1 b2 b3 u1 u2 u3, s13 = .pointer (some ⟨b1, 0, none⟩) ∧ s14 = .pointer (some ⟨b2, 0, none⟩) ∧ s15 = .pointer (some ⟨b3, 0, none⟩) ∧ w.heap[b1]? = some (.cells #[u1] 72 (0, 0)) ∧ w.heap[b2]? = some (.cells #[u2] 74 (0, 0)) ∧ w.heap[b3]? = some (.cells #[u3] 74 (0, 0)) ∧
    PairF w u1 f t ∧ GetF B wa w u2 n g ∧ GetF B wa w u3 n g'
set_option maxRecDepth 100000 in
set_option maxHeartbeats 4000000 in
theorem each_two_d : C2d := by
  intro f c sa sc sz da dc dz c' sa' sc' sz' da' dc' dz' w hf h1 h2 h1' h2' hs hd hs' hd' T T'
  have HI : Hid ((IsInts w.heap.size w sa sz ∧ IsInts w.heap.size w da dz) ∧ (IsInts w.heap.size w sa' sz' ∧ IsInts w.heap.size w da' dz')) := ⟨⟨hs, hd⟩, hs', hd'⟩
  have HT : Hid ((∀ j, In64 (nth dz j)) ∧ ∀ j, In64 (nth dz' j)) := ⟨T, T'⟩
  have HF := e2F_way f c sz dz c' sz' dz'
  have HFH : Hid (_) := HF
  clear HF
  obtain ⟨W0, hW0⟩ : ∃ W0, W0 = ((w.alloc (.cells #[.bool c, .slice sa sz.length sc, .slice da dz.length dc] 25)).alloc (.cells #[.bool c', .slice sa' sz'.length sc', .slice da' dz'.length dc'] 25)).alloc (.cells #[.bool false, .slice none 0 0, .slice none 0 0] 25) := ⟨_, rfl⟩
  have HB0 : Hid (Below w.heap.size w W0) := by rw [hW0]; exact (((Below.refl _ w).alloc (Nat.le_refl _) _).alloc (by simp) _).alloc (by simp; omega) _
  have Pa0 : Hid (Abx W0 w.heap.size (.bool c) (.slice sa sz.length sc) (.slice da dz.length dc)) := by rw [hW0]; exact ((Abx.new w _ _ _).al _).al _
  have Qb0 : Hid (Abx W0 (w.heap.size + 1) (.bool c') (.slice sa' sz'.length sc') (.slice da' dz'.length dc')) := by rw [hW0]; exact (Abx.new1 w _ _ _ _).al _
  have Rr0 : Hid (Abx W0 (w.heap.size + 1 + 1) (.bool false) (.slice none 0 0) (.slice none 0 0)) := by
    rw [hW0]
    have := Abx.new1 (w.alloc (.cells #[.bool c, .slice sa sz.length sc, .slice da dz.length dc] 25)) (.cells #[.bool c', .slice sa' sz'.length sc', .slice da' dz'.length dc'] 25) (.bool false) (.slice none 0 0) (.slice none 0 0)
    rwa [World.size_alloc] at this
  have HW : Hid (W0 = _) := hW0
  clear hs hd hs' hd' T T' hW0
  go_enter Tryd.func19, Tryd.ntmps19
  go_wp2_with fail
  rw [← HW.out]
  refine (two_any f 1 1 (by unfold In64; decide) (by unfold In64; decide) W0).mono ?_
  rintro e w1 ⟨rfl, hb⟩
  have HB1 : Hid (Below w.heap.size w w1) := HB0.out.trans (hb.mono HB0.out.size)
  have Pa1 : Hid (Abx w1 w.heap.size (.bool c) (.slice sa sz.length sc) (.slice da dz.length dc)) := Pa0.out.go hb
  have Qb1 : Hid (Abx w1 (w.heap.size + 1) (.bool c') (.slice sa' sz'.length sc') (.slice da' dz'.length dc')) := Qb0.out.go hb
  have Rr1 : Hid (Abx w1 (w.heap.size + 1 + 1) (.bool false) (.slice none 0 0) (.slice none 0 0)) := Rr0.out.go hb
  clear hb
  by_cases hg : f < 1 ∨ 16 < f
  · have HE : Hid (e2E f c sz dz c' sz' dz' = 1) := p2E_err (by rw [HFH.out, if_pos hg]) (by decide)
    rw [two11_no hg]
    have r0 := Rr1.out.c0
    have r1 := Rr1.out.c1
    have r2 := Rr1.out.c2
    have f0 := Rr1.out.fr 0
    have f1 := Rr1.out.fr 1
    have f2 := Rr1.out.fr 2
    go_wp2_with fail
    have F := Rr1.out.set3 (.bool false) (.slice none 0 0) (.slice none 0 0)
    have z0 := F.c0
    have z1 := F.c1
    have z2 := F.c2
    exact bodyPost_ret (v := .tuple #[.agg #[.bool false, .slice none 0 0, .slice none 0 0], .iface 26 (.int .i64 1)]) (by simp [results, Tryd.results19, go_sem, z0, z1, z2]) rfl (P2d.no HE.out (by decide) (bel_set3 HB1.out (by omega) _ _ _))
  · have HG : Hid (¬ (f < 1 ∨ 16 < f)) := hg
    rw [two11 hg]
    clear hg
    have p0 := Pa1.out.c0
    have p1 := Pa1.out.c1
    have p2 := Pa1.out.c2
    go_wp2_with fail
    clear p0 p1 p2
    refine (check_any c sa sc sz da dc dz h1 h2 w1 ((HI.out.1.1.below HB1.out).mono HB1.out.size) ((HI.out.1.2.below HB1.out).mono HB1.out.size)).mono ?_
    rintro e w2 ⟨rfl, hb⟩
    have HB2 : Hid (Below w.heap.size w w2) := HB1.out.trans (hb.mono HB1.out.size)
    have Pa2 : Hid (Abx w2 w.heap.size (.bool c) (.slice sa sz.length sc) (.slice da dz.length dc)) := Pa1.out.go hb
    have Qb2 : Hid (Abx w2 (w.heap.size + 1) (.bool c') (.slice sa' sz'.length sc') (.slice da' dz'.length dc')) := Qb1.out.go hb
    have Rr2 : Hid (Abx w2 (w.heap.size + 1 + 1) (.bool false) (.slice none 0 0) (.slice none 0 0)) := Rr1.out.go hb
    clear hb
    by_cases hx : flawE c sz dz = 0
    · have HX : Hid (flawE c sz dz = 0) := hx
      rw [hx, show errV 0 = .nilIface from rfl]
      clear hx
      have p0 := Qb2.out.c0
      have p1 := Qb2.out.c1
      have p2 := Qb2.out.c2
      go_wp2_with fail
      clear p0 p1 p2
      refine (check_any c' sa' sc' sz' da' dc' dz' h1' h2' w2 ((HI.out.2.1.below HB2.out).mono HB2.out.size) ((HI.out.2.2.below HB2.out).mono HB2.out.size)).mono ?_
      rintro e w3 ⟨rfl, hb⟩
      have HB3 : Hid (Below w.heap.size w w3) := HB2.out.trans (hb.mono HB2.out.size)
      have Pa3 : Hid (Abx w3 w.heap.size (.bool c) (.slice sa sz.length sc) (.slice da dz.length dc)) := Pa2.out.go hb
      have Qb3 : Hid (Abx w3 (w.heap.size + 1) (.bool c') (.slice sa' sz'.length sc') (.slice da' dz'.length dc')) := Qb2.out.go hb
      have Rr3 : Hid (Abx w3 (w.heap.size + 1 + 1) (.bool false) (.slice none 0 0) (.slice none 0 0)) := Rr2.out.go hb
      clear hb
      by_cases hy : flawE c' sz' dz' = 0
      · have HY : Hid (flawE c' sz' dz' = 0) := hy
        rw [hy, show errV 0 = .nilIface from rfl]
        clear hy
        have p0 := Pa3.out.c0
        have p1 := Pa3.out.c1
        have p2 := Pa3.out.c2
        have q0 := Qb3.out.c0
        have q1 := Qb3.out.c1
        have q2 := Qb3.out.c2
        go_wp2_with fail
        clear p0 p1 p2 q0 q1 q2
        refine (fit_any c sa sc sz (.slice da dz.length dc) c' sa' sc' sz' (.slice da' dz'.length dc') h1 w3 ((HI.out.1.1.below HB3.out).mono HB3.out.size) ((HI.out.2.1.below HB3.out).mono HB3.out.size)).mono ?_
        rintro e w4 ⟨rfl, hb⟩
        have HB4 : Hid (Below w.heap.size w w4) := HB3.out.trans (hb.mono HB3.out.size)
        have Pa4 : Hid (Abx w4 w.heap.size (.bool c) (.slice sa sz.length sc) (.slice da dz.length dc)) := Pa3.out.go hb
        have Qb4 : Hid (Abx w4 (w.heap.size + 1) (.bool c') (.slice sa' sz'.length sc') (.slice da' dz'.length dc')) := Qb3.out.go hb
        have Rr4 : Hid (Abx w4 (w.heap.size + 1 + 1) (.bool false) (.slice none 0 0) (.slice none 0 0)) := Rr3.out.go hb
        clear hb
        by_cases hz : fitE sz sz' = 0
        · have HZ : Hid (fitE sz sz' = 0) := hz
          rw [hz, show errV 0 = .nilIface from rfl]
          clear hz
          have p0 := Pa4.out.c0
          have p1 := Pa4.out.c1
          have p2 := Pa4.out.c2
          have q0 := Qb4.out.c0
          have q1 := Qb4.out.c1
          have q2 := Qb4.out.c2
          go_upto_region 13 with fail
          go_cut [54] (fun s54 wc => s54 = .bool ((c || c') && !tkC f) ∧ wc = w4)
          case first =>
            cases c with
            | true =>
              go_wp2_with fail
              refine (takes_any f w4).mono ?_
              rintro e w5 ⟨rfl, rfl⟩
              go_wp2_with fail
              go_meet
              exact ⟨rfl, rfl⟩
            | false =>
              cases c' with
              | true =>
                go_wp2_with fail
                refine (takes_any f w4).mono ?_
                rintro e w5 ⟨rfl, rfl⟩
                go_wp2_with fail
                go_wp2_with fail
                go_meet
                exact ⟨rfl, rfl⟩
              | false =>
                go_wp2_with fail
                go_wp2_with fail
                go_meet
                exact ⟨rfl, rfl⟩
          case rest =>
            obtain ⟨rfl, rfl⟩ := hcut
            obtain ⟨v4, hv4⟩ : ∃ v4, v4 = wc := ⟨_, rfl⟩
            subst hv4
            by_cases hch : ((c || c') && !tkC f) = true
            · have HE : Hid (e2E f c sz dz c' sz' dz' = 6) := p2E_err (by rw [HFH.out, if_neg HG.out, if_neg (by simpa using HX.out), if_neg (by simpa using HY.out), if_neg (by simpa using HZ.out), if_pos hch]) (by decide)
              rw [hch]
              clear hch p0 p1 p2 q0 q1 q2
              have r0 := Rr4.out.c0
              have r1 := Rr4.out.c1
              have r2 := Rr4.out.c2
              have f0 := Rr4.out.fr 0
              have f1 := Rr4.out.fr 1
              have f2 := Rr4.out.fr 2
              go_wp2_with fail
              have F := Rr4.out.set3 (.bool false) (.slice none 0 0) (.slice none 0 0)
              have z0 := F.c0
              have z1 := F.c1
              have z2 := F.c2
              exact bodyPost_ret (v := .tuple #[.agg #[.bool false, .slice none 0 0, .slice none 0 0], .iface 26 (.int .i64 6)]) (by simp [results, Tryd.results19, go_sem, z0, z1, z2]) rfl (P2d.no HE.out (by decide) (bel_set3 HB4.out (by omega) _ _ _))
            · have HC : Hid (((c || c') && !tkC f) = false) := by show _ = _; simpa using hch
              have H0 : Hid (e2F f c sz dz c' sz' dz' = 0) := by show _ = _; rw [HFH.out, if_neg HG.out, if_neg (by simpa using HX.out), if_neg (by simpa using HY.out), if_neg (by simpa using HZ.out), if_neg hch]
              rw [HC.out]
              clear hch p0 p1 p2 q0 q1 q2
              go_upto_region 15 with fail
              obtain ⟨n, hn⟩ : ∃ n, n = e2N sz sz' := ⟨_, rfl⟩
              have HN : Hid ((sz.length = 0 → 0 < dz.length) ∧ (sz.length ≠ 0 → n ≤ dz.length) ∧ (sz'.length = 0 → 0 < dz'.length) ∧ (sz'.length ≠ 0 → n ≤ dz'.length)) := by rw [hn]; exact e2N_in H0.out
              have HNe : Hid (n = e2N sz sz') := hn
              have HP : Hid (c ≠ c' → f = 8 ∨ f = 9) := mixed_fn HC.out
              clear hn
              go_cut [13, 14, 15] (fun s13 s14 s15 wd => Got w.heap.size w f (c == c') n (cAt sz dz) (cAt sz' dz') s13 s14 s15 wd ∧ Below v4.heap.size v4 wd)
              case first =>
                have p0 := Pa4.out.c0
                have p1 := Pa4.out.c1
                have p2 := Pa4.out.c2
                have q0 := Qb4.out.c0
                have q1 := Qb4.out.c1
                have q2 := Qb4.out.c2
                refine anyT_begin 15 (fun w' => w'.cell? ⟨w.heap.size, 0, none⟩ = some (.bool c) ∧ w'.cell? ⟨w.heap.size, 1, none⟩ = some (.slice sa sz.length sc) ∧ w'.cell? ⟨w.heap.size, 2, none⟩ = some (.slice da dz.length dc) ∧ w'.cell? ⟨w.heap.size + 1, 0, none⟩ = some (.bool c') ∧ w'.cell? ⟨w.heap.size + 1, 1, none⟩ = some (.slice sa' sz'.length sc') ∧ w'.cell? ⟨w.heap.size + 1, 2, none⟩ = some (.slice da' dz'.length dc')) 16 #[false, false, false, false, false, false, false, false, false, false, false, false, false, false, false, false] (by kernel_rfl) rfl rfl ?_
                refine anyT_put 0 57 ?rv12 #[true, false, false, false, false, false, false, false, false, false, false, false, false, false, false, false] rfl rfl rfl (by kernel_rfl) (by kernel_rfl) (by kernel_rfl) (fun _ _ _ h => h) (by decide) ?ry12 (fun _ => ⟨p0, p1, p2, q0, q1, q2⟩) ?rm12
                case ry12 => first | exact Or.inl ⟨by rfl, by intro w'; go_simp; first | done | rfl⟩
                case rm12 =>
                simp only [Act.put, List.setIfInBounds_toArray, List.set_cons_zero, List.set_cons_succ]
                refine anyT_put 1 58 ?rv13 #[true, true, false, false, false, false, false, false, false, false, false, false, false, false, false, false] rfl rfl rfl (by kernel_rfl) (by kernel_rfl) (by kernel_rfl) (fun _ _ _ h => h) (by decide) ?ry13 (fun _ => ⟨p0, p1, p2, q0, q1, q2⟩) ?rm13
                case ry13 => first | exact Or.inl ⟨by rfl, by intro w'; go_simp; first | done | rfl⟩
                case rm13 =>
                simp only [Act.put, List.setIfInBounds_toArray, List.set_cons_zero, List.set_cons_succ]
                refine anyT_take 2 59 ?rv14 #[true, true, true, false, false, false, false, false, false, false, false, false, false, false, false, false] rfl rfl rfl (by kernel_rfl) (by kernel_rfl) (by kernel_rfl) (fun _ _ _ h => h) (by kernel_rfl) (by decide) (by kernel_rfl) ?ry14 (⟨p0, p1, p2, q0, q1, q2⟩) ?rm14
                case ry14 => first | exact Or.inl ⟨by rfl, by intro w' hw'; (try dsimp only at hw'); go_simp; first | done | rfl⟩
                case rm14 =>
                simp only [Act.put, List.setIfInBounds_toArray, List.set_cons_zero, List.set_cons_succ]
                refine anyT_put 3 60 ?rv15 #[true, true, true, true, false, false, false, false, false, false, false, false, false, false, false, false] rfl rfl rfl (by kernel_rfl) (by kernel_rfl) (by kernel_rfl) (fun _ _ _ h => h) (by decide) ?ry15 (fun _ => ⟨p0, p1, p2, q0, q1, q2⟩) ?rm15
                case ry15 => first | exact Or.inl ⟨by rfl, by intro w'; go_simp; first | done | rfl⟩
                case rm15 =>
                simp only [Act.put, List.setIfInBounds_toArray, List.set_cons_zero, List.set_cons_succ]
                refine anyT_take 4 61 ?rv16 #[true, true, true, true, true, false, false, false, false, false, false, false, false, false, false, false] rfl rfl rfl (by kernel_rfl) (by kernel_rfl) (by kernel_rfl) (fun _ _ _ h => h) (by kernel_rfl) (by decide) (by kernel_rfl) ?ry16 (⟨p0, p1, p2, q0, q1, q2⟩) ?rm16
                case ry16 => first | exact Or.inl ⟨by rfl, by intro w' hw'; (try dsimp only at hw'); go_simp; first | done | rfl⟩
                case rm16 =>
                simp only [Act.put, List.setIfInBounds_toArray, List.set_cons_zero, List.set_cons_succ]
                refine anyT_take 6 63 ?rv17 #[true, true, true, true, true, false, true, false, false, false, false, false, false, false, false, false] rfl rfl rfl (by kernel_rfl) (by kernel_rfl) (by kernel_rfl) (fun _ _ _ h => h) (by kernel_rfl) (by decide) (by kernel_rfl) ?ry17 (⟨p0, p1, p2, q0, q1, q2⟩) ?rm17
                case ry17 => first | exact Or.inl ⟨by rfl, by intro w' hw'; (try dsimp only at hw'); go_simp; first | done | rfl⟩
                case rm17 =>
                simp only [Act.put, List.setIfInBounds_toArray, List.set_cons_zero, List.set_cons_succ]
                refine anyT_take 8 65 ?rv18 #[true, true, true, true, true, false, true, false, true, false, false, false, false, false, false, false] rfl rfl rfl (by kernel_rfl) (by kernel_rfl) (by kernel_rfl) (fun _ _ _ h => h) (by kernel_rfl) (by decide) (by kernel_rfl) ?ry18 (⟨p0, p1, p2, q0, q1, q2⟩) ?rm18
                case ry18 => first | exact Or.inl ⟨by rfl, by intro w' hw'; (try dsimp only at hw'); go_simp; first | done | rfl⟩
                case rm18 =>
                simp only [Act.put, List.setIfInBounds_toArray, List.set_cons_zero, List.set_cons_succ]
                refine free15 (St15 w.heap.size w v4.drew f (c == c') n (cAt sz dz) (cAt sz' dz')) (by kernel_rfl) ?hx ?h5 ?h7 ?h9 ?h10 ?h11 ?h12 ?h0 rfl ?hinit
                case hx => (intro x5 x7 x9 y0 y1 y2 v62 v64 v66 v13 v14 v15 w' h; have hb : Below v4.heap.size v4 w' := (Below.refl _ v4).drew.trans h.1; exact ⟨h.2.1, h.2.2.1, ⟨(Pa4.out.go hb).c0, (Pa4.out.go hb).c1, (Pa4.out.go hb).c2, (Qb4.out.go hb).c0, (Qb4.out.go hb).c1, (Qb4.out.go hb).c2⟩⟩)
                case h5 => (intro y0 y1 y2 v62 v64 v66 v13 v14 v15 w' hst; refine op_at 5 rfl (fun K hK => ?_); simp only [put6, Act.put, List.setIfInBounds_toArray, List.set_cons_zero, List.set_cons_succ]; go_simp; go_wp2_with (go_at_call 48; refine (pairing_any f c c' HP.out w').mono ?_; rintro e w2 ⟨v, rfl, hF, hB⟩); exact hK.out _ _ ⟨v, rfl, hst.m5 hB hF⟩)
                case h7 => (intro y0 y1 y2 v62 v64 v66 v13 v14 v15 w' hst; refine op_at 7 rfl (fun K hK => ?_); simp only [put6, Act.put, List.setIfInBounds_toArray, List.set_cons_zero, List.set_cons_succ]; go_simp; go_wp2_with (go_at_call 49; refine (cellsf_any c sa sc sz da dc dz n HN.out.1 HN.out.2.1 w.heap.size w w' HI.out.1.2).mono ?_; rintro e w2 ⟨v, rfl, hF, hB⟩); exact hK.out _ _ ⟨v, rfl, hst.m7 hB hF⟩)
                case h9 => (intro y0 y1 y2 v62 v64 v66 v13 v14 v15 w' hst; refine op_at 9 rfl (fun K hK => ?_); simp only [put6, Act.put, List.setIfInBounds_toArray, List.set_cons_zero, List.set_cons_succ]; go_simp; go_wp2_with (go_at_call 49; refine (cellsf_any c' sa' sc' sz' da' dc' dz' n HN.out.2.2.1 HN.out.2.2.2 w.heap.size w w' HI.out.2.2).mono ?_; rintro e w2 ⟨v, rfl, hF, hB⟩); exact hK.out _ _ ⟨v, rfl, hst.m9 hB hF⟩)
                case h10 => (intro x5 x7 x9 y1 y2 v62 v64 v66 v13 v14 v15 w' hst; refine op_at 10 rfl (fun K hK => ?_); simp only [put6, Act.put, List.setIfInBounds_toArray, List.set_cons_zero, List.set_cons_succ]; go_simp; exact hK.out _ _ ⟨_, rfl, hst.n10⟩)
                case h11 => (intro x5 x7 x9 y0 y2 v62 v64 v66 v13 v14 v15 w' hst; refine op_at 11 rfl (fun K hK => ?_); simp only [put6, Act.put, List.setIfInBounds_toArray, List.set_cons_zero, List.set_cons_succ]; go_simp; exact hK.out _ _ ⟨_, rfl, hst.n11⟩)
                case h12 => (intro x5 x7 x9 y0 y1 v62 v64 v66 v13 v14 v15 w' hst; refine op_at 12 rfl (fun K hK => ?_); simp only [put6, Act.put, List.setIfInBounds_toArray, List.set_cons_zero, List.set_cons_succ]; go_simp; exact hK.out _ _ ⟨_, rfl, hst.n12⟩)
                case hinit => exact ⟨Below.refl _ _, fun h => absurd h (by decide), fun h => absurd h (by decide), fun h => absurd h (by decide), fun h => absurd h (by decide), fun h => absurd h (by decide), fun h => absurd h (by decide), fun h => absurd h (by decide), fun h => absurd h (by decide), fun h => absurd h (by decide)⟩
                intro v62 v64 v66 v13 v14 v15 w5 hst
                obtain ⟨hb, _, _, hP, hG, hG', hN1, hN2, hN3, hne⟩ := hst
                obtain ⟨b1, rfl, l1, B1⟩ := hN1 rfl
                obtain ⟨b2, rfl, l2, B2⟩ := hN2 rfl
                obtain ⟨b3, rfl, l3, B3⟩ := hN3 rfl
                obtain ⟨k1, d1, g1⟩ : ∃ k d, v62 = .func (.func k) #[] #[.pointer (some ⟨d, 0, none⟩)] := by (obtain ⟨k, d, _, e, _⟩ := hP rfl; exact ⟨k, d, e⟩)
                obtain ⟨k2, d2, g2⟩ : ∃ k d, v64 = .func (.func k) #[] #[.pointer (some ⟨d, 0, none⟩)] := by (obtain ⟨k, d, _, e, _⟩ := hG rfl; exact ⟨k, d, e⟩)
                obtain ⟨k3, d3, g3⟩ : ∃ k d, v66 = .func (.func k) #[] #[.pointer (some ⟨d, 0, none⟩)] := by (obtain ⟨k, d, _, e, _⟩ := hG' rfl; exact ⟨k, d, e⟩)
                subst g1 g2 g3
                have FF : Hid (PairF w5 _ f (c == c') ∧ GetF w.heap.size w w5 _ n (cAt sz dz) ∧ GetF w.heap.size w w5 _ n (cAt sz' dz')) := ⟨hP rfl, hG rfl, hG' rfl⟩
                have n12 : b1 ≠ b2 := fun e => by (rw [e, B2] at B1; simp at B1)
                have n13 : b1 ≠ b3 := fun e => by (rw [e, B3] at B1; simp at B1)
                have n23 : b2 ≠ b3 := fun e => hne rfl rfl (by rw [e])
                have HB5 : Hid (Below v4.heap.size v4 w5) := (Below.refl _ v4).drew.trans hb
                have Pa5 := Pa4.out.go HB5.out
                have Qb5 := Qb4.out.go HB5.out
                have z0 := Pa4.out.lt
                have z1 := Qb4.out.lt
                have LL : Hid (v4.heap.size ≤ b1 ∧ v4.heap.size ≤ b2 ∧ v4.heap.size ≤ b3) := ⟨l1, l2, l3⟩
                have BB : Hid ((w5.heap[b1]? = _) ∧ (w5.heap[b2]? = _) ∧ (w5.heap[b3]? = _)) := ⟨B1, B2, B3⟩
                have s1 := cell_of_one B1
                have fz1 := free_of_one B1
                clear hb hP hG hG' hN1 hN2 hN3 hne l1 l2 l3 B1 B2 B3
                simp only [put6, Act.put, List.setIfInBounds_toArray, List.set_cons_zero, List.set_cons_succ]
                refine anyT_one 13 #[true, true, true, true, true, true, true, true, true, true, true, true, true, true, false, false] (by kernel_rfl) rfl rfl (fun K hK => ?_)
                go_simp
                have B2' := (Below.heap_setCell w5 ⟨b1, 0, none⟩ (.func (.func k1) #[] #[.pointer (some ⟨d1, 0, none⟩)]) b2 (fun e => n12 e.symm)).trans BB.out.2.1
                have s2 := cell_of_one B2'
                have fz2 := free_of_one B2'
                have Pa6 := Pa5.ot (a := ⟨b1, 0, none⟩) (by have := LL.out.1; show w.heap.size ≠ b1; omega) (.func (.func k1) #[] #[.pointer (some ⟨d1, 0, none⟩)])
                have Qb6 := Qb5.ot (a := ⟨b1, 0, none⟩) (by have := LL.out.1; show w.heap.size + 1 ≠ b1; omega) (.func (.func k1) #[] #[.pointer (some ⟨d1, 0, none⟩)])
                refine hK.out _ _ (fun _ => ⟨Pa6.c0, Pa6.c1, Pa6.c2, Qb6.c0, Qb6.c1, Qb6.c2⟩) ?_
                clear hK K
                refine anyT_one 14 #[true, true, true, true, true, true, true, true, true, true, true, true, true, true, true, false] (by kernel_rfl) rfl rfl (fun K hK => ?_)
                go_simp
                have B3' := (Below.heap_setCell (w5.setCell ⟨b1, 0, none⟩ (.func (.func k1) #[] #[.pointer (some ⟨d1, 0, none⟩)])) ⟨b2, 0, none⟩ (.func (.func k2) #[] #[.pointer (some ⟨d2, 0, none⟩)]) b3 (fun e => n23 e.symm)).trans ((Below.heap_setCell w5 ⟨b1, 0, none⟩ (.func (.func k1) #[] #[.pointer (some ⟨d1, 0, none⟩)]) b3 (fun e => n13 e.symm)).trans BB.out.2.2)
                have s3 := cell_of_one B3'
                have fz3 := free_of_one B3'
                have Pa7 := Pa6.ot (a := ⟨b2, 0, none⟩) (by have := LL.out.2.1; show w.heap.size ≠ b2; omega) (.func (.func k2) #[] #[.pointer (some ⟨d2, 0, none⟩)])
                have Qb7 := Qb6.ot (a := ⟨b2, 0, none⟩) (by have := LL.out.2.1; show w.heap.size + 1 ≠ b2; omega) (.func (.func k2) #[] #[.pointer (some ⟨d2, 0, none⟩)])
                refine hK.out _ _ (fun _ => ⟨Pa7.c0, Pa7.c1, Pa7.c2, Qb7.c0, Qb7.c1, Qb7.c2⟩) ?_
                clear hK K
                refine anyT_one 15 #[true, true, true, true, true, true, true, true, true, true, true, true, true, true, true, true] (by kernel_rfl) rfl rfl (fun K hK => ?_)
                go_simp
                refine hK.out _ _ (fun h => absurd h (by decide)) ?_
                clear hK K
                refine anyT_done (by kernel_rfl) ?_
                go_wp2_with fail
                go_meet
                have X1 := (Below.heap_setCell ((w5.setCell ⟨b1, 0, none⟩ (.func (.func k1) #[] #[.pointer (some ⟨d1, 0, none⟩)])).setCell ⟨b2, 0, none⟩ (.func (.func k2) #[] #[.pointer (some ⟨d2, 0, none⟩)])) ⟨b3, 0, none⟩ (.func (.func k3) #[] #[.pointer (some ⟨d3, 0, none⟩)]) b1 n13).trans ((Below.heap_setCell (w5.setCell ⟨b1, 0, none⟩ (.func (.func k1) #[] #[.pointer (some ⟨d1, 0, none⟩)])) ⟨b2, 0, none⟩ (.func (.func k2) #[] #[.pointer (some ⟨d2, 0, none⟩)]) b1 n12).trans (one_setCell BB.out.1))
                have X2 := (Below.heap_setCell ((w5.setCell ⟨b1, 0, none⟩ (.func (.func k1) #[] #[.pointer (some ⟨d1, 0, none⟩)])).setCell ⟨b2, 0, none⟩ (.func (.func k2) #[] #[.pointer (some ⟨d2, 0, none⟩)])) ⟨b3, 0, none⟩ (.func (.func k3) #[] #[.pointer (some ⟨d3, 0, none⟩)]) b2 n23).trans (one_setCell (u := .func (.func k2) #[] #[.pointer (some ⟨d2, 0, none⟩)]) B2')
                have X3 := one_setCell (u := .func (.func k3) #[] #[.pointer (some ⟨d3, 0, none⟩)]) B3'
                exact ⟨⟨b1, b2, b3, _, _, _, rfl, rfl, rfl, X1, X2, X3, ((FF.out.1.set BB.out.1 (.inl rfl)).set B2' (.inr rfl)).set B3' (.inr rfl), ((FF.out.2.1.set BB.out.1 (.inl rfl)).set B2' (.inr rfl)).set B3' (.inr rfl), ((FF.out.2.2.set BB.out.1 (.inl rfl)).set B2' (.inr rfl)).set B3' (.inr rfl)⟩,
                  ((HB5.out.setCell (p := ⟨b1, 0, none⟩) LL.out.1 _).setCell (p := ⟨b2, 0, none⟩) LL.out.2.1 _).setCell (p := ⟨b3, 0, none⟩) LL.out.2.2 _⟩
              case rest =>
                obtain ⟨⟨b1, b2, b3, y1, y2, y3, rfl, rfl, rfl, X1, X2, X3, F1, F2, F3⟩, hb⟩ := hcut
                have HB8 : Hid (Below w.heap.size w wc) := HB4.out.trans (hb.mono HB4.out.size)
                have Pa8 : Hid (Abx wc w.heap.size (.bool c) (.slice sa sz.length sc) (.slice da dz.length dc)) := Pa4.out.go hb
                have Qb8 : Hid (Abx wc (w.heap.size + 1) (.bool c') (.slice sa' sz'.length sc') (.slice da' dz'.length dc')) := Qb4.out.go hb
                have Rr8 : Hid (Abx wc (w.heap.size + 1 + 1) (.bool false) (.slice none 0 0) (.slice none 0 0)) := Rr4.out.go hb
                have XX : Hid ((wc.heap[b1]? = _) ∧ (wc.heap[b2]? = _) ∧ (wc.heap[b3]? = _)) := ⟨X1, X2, X3⟩
                have FF : Hid (PairF wc y1 f (c == c') ∧ GetF w.heap.size w wc y2 n (cAt sz dz) ∧ GetF w.heap.size w wc y3 n (cAt sz' dz')) := ⟨F1, F2, F3⟩
                clear hb X1 X2 X3 F1 F2 F3
                have p0 := Pa8.out.c0
                have p1 := Pa8.out.c1
                have p2 := Pa8.out.c2
                have q0 := Qb8.out.c0
                have q1 := Qb8.out.c1
                have q2 := Qb8.out.c2
                go_wp2_with fail
                clear p0 p1 p2 q0 q1 q2
                refine (wider_any c sa sc sz da dz.length dc c' sa' sc' sz' da' dz'.length dc' wc).mono ?_
                rintro e w9 ⟨rfl, hb⟩
                have HB89 : Hid (Below wc.heap.size wc w9) := hb
                have HB9 : Hid (Below w.heap.size w w9) := HB8.out.trans (hb.mono HB8.out.size)
                have Pa9 : Hid (Abx w9 w.heap.size (.bool c) (.slice sa sz.length sc) (.slice da dz.length dc)) := Pa8.out.go hb
                have Qb9 : Hid (Abx w9 (w.heap.size + 1) (.bool c') (.slice sa' sz'.length sc') (.slice da' dz'.length dc')) := Qb8.out.go hb
                have Rr9 : Hid (Abx w9 (w.heap.size + 1 + 1) (.bool false) (.slice none 0 0) (.slice none 0 0)) := Rr8.out.go hb
                clear hb
                by_cases h0 : sz.length = 0
                · rw [if_pos h0]
                  have HS : Hid (n = dz'.length ∧ shp sz sz' = sz') := ⟨by rw [HNe.out]; exact e2N_r H0.out h0, if_pos h0⟩
                  clear h0
                  have HH : Hid (∀ i, i < dz'.length → ∀ w', Below w9.heap.size w9 w' → Calls Tryd.prog 52 (.int .i64 (i : Nat) :: [.pointer (some ⟨b1, 0, none⟩), .pointer (some ⟨b2, 0, none⟩), .pointer (some ⟨b3, 0, none⟩)]).toArray w' (AskP (fun i => tcV f (c == c') (cAt sz dz i) (cAt sz' dz' i)) (fun i => tcE f (c == c') (cAt sz dz i) (cAt sz' dz' i)) i w')) := fun i hi w' hB => by
                    have hB' : Below wc.heap.size wc w' := HB89.out.trans (hB.mono HB89.out.size)
                    exact two1_any f (c == c') n (cAt sz dz) (cAt sz' dz') b1 b2 b3 y1 y2 y3 i (by rw [HS.out.1]; exact hi) w' _ _ _ (blk_to XX.out.1 hB') (blk_to XX.out.2.1 hB') (blk_to XX.out.2.2 hB') w.heap.size w (HB8.out.trans (hB'.mono HB8.out.size)) (Nat.le_trans HB8.out.size hB'.size) (FF.out.1.go hB') (FF.out.2.1.go hB') (FF.out.2.2.go hB') (in_cAt HT.out.1 i) (in_cAt HT.out.2 i)
                  have HL : Hid (sz'.length ≤ 6 ∧ dz'.length ≤ 4096) := flawE_short HY.out
                  go_wp2_with fail
                  refine (tell_all c' sa' sc' sz' da' dc' dz' 52 [.pointer (some ⟨b1, 0, none⟩), .pointer (some ⟨b2, 0, none⟩), .pointer (some ⟨b3, 0, none⟩)] (enters_of Tryd.func52 (by kernel_rfl) rfl) (fun i => tcV f (c == c') (cAt sz dz i) (cAt sz' dz' i)) (fun i => tcE f (c == c') (cAt sz dz i) (cAt sz' dz' i)) (by have := HL.out.1; omega) HL.out.2 w9 ((HI.out.2.1.below HB9.out).mono HB9.out.size) HH.out).mono ?_
                  rintro e w10 (⟨i, hi, hne, rfl, hb⟩ | ⟨hall, xa, xc, ya, yc, rfl, hX, hY, hb⟩)
                  · have HE : Hid (tcE f (c == c') (cAt sz dz i) (cAt sz' dz' i) = 6 ∧ e2E f c sz dz c' sz' dz' = 6) := p2E_no H0.out (by rw [← HNe.out, HS.out.1]; exact hi) hne
                    have Rr10 : Hid (Abx w10 (w.heap.size + 1 + 1) (.bool false) (.slice none 0 0) (.slice none 0 0)) := Rr9.out.go hb
                    have HB10 : Hid (Below w.heap.size w w10) := HB9.out.trans (hb.mono HB9.out.size)
                    clear hb hne
                    have r0 := Rr10.out.c0
                    have r1 := Rr10.out.c1
                    have r2 := Rr10.out.c2
                    have f0 := Rr10.out.fr 0
                    have f1 := Rr10.out.fr 1
                    have f2 := Rr10.out.fr 2
                    go_wp2_with fail
                    have F := Rr10.out.set3 (.bool false) (.slice none 0 0) (.slice none 0 0)
                    have z0 := F.c0
                    have z1 := F.c1
                    have z2 := F.c2
                    exact bodyPost_ret (v := .tuple #[.agg #[.bool false, .slice none 0 0, .slice none 0 0], .iface 26 (.int .i64 (tcE f (c == c') (cAt sz dz i) (cAt sz' dz' i)))]) (by simp [results, Tryd.results19, go_sem, z0, z1, z2]) rfl (P2d.no (HE.out.2.trans HE.out.1.symm) (by rw [HE.out.1]; decide) (bel_set3 HB10.out (by omega) _ _ _))
                  · have HE : Hid (e2E f c sz dz c' sz' dz' = 0 ∧ upL (fun i => tcV f (c == c') (cAt sz dz i) (cAt sz' dz' i)) dz'.length = e2V f c sz dz c' sz' dz') := by
                      rw [← HS.out.1, HNe.out]
                      exact p2E_ok H0.out fun i hi => hall i (by rw [← HS.out.1, HNe.out]; exact hi)
                    have Rr10 : Hid (Abx w10 (w.heap.size + 1 + 1) (.bool false) (.slice none 0 0) (.slice none 0 0)) := Rr9.out.go hb
                    have HB10 : Hid (Below w.heap.size w w10) := HB9.out.trans (hb.mono HB9.out.size)
                    have HXY : Hid (NewC w9.heap.size w10 xa (shp sz sz') xc ∧ NewC w9.heap.size w10 ya (e2V f c sz dz c' sz' dz') yc) := ⟨by rw [HS.out.2]; exact hX, by rw [← HE.out.2]; exact hY⟩
                    have zz := Rr9.out.lt
                    clear hb hX hY hall
                    have r0 := Rr10.out.c0
                    have r1 := Rr10.out.c1
                    have r2 := Rr10.out.c2
                    have f0 := Rr10.out.fr 0
                    have f1 := Rr10.out.fr 1
                    have f2 := Rr10.out.fr 2
                    go_wp2_with fail
                    have F := Rr10.out.set3 (.bool false) (.slice xa sz'.length xc) (.slice ya dz'.length yc)
                    have z0 := F.c0
                    have z1 := F.c1
                    have z2 := F.c2
                    refine bodyPost_ret (v := .tuple #[.agg #[.bool false, .slice xa sz'.length xc, .slice ya dz'.length yc], .nilIface]) (by simp [results, Tryd.results19, go_sem, z0, z1, z2]) rfl (.inr ⟨HE.out.1, xa, xc, ya, yc, by rw [e2V_length, HS.out.2, ← HNe.out, HS.out.1], ?_, ?_, bel_set3 HB10.out (by omega) _ _ _⟩)
                    · exact (HXY.out.1.set3 zz _ _ _).low HB9.out.size
                    · exact (HXY.out.2.set3 zz _ _ _).low HB9.out.size
                · rw [if_neg h0]
                  have HS : Hid (n = dz.length ∧ shp sz sz' = sz) := ⟨by rw [HNe.out]; exact e2N_l H0.out h0, if_neg h0⟩
                  clear h0
                  have HH : Hid (∀ i, i < dz.length → ∀ w', Below w9.heap.size w9 w' → Calls Tryd.prog 52 (.int .i64 (i : Nat) :: [.pointer (some ⟨b1, 0, none⟩), .pointer (some ⟨b2, 0, none⟩), .pointer (some ⟨b3, 0, none⟩)]).toArray w' (AskP (fun i => tcV f (c == c') (cAt sz dz i) (cAt sz' dz' i)) (fun i => tcE f (c == c') (cAt sz dz i) (cAt sz' dz' i)) i w')) := fun i hi w' hB => by
                    have hB' : Below wc.heap.size wc w' := HB89.out.trans (hB.mono HB89.out.size)
                    exact two1_any f (c == c') n (cAt sz dz) (cAt sz' dz') b1 b2 b3 y1 y2 y3 i (by rw [HS.out.1]; exact hi) w' _ _ _ (blk_to XX.out.1 hB') (blk_to XX.out.2.1 hB') (blk_to XX.out.2.2 hB') w.heap.size w (HB8.out.trans (hB'.mono HB8.out.size)) (Nat.le_trans HB8.out.size hB'.size) (FF.out.1.go hB') (FF.out.2.1.go hB') (FF.out.2.2.go hB') (in_cAt HT.out.1 i) (in_cAt HT.out.2 i)
                  have HL : Hid (sz.length ≤ 6 ∧ dz.length ≤ 4096) := flawE_short HX.out
                  go_wp2_with fail
                  refine (tell_all c sa sc sz da dc dz 52 [.pointer (some ⟨b1, 0, none⟩), .pointer (some ⟨b2, 0, none⟩), .pointer (some ⟨b3, 0, none⟩)] (enters_of Tryd.func52 (by kernel_rfl) rfl) (fun i => tcV f (c == c') (cAt sz dz i) (cAt sz' dz' i)) (fun i => tcE f (c == c') (cAt sz dz i) (cAt sz' dz' i)) (by have := HL.out.1; omega) HL.out.2 w9 ((HI.out.1.1.below HB9.out).mono HB9.out.size) HH.out).mono ?_
                  rintro e w10 (⟨i, hi, hne, rfl, hb⟩ | ⟨hall, xa, xc, ya, yc, rfl, hX, hY, hb⟩)
                  · have HE : Hid (tcE f (c == c') (cAt sz dz i) (cAt sz' dz' i) = 6 ∧ e2E f c sz dz c' sz' dz' = 6) := p2E_no H0.out (by rw [← HNe.out, HS.out.1]; exact hi) hne
                    have Rr10 : Hid (Abx w10 (w.heap.size + 1 + 1) (.bool false) (.slice none 0 0) (.slice none 0 0)) := Rr9.out.go hb
                    have HB10 : Hid (Below w.heap.size w w10) := HB9.out.trans (hb.mono HB9.out.size)
                    clear hb hne
                    have r0 := Rr10.out.c0
                    have r1 := Rr10.out.c1
                    have r2 := Rr10.out.c2
                    have f0 := Rr10.out.fr 0
                    have f1 := Rr10.out.fr 1
                    have f2 := Rr10.out.fr 2
                    go_wp2_with fail
                    have F := Rr10.out.set3 (.bool false) (.slice none 0 0) (.slice none 0 0)
                    have z0 := F.c0
                    have z1 := F.c1
                    have z2 := F.c2
                    exact bodyPost_ret (v := .tuple #[.agg #[.bool false, .slice none 0 0, .slice none 0 0], .iface 26 (.int .i64 (tcE f (c == c') (cAt sz dz i) (cAt sz' dz' i)))]) (by simp [results, Tryd.results19, go_sem, z0, z1, z2]) rfl (P2d.no (HE.out.2.trans HE.out.1.symm) (by rw [HE.out.1]; decide) (bel_set3 HB10.out (by omega) _ _ _))
                  · have HE : Hid (e2E f c sz dz c' sz' dz' = 0 ∧ upL (fun i => tcV f (c == c') (cAt sz dz i) (cAt sz' dz' i)) dz.length = e2V f c sz dz c' sz' dz') := by
                      rw [← HS.out.1, HNe.out]
                      exact p2E_ok H0.out fun i hi => hall i (by rw [← HS.out.1, HNe.out]; exact hi)
                    have Rr10 : Hid (Abx w10 (w.heap.size + 1 + 1) (.bool false) (.slice none 0 0) (.slice none 0 0)) := Rr9.out.go hb
                    have HB10 : Hid (Below w.heap.size w w10) := HB9.out.trans (hb.mono HB9.out.size)
                    have HXY : Hid (NewC w9.heap.size w10 xa (shp sz sz') xc ∧ NewC w9.heap.size w10 ya (e2V f c sz dz c' sz' dz') yc) := ⟨by rw [HS.out.2]; exact hX, by rw [← HE.out.2]; exact hY⟩
                    have zz := Rr9.out.lt
                    clear hb hX hY hall
                    have r0 := Rr10.out.c0
                    have r1 := Rr10.out.c1
                    have r2 := Rr10.out.c2
                    have f0 := Rr10.out.fr 0
                    have f1 := Rr10.out.fr 1
                    have f2 := Rr10.out.fr 2
                    go_wp2_with fail
                    have F := Rr10.out.set3 (.bool false) (.slice xa sz.length xc) (.slice ya dz.length yc)
                    have z0 := F.c0
                    have z1 := F.c1
                    have z2 := F.c2
                    refine bodyPost_ret (v := .tuple #[.agg #[.bool false, .slice xa sz.length xc, .slice ya dz.length yc], .nilIface]) (by simp [results, Tryd.results19, go_sem, z0, z1, z2]) rfl (.inr ⟨HE.out.1, xa, xc, ya, yc, by rw [e2V_length, HS.out.2, ← HNe.out, HS.out.1], ?_, ?_, bel_set3 HB10.out (by omega) _ _ _⟩)
                    · exact (HXY.out.1.set3 zz _ _ _).low HB9.out.size
                    · exact (HXY.out.2.set3 zz _ _ _).low HB9.out.size
        · have HE : Hid (e2E f c sz dz c' sz' dz' = fitE sz sz') := p2E_err (by rw [HFH.out, if_neg HG.out, if_neg (by simpa using HX.out), if_neg (by simpa using HY.out), if_pos hz]) hz
          have HZ : Hid (fitE sz sz' ≠ 0) := hz
          rw [errV_pos hz]
          clear hz
          have r0 := Rr4.out.c0
          have r1 := Rr4.out.c1
          have r2 := Rr4.out.c2
          have f0 := Rr4.out.fr 0
          have f1 := Rr4.out.fr 1
          have f2 := Rr4.out.fr 2
          go_wp2_with fail
          have F := Rr4.out.set3 (.bool false) (.slice none 0 0) (.slice none 0 0)
          have z0 := F.c0
          have z1 := F.c1
          have z2 := F.c2
          exact bodyPost_ret (v := .tuple #[.agg #[.bool false, .slice none 0 0, .slice none 0 0], .iface 26 (.int .i64 (fitE sz sz'))]) (by simp [results, Tryd.results19, go_sem, z0, z1, z2]) rfl (P2d.no HE.out (by rw [← HE.out]; exact fun h => HZ.out (HE.out.symm.trans h)) (bel_set3 HB4.out (by omega) _ _ _))
      · have HE : Hid (e2E f c sz dz c' sz' dz' = flawE c' sz' dz') := p2E_err (by rw [HFH.out, if_neg HG.out, if_neg (by simpa using HX.out), if_pos hy]) hy
        have HY : Hid (flawE c' sz' dz' ≠ 0) := hy
        rw [errV_pos hy]
        clear hy
        have r0 := Rr3.out.c0
        have r1 := Rr3.out.c1
        have r2 := Rr3.out.c2
        have f0 := Rr3.out.fr 0
        have f1 := Rr3.out.fr 1
        have f2 := Rr3.out.fr 2
        go_wp2_with fail
        have F := Rr3.out.set3 (.bool false) (.slice none 0 0) (.slice none 0 0)
        have z0 := F.c0
        have z1 := F.c1
        have z2 := F.c2
        exact bodyPost_ret (v := .tuple #[.agg #[.bool false, .slice none 0 0, .slice none 0 0], .iface 26 (.int .i64 (flawE c' sz' dz'))]) (by simp [results, Tryd.results19, go_sem, z0, z1, z2]) rfl (P2d.no HE.out (by rw [← HE.out]; exact fun h => HY.out (HE.out.symm.trans h)) (bel_set3 HB3.out (by omega) _ _ _))
    · have HE : Hid (e2E f c sz dz c' sz' dz' = flawE c sz dz) := p2E_err (by rw [HFH.out, if_neg HG.out, if_pos hx]) hx
      have HX : Hid (flawE c sz dz ≠ 0) := hx
      rw [errV_pos hx]
      clear hx
      have r0 := Rr2.out.c0
      have r1 := Rr2.out.c1
      have r2 := Rr2.out.c2
      have f0 := Rr2.out.fr 0
      have f1 := Rr2.out.fr 1
      have f2 := Rr2.out.fr 2
      go_wp2_with fail
      have F := Rr2.out.set3 (.bool false) (.slice none 0 0) (.slice none 0 0)
      have z0 := F.c0
      have z1 := F.c1
      have z2 := F.c2
      exact bodyPost_ret (v := .tuple #[.agg #[.bool false, .slice none 0 0, .slice none 0 0], .iface 26 (.int .i64 (flawE c sz dz))]) (by simp [results, Tryd.results19, go_sem, z0, z1, z2]) rfl (P2d.no HE.out (by rw [← HE.out]; exact fun h => HX.out (HE.out.symm.trans h)) (bel_set3 HB2.out (by omega) _ _ _))
theorem each_two_c : C2c := each_two_d.c
theorem each_two : C2 := each_two_c.plain
end Go.Proofs.YtpcpokeehnkobaaDoor
