/-
  The walk of the statement TurnCells, given what the program tells.
-/
import Derived.Test.YtnfdcdoelhanlaaTurnf
import Derived.Test.YtnfdcdoelhanlaaTurnc
import Derived.Test.YtnfdcdoelhanlaaEachq
import Derived.Test.YtnfdcdoelhanlaaEachc
namespace Go.Proofs.Ytnfdcdoelhanlaa
open Go.RowKit
set_option linter.unusedVariables false

theorem lit_all {xs : List Int} (h : xs.all (fun x => decide (-9223372036854775808 ≤ x ∧ x ≤ 9223372036854775807)) = true) : ∀ j, In64 (nth xs j) := fun j => by
  by_cases hj : j < xs.length
  · have : nth xs j ∈ xs := by simp [nth, hj]
    exact of_decide_eq_true (p := -9223372036854775808 ≤ nth xs j ∧ nth xs j ≤ 9223372036854775807) (List.all_eq_true.1 h _ this)
  · have : nth xs j = 0 := by simp [nth, List.getElem?_eq_none (Nat.le_of_not_lt hj)]
    rw [this]; unfold In64; decide
theorem fact_v : rvG 0 [2] [1, 2] = [2, 1] := by decide
/-- A slice that leads to these integers below block n. -/
def OldI (n : Nat) (W : World) (a : Option Addr) (zs : List Int) : Prop := n ≤ W.heap.size ∧ IsInts n W a zs
section
variable {n : Nat} {W W' : World} {a : Option Addr} {zs : List Int}
theorem OldI.go (h : OldI n W a zs) (hB : Below W.heap.size W W') : OldI n W' a zs := ⟨Nat.le_trans h.1 hB.size, h.2.below (hB.mono h.1)⟩
theorem OldI.al (h : OldI n W a zs) (o : Obj) : OldI n (W.alloc o) a zs := h.go ((Below.refl _ W).alloc (Nat.le_refl _) o)
theorem OldI.set3 {B : Nat} (hB : n ≤ B) (x y z : Value) (h : OldI n W a zs) : OldI n (((W.setCell ⟨B, 0, none⟩ x).setCell ⟨B, 1, none⟩ y).setCell ⟨B, 2, none⟩ z) a zs := ⟨by rw [size_set3]; exact h.1, h.2.below (bel_set3 (Below.refl n W) hB x y z)⟩
theorem OldI.ints (h : OldI n W a zs) : IsInts W.heap.size W a zs := h.2.mono h.1
theorem OldI.of {lo : Nat} (h : NewInts lo W a zs) : OldI W.heap.size W a zs := ⟨Nat.le_refl _, h.ints⟩
def OldC (n : Nat) (W : World) (a : Option Addr) (zs : List Int) (cap : Nat) : Prop := OldI n W a zs ∧ zs.length ≤ cap
theorem OldC.go {cap : Nat} (h : OldC n W a zs cap) (hB : Below W.heap.size W W') : OldC n W' a zs cap := ⟨h.1.go hB, h.2⟩
theorem OldC.al {cap : Nat} (h : OldC n W a zs cap) (o : Obj) : OldC n (W.alloc o) a zs cap := ⟨h.1.al o, h.2⟩
theorem OldC.set3 {cap B : Nat} (hB : n ≤ B) (x y z : Value) (h : OldC n W a zs cap) : OldC n (((W.setCell ⟨B, 0, none⟩ x).setCell ⟨B, 1, none⟩ y).setCell ⟨B, 2, none⟩ z) a zs cap := ⟨h.1.set3 hB x y z, h.2⟩
theorem OldC.ints {cap : Nat} (h : OldC n W a zs cap) : IsC W.heap.size W a zs cap := ⟨h.1.ints, h.2⟩
theorem OldC.of {lo cap : Nat} (h : NewC lo W a zs cap) : OldC W.heap.size W a zs cap := ⟨OldI.of h.1, h.2⟩
end
theorem Abx.ne3 {w : World} {b : Nat} {x y z : Value} (h : Abx w b x y z) {B : Nat} (hb : b ≠ B) (x' y' z' : Value) : Abx (((w.setCell ⟨B, 0, none⟩ x').setCell ⟨B, 1, none⟩ y').setCell ⟨B, 2, none⟩ z') b x y z :=
  ((h.ot (a := ⟨B, 0, none⟩) (by show b ≠ B; exact hb) x').ot (a := ⟨B, 1, none⟩) (by show b ≠ B; exact hb) y').ot (a := ⟨B, 2, none⟩) (by show b ≠ B; exact hb) z'
section
variable {f x n : Int} {p : List Int} {c c' : Bool} {s d d' : List Int}
theorem tc_c (h : e2E f c s d c' s d' = 0) : flawE c s d = 0 ∧ flawE c' s d' = 0 ∧ flawE false s (e2V f c s d c' s d') = 0 ∧ shp s s = s := by
  have h0 := e2F_zero.1 (e2E_sub h).1
  have h1 := e2_flaw h
  rw [shp_self] at h1
  exact ⟨h0.2.1, h0.2.2.1, h1, shp_self s⟩
theorem tc_rv (h : e2E f c s d c' s d' = 0) (a : axE x c s d = 0) : axE x c' s d' = 0 ∧ axE x false s (e2V f c s d c' s d') = 0 ∧ e2E f c s (rvG x s d) c' s (rvG x s d') = 0 ∧ e2V f c s (rvG x s d) c' s (rvG x s d') = rvG x s (e2V f c s d c' s d') := by
  have t := tc_c h
  have m := cells_move (s' := s) (src := revT s x.toNat) h (axE_err a).1 fun t ht => revT_in ht (axE_err a).2.2
  exact ⟨axE_zero.2 ⟨t.2.1, (axE_zero.1 a).2⟩, axE_zero.2 ⟨t.2.2.1, (axE_zero.1 a).2⟩, m.1, m.2⟩
theorem tc_rt (h : e2E f c s d c' s d' = 0) (a : axE x c s d = 0) : e2E f c s (rtG n x s d) c' s (rtG n x s d') = 0 ∧ e2V f c s (rtG n x s d) c' s (rtG n x s d') = rtG n x s (e2V f c s d c' s d') :=
  cells_move (s' := s) (src := rotT s n x.toNat) h (axE_err a).1 fun t ht => rotT_in ht (axE_err a).2.2
theorem tc_fl (h : e2E f c s d c' s d' = 0) (a : flE p c s d = 0) : flE p c' s d' = 0 ∧ flE p false s (e2V f c s d c' s d') = 0 ∧ e2E f c (axVal s p) (flG p s d) c' (axVal s p) (flG p s d') = 0 ∧ e2V f c (axVal s p) (flG p s d) c' (axVal s p) (flG p s d') = flG p s (e2V f c s d c' s d') := by
  have t := tc_c h
  obtain ⟨_, _, ho, hl, ha, he, _⟩ := fl_spec a
  have m := cells_move (s' := axVal s p) (src := flpT p) h he fun t ht => flpT_in ho hl ha ht
  exact ⟨flE_zero.2 ⟨t.2.1, hl, ho⟩, flE_zero.2 ⟨t.2.2.1, hl, ho⟩, m.1, m.2⟩
theorem e2V_64 (hh : e2E f c s d c' s d' = 0) (T : ∀ j, In64 (nth d j)) (T' : ∀ j, In64 (nth d' j)) : ∀ j, In64 (nth (e2V f c s d c' s d') j) := fun j => by
  have hC : ∀ {xs : List Int} (i : Nat), (∀ j, In64 (nth xs j)) → In64 (e2C xs i) := fun i h => by
    unfold e2C cyA
    split
    · unfold In64; decide
    · exact h _
  by_cases hj : j < e2N s s
  · rw [e2V_nth _ _ _ _ _ _ _ hj]
    unfold tcV
    split
    · exact In64.two (hC j T) (hC j T')
    · unfold ifV
      split <;> (unfold In64; decide)
  · have : nth (e2V f c s d c' s d') j = 0 := by simp [nth, List.getElem?_eq_none (show (e2V f c s d c' s d').length ≤ j by rw [e2V_length]; omega)]
    rw [this]; unfold In64; decide
end
set_option maxRecDepth 100000 in
set_option maxHeartbeats 8000000 in
theorem cells_no (HR : CRv) (HT : CRt) (HF : CFl) (H2 : C2c) (f n x : Int) (hf : In64 f) (hn : In64 n) (hx : In64 x) (pa : Option Addr) (pc : Nat) (p : List Int) (hpl : p.length ≤ 9223372036854775807) (c1 : Bool) (sa1 : Option Addr) (sc1 : Nat) (sz1 : List Int) (da1 : Option Addr) (dc1 : Nat) (dz1 : List Int) (c2 : Bool) (sa2 : Option Addr) (sc2 : Nat) (sz2 : List Int) (da2 : Option Addr) (dc2 : Nat) (dz2 : List Int) (w : World) (hp : IsInts w.heap.size w pa p) (w9 : IsArrC w sa1 sz1 sc1 da1 dz1) (w8 : IsArrC w sa2 sz2 sc2 da2 dz2) (E : Hid (e2E f c1 sz1 dz1 c2 sz2 dz2 ≠ 0)) :
    Calls Try.prog 3 #[.int .i64 f, .int .i64 n, .int .i64 x, .slice pa p.length pc, .agg #[.bool c1, .slice sa1 sz1.length sc1, .slice da1 dz1.length dc1], .agg #[.bool c2, .slice sa2 sz2.length sc2, .slice da2 dz2.length dc2]] w fun e w' => e = .returned (.bool true) ∧ Below w.heap.size w w' := by
  obtain ⟨x1, x2, x3, x4, _, T⟩ := w9
  obtain ⟨y1, y2, y3, y4, _, T'⟩ := w8
  have HI : Hid ((IsC w.heap.size w sa1 sz1 sc1 ∧ IsInts w.heap.size w da1 dz1 ∧ ∀ j, In64 (nth dz1 j)) ∧ (IsC w.heap.size w sa2 sz2 sc2 ∧ IsInts w.heap.size w da2 dz2 ∧ ∀ j, In64 (nth dz2 j))) := ⟨⟨x3, x4, T⟩, y3, y4, T'⟩
  have HP : Hid (IsInts w.heap.size w pa p) := hp
  clear x3 x4 T y3 y4 T' hp
  have p1 : Abx ((w.alloc (.cells #[.bool c1, .slice sa1 sz1.length sc1, .slice da1 dz1.length dc1] 25)).alloc (.cells #[.bool c2, .slice sa2 sz2.length sc2, .slice da2 dz2.length dc2] 25)) w.heap.size (.bool c1) (.slice sa1 sz1.length sc1) (.slice da1 dz1.length dc1) := (Abx.new w _ _ _).al _
  have p2 : Abx ((w.alloc (.cells #[.bool c1, .slice sa1 sz1.length sc1, .slice da1 dz1.length dc1] 25)).alloc (.cells #[.bool c2, .slice sa2 sz2.length sc2, .slice da2 dz2.length dc2] 25)) (w.heap.size + 1) (.bool c2) (.slice sa2 sz2.length sc2) (.slice da2 dz2.length dc2) := Abx.new1 w _ _ _ _
  have hb : Hid (Below w.heap.size w ((w.alloc (.cells #[.bool c1, .slice sa1 sz1.length sc1, .slice da1 dz1.length dc1] 25)).alloc (.cells #[.bool c2, .slice sa2 sz2.length sc2, .slice da2 dz2.length dc2] 25))) := ((Below.refl _ w).alloc (Nat.le_refl _) _).alloc (by simp) _
  have p1_0 := p1.c0
  have p1_1 := p1.c1
  have p1_2 := p1.c2
  have p2_0 := p2.c0
  have p2_1 := p2.c1
  have p2_2 := p2.c2
  replace hb : Hid (Below w.heap.size w (((w.alloc (.cells #[.bool c1, .slice sa1 sz1.length sc1, .slice da1 dz1.length dc1] 25)).alloc (.cells #[.bool c2, .slice sa2 sz2.length sc2, .slice da2 dz2.length dc2] 25)).alloc (.cells #[.int .i64 1, .int .i64 2] 3))) := hb.out.alloc hb.out.size _
  replace p1 := p1.al (.cells #[.int .i64 1, .int .i64 2] 3)
  replace p2 := p2.al (.cells #[.int .i64 1, .int .i64 2] 3)
  replace p1_0 := p1.c0
  replace p1_1 := p1.c1
  replace p1_2 := p1.c2
  replace p2_0 := p2.c0
  replace p2_1 := p2.c1
  replace p2_2 := p2.c2
  have nl := new_lit ((w.alloc (.cells #[.bool c1, .slice sa1 sz1.length sc1, .slice da1 dz1.length dc1] 25)).alloc (.cells #[.bool c2, .slice sa2 sz2.length sc2, .slice da2 dz2.length dc2] 25)) 3 [1, 2]
  simp only [World.size_alloc] at nl
  go_enter Try.func3, Try.ntmps3
  go_wp2_with fail
  refine (vec_any (some ⟨w.heap.size + 1 + 1, 0, none⟩) 2 [1, 2] (by simp) _ nl.ints).mono ?_
  rintro e v1 ⟨va, vc, ga, gc, rfl, hV, hG, hB⟩
  replace hb : Hid (Below w.heap.size w v1) := hb.out.trans (hB.mono hb.out.size)
  replace p1 := p1.go hB
  replace p2 := p2.go hB
  replace p1_0 := p1.c0
  replace p1_1 := p1.c1
  replace p1_2 := p1.c2
  replace p2_0 := p2.c0
  replace p2_1 := p2.c1
  replace p2_2 := p2.c2
  clear hB
  clear nl
  go_wp2_with fail
  refine (rv_ok false va vc [2] ga gc [1, 2] _ (by simp) (by simp) hV.ints hG.ints (lit_all (by decide)) HR 0 (by unfold In64; decide) (by decide)).mono ?_
  rintro e v2 ⟨f1, g1, f2, g2, he, _, hY, hB⟩
  replace hb : Hid (Below w.heap.size w v2) := hb.out.trans (hB.mono hb.out.size)
  replace p1 := p1.go hB
  replace p2 := p2.go hB
  replace hV := hV.go hB
  replace hG := hG.go hB
  replace p1_0 := p1.c0
  replace p1_1 := p1.c1
  replace p1_2 := p1.c2
  replace p2_0 := p2.c0
  replace p2_1 := p2.c1
  replace p2_2 := p2.c2
  clear hB
  rw [fact_v] at he hY
  subst he
  replace hb : Hid (Below w.heap.size w (v2.alloc (.cells #[.bool false, .slice f1 1 g1, .slice f2 2 g2] 25))) := hb.out.alloc hb.out.size _
  replace p1 := p1.al (.cells #[.bool false, .slice f1 1 g1, .slice f2 2 g2] 25)
  replace p2 := p2.al (.cells #[.bool false, .slice f1 1 g1, .slice f2 2 g2] 25)
  replace hV := hV.al (.cells #[.bool false, .slice f1 1 g1, .slice f2 2 g2] 25)
  replace hG := hG.al (.cells #[.bool false, .slice f1 1 g1, .slice f2 2 g2] 25)
  replace hY := hY.al (.cells #[.bool false, .slice f1 1 g1, .slice f2 2 g2] 25)
  replace p1_0 := p1.c0
  replace p1_1 := p1.c1
  replace p1_2 := p1.c2
  replace p2_0 := p2.c0
  replace p2_1 := p2.c1
  replace p2_2 := p2.c2
  replace hb : Hid (Below w.heap.size w ((v2.alloc (.cells #[.bool false, .slice f1 1 g1, .slice f2 2 g2] 25)).alloc (.cells #[.int .i64 2, .int .i64 1] 3))) := hb.out.alloc hb.out.size _
  replace p1 := p1.al (.cells #[.int .i64 2, .int .i64 1] 3)
  replace p2 := p2.al (.cells #[.int .i64 2, .int .i64 1] 3)
  replace hV := hV.al (.cells #[.int .i64 2, .int .i64 1] 3)
  replace hG := hG.al (.cells #[.int .i64 2, .int .i64 1] 3)
  replace hY := hY.al (.cells #[.int .i64 2, .int .i64 1] 3)
  replace p1_0 := p1.c0
  replace p1_1 := p1.c1
  replace p1_2 := p1.c2
  replace p2_0 := p2.c0
  replace p2_1 := p2.c1
  replace p2_2 := p2.c2
  have nl := new_lit (v2.alloc (.cells #[.bool false, .slice f1 1 g1, .slice f2 2 g2] 25)) 3 [2, 1]
  simp only [World.size_alloc] at nl
  go_wp2_with fail
  refine (ints_any f2 g2 [2, 1] (some ⟨v2.heap.size + 1, 0, none⟩) 2 [2, 1] (by simp) _ _ hY.ints nl.ints).mono ?_
  rintro e v3 ⟨rfl, hB⟩
  replace hb : Hid (Below w.heap.size w v3) := hb.out.trans (hB.mono hb.out.size)
  replace p1 := p1.go hB
  replace p2 := p2.go hB
  replace hV := hV.go hB
  replace hG := hG.go hB
  replace hY := hY.go hB
  replace p1_0 := p1.c0
  replace p1_1 := p1.c1
  replace p1_2 := p1.c2
  replace p2_0 := p2.c0
  replace p2_1 := p2.c1
  replace p2_2 := p2.c2
  clear hB
  clear nl hY hV hG
  rw [eqB_true rfl]
  go_wp2_with fail
  refine (ints_any sa1 sc1 sz1 sa2 sc2 sz2 x1 _ _ ((HI.out.1.1.1.below hb.out).mono hb.out.size) ((HI.out.2.1.1.below hb.out).mono hb.out.size)).mono ?_
  rintro e v4 ⟨rfl, hB⟩
  replace hb : Hid (Below w.heap.size w v4) := hb.out.trans (hB.mono hb.out.size)
  replace p1 := p1.go hB
  replace p2 := p2.go hB
  replace p1_0 := p1.c0
  replace p1_1 := p1.c1
  replace p1_2 := p1.c2
  replace p2_0 := p2.c0
  replace p2_1 := p2.c1
  replace p2_2 := p2.c2
  clear hB
  go_wp2_with fail
  refine (c2_no H2.plain f c1 sa1 sc1 sz1 da1 dc1 dz1 c2 sa2 sc2 sz2 da2 dc2 dz2 _ hf x1 x2 y1 y2 ((HI.out.1.1.1.below hb.out).mono hb.out.size) ((HI.out.1.2.1.below hb.out).mono hb.out.size) ((HI.out.2.1.1.below hb.out).mono hb.out.size) ((HI.out.2.2.1.below hb.out).mono hb.out.size) HI.out.1.2.2 HI.out.2.2.2 E.out).mono ?_
  rintro e v5 ⟨rfl, hB⟩
  replace hb : Hid (Below w.heap.size w v5) := hb.out.trans (hB.mono hb.out.size)
  replace p1 := p1.go hB
  replace p2 := p2.go hB
  replace p1_0 := p1.c0
  replace p1_1 := p1.c1
  replace p1_2 := p1.c2
  replace p2_0 := p2.c0
  replace p2_1 := p2.c1
  replace p2_2 := p2.c2
  clear hB
  replace hb : Hid (Below w.heap.size w (v5.alloc (.cells #[.bool false, .slice none 0 0, .slice none 0 0] 25))) := hb.out.alloc hb.out.size _
  replace p1 := p1.al (.cells #[.bool false, .slice none 0 0, .slice none 0 0] 25)
  replace p2 := p2.al (.cells #[.bool false, .slice none 0 0, .slice none 0 0] 25)
  replace p1_0 := p1.c0
  replace p1_1 := p1.c1
  replace p1_2 := p1.c2
  replace p2_0 := p2.c0
  replace p2_1 := p2.c1
  replace p2_2 := p2.c2
  go_wp2_with fail
  go_ret
  exact ⟨rfl, hb.out⟩
set_option maxRecDepth 100000 in
set_option maxHeartbeats 8000000 in
theorem cells_other (HR : CRv) (HT : CRt) (HF : CFl) (H2 : C2c) (f n x : Int) (hf : In64 f) (hn : In64 n) (hx : In64 x) (pa : Option Addr) (pc : Nat) (p : List Int) (hpl : p.length ≤ 9223372036854775807) (c1 : Bool) (sa1 : Option Addr) (sc1 : Nat) (sz1 : List Int) (da1 : Option Addr) (dc1 : Nat) (dz1 : List Int) (c2 : Bool) (sa2 : Option Addr) (sc2 : Nat) (sz2 : List Int) (da2 : Option Addr) (dc2 : Nat) (dz2 : List Int) (w : World) (hp : IsInts w.heap.size w pa p) (w9 : IsArrC w sa1 sz1 sc1 da1 dz1) (w8 : IsArrC w sa2 sz2 sc2 da2 dz2) (E : Hid (e2E f c1 sz1 dz1 c2 sz2 dz2 = 0)) (S : Hid (sz1 ≠ sz2)) :
    Calls Try.prog 3 #[.int .i64 f, .int .i64 n, .int .i64 x, .slice pa p.length pc, .agg #[.bool c1, .slice sa1 sz1.length sc1, .slice da1 dz1.length dc1], .agg #[.bool c2, .slice sa2 sz2.length sc2, .slice da2 dz2.length dc2]] w fun e w' => e = .returned (.bool true) ∧ Below w.heap.size w w' := by
  obtain ⟨x1, x2, x3, x4, _, T⟩ := w9
  obtain ⟨y1, y2, y3, y4, _, T'⟩ := w8
  have HI : Hid ((IsC w.heap.size w sa1 sz1 sc1 ∧ IsInts w.heap.size w da1 dz1 ∧ ∀ j, In64 (nth dz1 j)) ∧ (IsC w.heap.size w sa2 sz2 sc2 ∧ IsInts w.heap.size w da2 dz2 ∧ ∀ j, In64 (nth dz2 j))) := ⟨⟨x3, x4, T⟩, y3, y4, T'⟩
  have HP : Hid (IsInts w.heap.size w pa p) := hp
  clear x3 x4 T y3 y4 T' hp
  have p1 : Abx ((w.alloc (.cells #[.bool c1, .slice sa1 sz1.length sc1, .slice da1 dz1.length dc1] 25)).alloc (.cells #[.bool c2, .slice sa2 sz2.length sc2, .slice da2 dz2.length dc2] 25)) w.heap.size (.bool c1) (.slice sa1 sz1.length sc1) (.slice da1 dz1.length dc1) := (Abx.new w _ _ _).al _
  have p2 : Abx ((w.alloc (.cells #[.bool c1, .slice sa1 sz1.length sc1, .slice da1 dz1.length dc1] 25)).alloc (.cells #[.bool c2, .slice sa2 sz2.length sc2, .slice da2 dz2.length dc2] 25)) (w.heap.size + 1) (.bool c2) (.slice sa2 sz2.length sc2) (.slice da2 dz2.length dc2) := Abx.new1 w _ _ _ _
  have hb : Hid (Below w.heap.size w ((w.alloc (.cells #[.bool c1, .slice sa1 sz1.length sc1, .slice da1 dz1.length dc1] 25)).alloc (.cells #[.bool c2, .slice sa2 sz2.length sc2, .slice da2 dz2.length dc2] 25))) := ((Below.refl _ w).alloc (Nat.le_refl _) _).alloc (by simp) _
  have p1_0 := p1.c0
  have p1_1 := p1.c1
  have p1_2 := p1.c2
  have p2_0 := p2.c0
  have p2_1 := p2.c1
  have p2_2 := p2.c2
  replace hb : Hid (Below w.heap.size w (((w.alloc (.cells #[.bool c1, .slice sa1 sz1.length sc1, .slice da1 dz1.length dc1] 25)).alloc (.cells #[.bool c2, .slice sa2 sz2.length sc2, .slice da2 dz2.length dc2] 25)).alloc (.cells #[.int .i64 1, .int .i64 2] 3))) := hb.out.alloc hb.out.size _
  replace p1 := p1.al (.cells #[.int .i64 1, .int .i64 2] 3)
  replace p2 := p2.al (.cells #[.int .i64 1, .int .i64 2] 3)
  replace p1_0 := p1.c0
  replace p1_1 := p1.c1
  replace p1_2 := p1.c2
  replace p2_0 := p2.c0
  replace p2_1 := p2.c1
  replace p2_2 := p2.c2
  have nl := new_lit ((w.alloc (.cells #[.bool c1, .slice sa1 sz1.length sc1, .slice da1 dz1.length dc1] 25)).alloc (.cells #[.bool c2, .slice sa2 sz2.length sc2, .slice da2 dz2.length dc2] 25)) 3 [1, 2]
  simp only [World.size_alloc] at nl
  go_enter Try.func3, Try.ntmps3
  go_wp2_with fail
  refine (vec_any (some ⟨w.heap.size + 1 + 1, 0, none⟩) 2 [1, 2] (by simp) _ nl.ints).mono ?_
  rintro e v1 ⟨va, vc, ga, gc, rfl, hV, hG, hB⟩
  replace hb : Hid (Below w.heap.size w v1) := hb.out.trans (hB.mono hb.out.size)
  replace p1 := p1.go hB
  replace p2 := p2.go hB
  replace p1_0 := p1.c0
  replace p1_1 := p1.c1
  replace p1_2 := p1.c2
  replace p2_0 := p2.c0
  replace p2_1 := p2.c1
  replace p2_2 := p2.c2
  clear hB
  clear nl
  go_wp2_with fail
  refine (rv_ok false va vc [2] ga gc [1, 2] _ (by simp) (by simp) hV.ints hG.ints (lit_all (by decide)) HR 0 (by unfold In64; decide) (by decide)).mono ?_
  rintro e v2 ⟨f1, g1, f2, g2, he, _, hY, hB⟩
  replace hb : Hid (Below w.heap.size w v2) := hb.out.trans (hB.mono hb.out.size)
  replace p1 := p1.go hB
  replace p2 := p2.go hB
  replace hV := hV.go hB
  replace hG := hG.go hB
  replace p1_0 := p1.c0
  replace p1_1 := p1.c1
  replace p1_2 := p1.c2
  replace p2_0 := p2.c0
  replace p2_1 := p2.c1
  replace p2_2 := p2.c2
  clear hB
  rw [fact_v] at he hY
  subst he
  replace hb : Hid (Below w.heap.size w (v2.alloc (.cells #[.bool false, .slice f1 1 g1, .slice f2 2 g2] 25))) := hb.out.alloc hb.out.size _
  replace p1 := p1.al (.cells #[.bool false, .slice f1 1 g1, .slice f2 2 g2] 25)
  replace p2 := p2.al (.cells #[.bool false, .slice f1 1 g1, .slice f2 2 g2] 25)
  replace hV := hV.al (.cells #[.bool false, .slice f1 1 g1, .slice f2 2 g2] 25)
  replace hG := hG.al (.cells #[.bool false, .slice f1 1 g1, .slice f2 2 g2] 25)
  replace hY := hY.al (.cells #[.bool false, .slice f1 1 g1, .slice f2 2 g2] 25)
  replace p1_0 := p1.c0
  replace p1_1 := p1.c1
  replace p1_2 := p1.c2
  replace p2_0 := p2.c0
  replace p2_1 := p2.c1
  replace p2_2 := p2.c2
  replace hb : Hid (Below w.heap.size w ((v2.alloc (.cells #[.bool false, .slice f1 1 g1, .slice f2 2 g2] 25)).alloc (.cells #[.int .i64 2, .int .i64 1] 3))) := hb.out.alloc hb.out.size _
  replace p1 := p1.al (.cells #[.int .i64 2, .int .i64 1] 3)
  replace p2 := p2.al (.cells #[.int .i64 2, .int .i64 1] 3)
  replace hV := hV.al (.cells #[.int .i64 2, .int .i64 1] 3)
  replace hG := hG.al (.cells #[.int .i64 2, .int .i64 1] 3)
  replace hY := hY.al (.cells #[.int .i64 2, .int .i64 1] 3)
  replace p1_0 := p1.c0
  replace p1_1 := p1.c1
  replace p1_2 := p1.c2
  replace p2_0 := p2.c0
  replace p2_1 := p2.c1
  replace p2_2 := p2.c2
  have nl := new_lit (v2.alloc (.cells #[.bool false, .slice f1 1 g1, .slice f2 2 g2] 25)) 3 [2, 1]
  simp only [World.size_alloc] at nl
  go_wp2_with fail
  refine (ints_any f2 g2 [2, 1] (some ⟨v2.heap.size + 1, 0, none⟩) 2 [2, 1] (by simp) _ _ hY.ints nl.ints).mono ?_
  rintro e v3 ⟨rfl, hB⟩
  replace hb : Hid (Below w.heap.size w v3) := hb.out.trans (hB.mono hb.out.size)
  replace p1 := p1.go hB
  replace p2 := p2.go hB
  replace hV := hV.go hB
  replace hG := hG.go hB
  replace hY := hY.go hB
  replace p1_0 := p1.c0
  replace p1_1 := p1.c1
  replace p1_2 := p1.c2
  replace p2_0 := p2.c0
  replace p2_1 := p2.c1
  replace p2_2 := p2.c2
  clear hB
  clear nl hY hV hG
  rw [eqB_true rfl]
  go_wp2_with fail
  refine (ints_any sa1 sc1 sz1 sa2 sc2 sz2 x1 _ _ ((HI.out.1.1.1.below hb.out).mono hb.out.size) ((HI.out.2.1.1.below hb.out).mono hb.out.size)).mono ?_
  rintro e v4 ⟨rfl, hB⟩
  replace hb : Hid (Below w.heap.size w v4) := hb.out.trans (hB.mono hb.out.size)
  replace p1 := p1.go hB
  replace p2 := p2.go hB
  replace p1_0 := p1.c0
  replace p1_1 := p1.c1
  replace p1_2 := p1.c2
  replace p2_0 := p2.c0
  replace p2_1 := p2.c1
  replace p2_2 := p2.c2
  clear hB
  go_wp2_with fail
  refine (c2_ok H2.plain f c1 sa1 sc1 sz1 da1 dc1 dz1 c2 sa2 sc2 sz2 da2 dc2 dz2 _ hf x1 x2 y1 y2 ((HI.out.1.1.1.below hb.out).mono hb.out.size) ((HI.out.1.2.1.below hb.out).mono hb.out.size) ((HI.out.2.1.1.below hb.out).mono hb.out.size) ((HI.out.2.2.1.below hb.out).mono hb.out.size) HI.out.1.2.2 HI.out.2.2.2 E.out).mono ?_
  rintro e v5 ⟨xa1, xc1, ya1, yc1, rfl, hX1, hY1, hB⟩
  replace hb : Hid (Below w.heap.size w v5) := hb.out.trans (hB.mono hb.out.size)
  replace p1 := p1.go hB
  replace p2 := p2.go hB
  replace p1_0 := p1.c0
  replace p1_1 := p1.c1
  replace p1_2 := p1.c2
  replace p2_0 := p2.c0
  replace p2_1 := p2.c1
  replace p2_2 := p2.c2
  clear hB
  replace hb : Hid (Below w.heap.size w (v5.alloc (.cells #[.bool false, .slice xa1 (shp sz1 sz2).length xc1, .slice ya1 (e2V f c1 sz1 dz1 c2 sz2 dz2).length yc1] 25))) := hb.out.alloc hb.out.size _
  replace p1 := p1.al (.cells #[.bool false, .slice xa1 (shp sz1 sz2).length xc1, .slice ya1 (e2V f c1 sz1 dz1 c2 sz2 dz2).length yc1] 25)
  replace p2 := p2.al (.cells #[.bool false, .slice xa1 (shp sz1 sz2).length xc1, .slice ya1 (e2V f c1 sz1 dz1 c2 sz2 dz2).length yc1] 25)
  replace p1_0 := p1.c0
  replace p1_1 := p1.c1
  replace p1_2 := p1.c2
  replace p2_0 := p2.c0
  replace p2_1 := p2.c1
  replace p2_2 := p2.c2
  rw [eqB_false S.out]
  go_wp2_with fail
  go_ret
  exact ⟨rfl, hb.out⟩
theorem tc_two (H2 : C2c) (f : Int) (c : Bool) (sa : Option Addr) (sc : Nat) (s : List Int) (da : Option Addr) (dc : Nat) (d : List Int) (c' : Bool) (sa' : Option Addr) (sc' : Nat) (s' : List Int) (da' : Option Addr) (dc' : Nat) (d' : List Int) (w : World) (hf : In64 f) (h1 : s.length ≤ 9223372036854775807) (h2 : d.length ≤ 9223372036854775807)
    (hs : IsC w.heap.size w sa s sc) (hd : IsInts w.heap.size w da d) (hs' : IsC w.heap.size w sa' s' sc') (hd' : IsInts w.heap.size w da' d') (T : ∀ j, In64 (nth d j)) (T' : ∀ j, In64 (nth d' j)) (h : e2E f c s d c' s' d' = 0) (e : s' = s := by rfl) :
    Calls Try.prog 8 #[.int .i64 f, .agg #[.bool c, .slice sa s.length sc, .slice da d.length dc], .agg #[.bool c', .slice sa' s'.length sc', .slice da' d'.length dc']] w (OkA false s (e2V f c s d c' s' d') w) := by
  subst e
  have t := tc_c h
  have h' := c2c_ok H2 f c sa sc s' da dc d c' sa' sc' s' da' dc' d' w hf h1 h2 h1 (tu_len t.2.1).2 hs.1 hd hs'.1 hd' T T' h
  rw [t.2.2.2] at h'
  exact h'
theorem tc_two2 (H2 : C2c) (f : Int) (c : Bool) (sa : Option Addr) (sc : Nat) (s : List Int) (da : Option Addr) (dc : Nat) (d : List Int) (c' : Bool) (sa' : Option Addr) (sc' : Nat) (da' : Option Addr) (dc' : Nat) (d' : List Int) (w : World) (hf : In64 f) (h1 : s.length ≤ 9223372036854775807) (h2 : d.length ≤ 9223372036854775807) (h3 : d'.length ≤ 9223372036854775807)
    (hs : IsC w.heap.size w sa s sc) (hd : IsInts w.heap.size w da d) (hs' : IsC w.heap.size w sa' s sc') (hd' : IsInts w.heap.size w da' d') (T : ∀ j, In64 (nth d j)) (T' : ∀ j, In64 (nth d' j)) (h : e2E f c s d c' s d' = 0) :
    Calls Try.prog 8 #[.int .i64 f, .agg #[.bool c, .slice sa s.length sc, .slice da d.length dc], .agg #[.bool c', .slice sa' s.length sc', .slice da' d'.length dc']] w (OkA false s (e2V f c s d c' s d') w) :=
  tc_two H2 f c sa sc s da dc d c' sa' sc' s da' dc' d' w hf h1 h2 hs hd hs' hd' T T' h rfl
set_option maxRecDepth 100000 in
set_option maxHeartbeats 40000000 in
theorem cells_nn (HR : CRv) (HT : CRt) (HF : CFl) (H2 : C2c) (f n x : Int) (hf : In64 f) (hn : In64 n) (hx : In64 x) (pa : Option Addr) (pc : Nat) (p : List Int) (hpl : p.length ≤ 9223372036854775807) (c1 : Bool) (sa1 : Option Addr) (sc1 : Nat) (sz1 : List Int) (da1 : Option Addr) (dc1 : Nat) (dz1 : List Int) (c2 : Bool) (sa2 : Option Addr) (sc2 : Nat) (da2 : Option Addr) (dc2 : Nat) (dz2 : List Int) (w : World) (hp : IsInts w.heap.size w pa p) (w9 : IsArrC w sa1 sz1 sc1 da1 dz1) (w8 : IsArrC w sa2 sz1 sc2 da2 dz2) (E : Hid (e2E f c1 sz1 dz1 c2 sz1 dz2 = 0)) (F1 : Hid (axE x c1 sz1 dz1 ≠ 0)) (F2 : Hid (flE p c1 sz1 dz1 ≠ 0)) :
    Calls Try.prog 3 #[.int .i64 f, .int .i64 n, .int .i64 x, .slice pa p.length pc, .agg #[.bool c1, .slice sa1 sz1.length sc1, .slice da1 dz1.length dc1], .agg #[.bool c2, .slice sa2 sz1.length sc2, .slice da2 dz2.length dc2]] w fun e w' => e = .returned (.bool true) ∧ Below w.heap.size w w' := by
  obtain ⟨x1, x2, x3, x4, _, T⟩ := w9
  obtain ⟨y1, y2, y3, y4, _, T'⟩ := w8
  have HI : Hid ((IsC w.heap.size w sa1 sz1 sc1 ∧ IsInts w.heap.size w da1 dz1 ∧ ∀ j, In64 (nth dz1 j)) ∧ (IsC w.heap.size w sa2 sz1 sc2 ∧ IsInts w.heap.size w da2 dz2 ∧ ∀ j, In64 (nth dz2 j))) := ⟨⟨x3, x4, T⟩, y3, y4, T'⟩
  have HP : Hid (IsInts w.heap.size w pa p) := hp
  clear x3 x4 T y3 y4 T' hp
  have p1 : Abx ((w.alloc (.cells #[.bool c1, .slice sa1 sz1.length sc1, .slice da1 dz1.length dc1] 25)).alloc (.cells #[.bool c2, .slice sa2 sz1.length sc2, .slice da2 dz2.length dc2] 25)) w.heap.size (.bool c1) (.slice sa1 sz1.length sc1) (.slice da1 dz1.length dc1) := (Abx.new w _ _ _).al _
  have p2 : Abx ((w.alloc (.cells #[.bool c1, .slice sa1 sz1.length sc1, .slice da1 dz1.length dc1] 25)).alloc (.cells #[.bool c2, .slice sa2 sz1.length sc2, .slice da2 dz2.length dc2] 25)) (w.heap.size + 1) (.bool c2) (.slice sa2 sz1.length sc2) (.slice da2 dz2.length dc2) := Abx.new1 w _ _ _ _
  have hb : Hid (Below w.heap.size w ((w.alloc (.cells #[.bool c1, .slice sa1 sz1.length sc1, .slice da1 dz1.length dc1] 25)).alloc (.cells #[.bool c2, .slice sa2 sz1.length sc2, .slice da2 dz2.length dc2] 25))) := ((Below.refl _ w).alloc (Nat.le_refl _) _).alloc (by simp) _
  have p1_0 := p1.c0
  have p1_1 := p1.c1
  have p1_2 := p1.c2
  have p2_0 := p2.c0
  have p2_1 := p2.c1
  have p2_2 := p2.c2
  replace hb : Hid (Below w.heap.size w (((w.alloc (.cells #[.bool c1, .slice sa1 sz1.length sc1, .slice da1 dz1.length dc1] 25)).alloc (.cells #[.bool c2, .slice sa2 sz1.length sc2, .slice da2 dz2.length dc2] 25)).alloc (.cells #[.int .i64 1, .int .i64 2] 3))) := hb.out.alloc hb.out.size _
  replace p1 := p1.al (.cells #[.int .i64 1, .int .i64 2] 3)
  replace p2 := p2.al (.cells #[.int .i64 1, .int .i64 2] 3)
  replace p1_0 := p1.c0
  replace p1_1 := p1.c1
  replace p1_2 := p1.c2
  replace p2_0 := p2.c0
  replace p2_1 := p2.c1
  replace p2_2 := p2.c2
  have nl := new_lit ((w.alloc (.cells #[.bool c1, .slice sa1 sz1.length sc1, .slice da1 dz1.length dc1] 25)).alloc (.cells #[.bool c2, .slice sa2 sz1.length sc2, .slice da2 dz2.length dc2] 25)) 3 [1, 2]
  simp only [World.size_alloc] at nl
  go_enter Try.func3, Try.ntmps3
  go_wp2_with fail
  refine (vec_any (some ⟨w.heap.size + 1 + 1, 0, none⟩) 2 [1, 2] (by simp) _ nl.ints).mono ?_
  rintro e v1 ⟨va, vc, ga, gc, rfl, hV, hG, hB⟩
  replace hb : Hid (Below w.heap.size w v1) := hb.out.trans (hB.mono hb.out.size)
  replace p1 := p1.go hB
  replace p2 := p2.go hB
  replace p1_0 := p1.c0
  replace p1_1 := p1.c1
  replace p1_2 := p1.c2
  replace p2_0 := p2.c0
  replace p2_1 := p2.c1
  replace p2_2 := p2.c2
  clear hB
  clear nl
  go_wp2_with fail
  refine (rv_ok false va vc [2] ga gc [1, 2] _ (by simp) (by simp) hV.ints hG.ints (lit_all (by decide)) HR 0 (by unfold In64; decide) (by decide)).mono ?_
  rintro e v2 ⟨f1, g1, f2, g2, he, _, hY, hB⟩
  replace hb : Hid (Below w.heap.size w v2) := hb.out.trans (hB.mono hb.out.size)
  replace p1 := p1.go hB
  replace p2 := p2.go hB
  replace hV := hV.go hB
  replace hG := hG.go hB
  replace p1_0 := p1.c0
  replace p1_1 := p1.c1
  replace p1_2 := p1.c2
  replace p2_0 := p2.c0
  replace p2_1 := p2.c1
  replace p2_2 := p2.c2
  clear hB
  rw [fact_v] at he hY
  subst he
  replace hb : Hid (Below w.heap.size w (v2.alloc (.cells #[.bool false, .slice f1 1 g1, .slice f2 2 g2] 25))) := hb.out.alloc hb.out.size _
  replace p1 := p1.al (.cells #[.bool false, .slice f1 1 g1, .slice f2 2 g2] 25)
  replace p2 := p2.al (.cells #[.bool false, .slice f1 1 g1, .slice f2 2 g2] 25)
  replace hV := hV.al (.cells #[.bool false, .slice f1 1 g1, .slice f2 2 g2] 25)
  replace hG := hG.al (.cells #[.bool false, .slice f1 1 g1, .slice f2 2 g2] 25)
  replace hY := hY.al (.cells #[.bool false, .slice f1 1 g1, .slice f2 2 g2] 25)
  replace p1_0 := p1.c0
  replace p1_1 := p1.c1
  replace p1_2 := p1.c2
  replace p2_0 := p2.c0
  replace p2_1 := p2.c1
  replace p2_2 := p2.c2
  replace hb : Hid (Below w.heap.size w ((v2.alloc (.cells #[.bool false, .slice f1 1 g1, .slice f2 2 g2] 25)).alloc (.cells #[.int .i64 2, .int .i64 1] 3))) := hb.out.alloc hb.out.size _
  replace p1 := p1.al (.cells #[.int .i64 2, .int .i64 1] 3)
  replace p2 := p2.al (.cells #[.int .i64 2, .int .i64 1] 3)
  replace hV := hV.al (.cells #[.int .i64 2, .int .i64 1] 3)
  replace hG := hG.al (.cells #[.int .i64 2, .int .i64 1] 3)
  replace hY := hY.al (.cells #[.int .i64 2, .int .i64 1] 3)
  replace p1_0 := p1.c0
  replace p1_1 := p1.c1
  replace p1_2 := p1.c2
  replace p2_0 := p2.c0
  replace p2_1 := p2.c1
  replace p2_2 := p2.c2
  have nl := new_lit (v2.alloc (.cells #[.bool false, .slice f1 1 g1, .slice f2 2 g2] 25)) 3 [2, 1]
  simp only [World.size_alloc] at nl
  go_wp2_with fail
  refine (ints_any f2 g2 [2, 1] (some ⟨v2.heap.size + 1, 0, none⟩) 2 [2, 1] (by simp) _ _ hY.ints nl.ints).mono ?_
  rintro e v3 ⟨rfl, hB⟩
  replace hb : Hid (Below w.heap.size w v3) := hb.out.trans (hB.mono hb.out.size)
  replace p1 := p1.go hB
  replace p2 := p2.go hB
  replace hV := hV.go hB
  replace hG := hG.go hB
  replace hY := hY.go hB
  replace p1_0 := p1.c0
  replace p1_1 := p1.c1
  replace p1_2 := p1.c2
  replace p2_0 := p2.c0
  replace p2_1 := p2.c1
  replace p2_2 := p2.c2
  clear hB
  clear nl hY hV hG
  rw [eqB_true rfl]
  go_wp2_with fail
  refine (ints_any sa1 sc1 sz1 sa2 sc2 sz1 x1 _ _ ((HI.out.1.1.1.below hb.out).mono hb.out.size) ((HI.out.2.1.1.below hb.out).mono hb.out.size)).mono ?_
  rintro e v4 ⟨rfl, hB⟩
  replace hb : Hid (Below w.heap.size w v4) := hb.out.trans (hB.mono hb.out.size)
  replace p1 := p1.go hB
  replace p2 := p2.go hB
  replace p1_0 := p1.c0
  replace p1_1 := p1.c1
  replace p1_2 := p1.c2
  replace p2_0 := p2.c0
  replace p2_1 := p2.c1
  replace p2_2 := p2.c2
  clear hB
  go_wp2_with fail
  refine (tc_two H2 f c1 sa1 sc1 sz1 da1 dc1 dz1 c2 sa2 sc2 sz1 da2 dc2 dz2 _ hf x1 x2 ((HI.out.1.1.below hb.out).mono hb.out.size) ((HI.out.1.2.1.below hb.out).mono hb.out.size) ((HI.out.2.1.below hb.out).mono hb.out.size) ((HI.out.2.2.1.below hb.out).mono hb.out.size) HI.out.1.2.2 HI.out.2.2.2 E.out).mono ?_
  rintro e v5 ⟨xa0, xc0, ya0, yc0, rfl, hX0, hY0, hB⟩
  replace hb : Hid (Below w.heap.size w v5) := hb.out.trans (hB.mono hb.out.size)
  replace p1 := p1.go hB
  replace p2 := p2.go hB
  replace p1_0 := p1.c0
  replace p1_1 := p1.c1
  replace p1_2 := p1.c2
  replace p2_0 := p2.c0
  replace p2_1 := p2.c1
  replace p2_2 := p2.c2
  clear hB
  have hXc := OldC.of hX0
  have hYc := OldI.of hY0
  clear hX0 hY0
  have o_p1_bc := p1.lt
  have o_p2_bc := p2.lt
  replace hb : Hid (Below w.heap.size w (v5.alloc (.cells #[.bool false, .slice xa0 sz1.length xc0, .slice ya0 (e2V f c1 sz1 dz1 c2 sz1 dz2).length yc0] 25))) := hb.out.alloc hb.out.size _
  replace p1 := p1.al (.cells #[.bool false, .slice xa0 sz1.length xc0, .slice ya0 (e2V f c1 sz1 dz1 c2 sz1 dz2).length yc0] 25)
  replace p2 := p2.al (.cells #[.bool false, .slice xa0 sz1.length xc0, .slice ya0 (e2V f c1 sz1 dz1 c2 sz1 dz2).length yc0] 25)
  replace hXc := hXc.al (.cells #[.bool false, .slice xa0 sz1.length xc0, .slice ya0 (e2V f c1 sz1 dz1 c2 sz1 dz2).length yc0] 25)
  replace hYc := hYc.al (.cells #[.bool false, .slice xa0 sz1.length xc0, .slice ya0 (e2V f c1 sz1 dz1 c2 sz1 dz2).length yc0] 25)
  replace p1_0 := p1.c0
  replace p1_1 := p1.c1
  replace p1_2 := p1.c2
  replace p2_0 := p2.c0
  replace p2_1 := p2.c1
  replace p2_2 := p2.c2
  have bc := Abx.new v5 (.bool false) (.slice xa0 sz1.length xc0) (.slice ya0 (e2V f c1 sz1 dz1 c2 sz1 dz2).length yc0)
  have bc_0 := bc.c0
  have bc_1 := bc.c1
  have bc_2 := bc.c2
  rw [eqB_true rfl]
  go_wp2_with fail
  refine (rv_no c1 sa1 sc1 sz1 da1 dc1 dz1 _ x1 x2 ((HI.out.1.1.below hb.out).mono hb.out.size) ((HI.out.1.2.1.below hb.out).mono hb.out.size) HI.out.1.2.2 HR x hx F1.out).mono ?_
  rintro e v6 ⟨xa1, xc1, ya1, yc1, rfl, hB⟩
  replace hb : Hid (Below w.heap.size w v6) := hb.out.trans (hB.mono hb.out.size)
  replace p1 := p1.go hB
  replace p2 := p2.go hB
  replace hXc := hXc.go hB
  replace hYc := hYc.go hB
  replace bc := bc.go hB
  replace p1_0 := p1.c0
  replace p1_1 := p1.c1
  replace p1_2 := p1.c2
  replace p2_0 := p2.c0
  replace p2_1 := p2.c1
  replace p2_2 := p2.c2
  replace bc_0 := bc.c0
  replace bc_1 := bc.c1
  replace bc_2 := bc.c2
  clear hB
  have o_p1_bx := p1.lt
  have o_p2_bx := p2.lt
  have o_bc_bx := bc.lt
  replace hb : Hid (Below w.heap.size w (v6.alloc (.cells #[.bool false, .slice xa1 0 xc1, .slice ya1 0 yc1] 25))) := hb.out.alloc hb.out.size _
  replace p1 := p1.al (.cells #[.bool false, .slice xa1 0 xc1, .slice ya1 0 yc1] 25)
  replace p2 := p2.al (.cells #[.bool false, .slice xa1 0 xc1, .slice ya1 0 yc1] 25)
  replace hXc := hXc.al (.cells #[.bool false, .slice xa1 0 xc1, .slice ya1 0 yc1] 25)
  replace hYc := hYc.al (.cells #[.bool false, .slice xa1 0 xc1, .slice ya1 0 yc1] 25)
  replace bc := bc.al (.cells #[.bool false, .slice xa1 0 xc1, .slice ya1 0 yc1] 25)
  replace p1_0 := p1.c0
  replace p1_1 := p1.c1
  replace p1_2 := p1.c2
  replace p2_0 := p2.c0
  replace p2_1 := p2.c1
  replace p2_2 := p2.c2
  replace bc_0 := bc.c0
  replace bc_1 := bc.c1
  replace bc_2 := bc.c2
  have bx := Abx.new v6 (.bool false) (.slice xa1 0 xc1) (.slice ya1 0 yc1)
  have bx_0 := bx.c0
  have bx_1 := bx.c1
  have bx_2 := bx.c2
  go_wp2_with fail
  have l9_p1 := p1.lt
  have l9_p2 := p2.lt
  have l9_bc := bc.lt
  have l9_bx := bx.lt
  refine (fl_no c1 sa1 sc1 sz1 da1 dc1 dz1 _ x1 x2 ((HI.out.1.1.below hb.out).mono hb.out.size) ((HI.out.1.2.1.below hb.out).mono hb.out.size) HI.out.1.2.2 HF pa pc p hpl ((HP.out.below hb.out).mono hb.out.size) F2.out).mono ?_
  rintro e v7 ⟨xa9, xc9, ya9, yc9, rfl, hB⟩
  replace hb : Hid (Below w.heap.size w v7) := hb.out.trans (hB.mono hb.out.size)
  replace p1 := p1.go hB
  replace p2 := p2.go hB
  replace hXc := hXc.go hB
  replace hYc := hYc.go hB
  replace bc := bc.go hB
  replace bx := bx.go hB
  replace p1_0 := p1.c0
  replace p1_1 := p1.c1
  replace p1_2 := p1.c2
  replace p2_0 := p2.c0
  replace p2_1 := p2.c1
  replace p2_2 := p2.c2
  replace bc_0 := bc.c0
  replace bc_1 := bc.c1
  replace bc_2 := bc.c2
  replace bx_0 := bx.c0
  replace bx_1 := bx.c1
  replace bx_2 := bx.c2
  clear hB
  have fz_0 := bx.fr 0
  have fz_1 := bx.fr 1
  have fz_2 := bx.fr 2
  have N_p1 := p1.ne3 (B := v6.heap.size) (by exact Nat.ne_of_lt o_p1_bx) (.bool false) (.slice xa9 0 xc9) (.slice ya9 0 yc9)
  have N_p2 := p2.ne3 (B := v6.heap.size) (by exact Nat.ne_of_lt o_p2_bx) (.bool false) (.slice xa9 0 xc9) (.slice ya9 0 yc9)
  have N_hXc := hXc.set3 (B := v6.heap.size) (Nat.le_of_lt o_bc_bx) (.bool false) (.slice xa9 0 xc9) (.slice ya9 0 yc9)
  have N_hYc := hYc.set3 (B := v6.heap.size) (Nat.le_of_lt o_bc_bx) (.bool false) (.slice xa9 0 xc9) (.slice ya9 0 yc9)
  have N_bc := bc.ne3 (B := v6.heap.size) (by exact Nat.ne_of_lt o_bc_bx) (.bool false) (.slice xa9 0 xc9) (.slice ya9 0 yc9)
  have N_bx := bx.set3 (.bool false) (.slice xa9 0 xc9) (.slice ya9 0 yc9)
  have N_hb : Hid (Below w.heap.size w (((v7.setCell ⟨v6.heap.size, 0, none⟩ (.bool false)).setCell ⟨v6.heap.size, 1, none⟩ (.slice xa9 0 xc9)).setCell ⟨v6.heap.size, 2, none⟩ (.slice ya9 0 yc9))) := bel_set3 hb.out (Nat.le_of_lt o_p1_bx) (.bool false) (.slice xa9 0 xc9) (.slice ya9 0 yc9)
  have N_p1_0 := N_p1.c0
  have N_p1_1 := N_p1.c1
  have N_p1_2 := N_p1.c2
  have N_p2_0 := N_p2.c0
  have N_p2_1 := N_p2.c1
  have N_p2_2 := N_p2.c2
  have N_bc_0 := N_bc.c0
  have N_bc_1 := N_bc.c1
  have N_bc_2 := N_bc.c2
  have N_bx_0 := N_bx.c0
  have N_bx_1 := N_bx.c1
  have N_bx_2 := N_bx.c2
  go_wp2_with fail
  clear fz_0 fz_1 fz_2 hb p1 p2 hXc hYc bc bx p1_0 p1_1 p1_2 p2_0 p2_1 p2_2 bc_0 bc_1 bc_2 bx_0 bx_1 bx_2
  have hb := N_hb
  have p1 := N_p1
  have p2 := N_p2
  have hXc := N_hXc
  have hYc := N_hYc
  have bc := N_bc
  have bx := N_bx
  have p1_0 := N_p1_0
  have p1_1 := N_p1_1
  have p1_2 := N_p1_2
  have p2_0 := N_p2_0
  have p2_1 := N_p2_1
  have p2_2 := N_p2_2
  have bc_0 := N_bc_0
  have bc_1 := N_bc_1
  have bc_2 := N_bc_2
  have bx_0 := N_bx_0
  have bx_1 := N_bx_1
  have bx_2 := N_bx_2
  clear N_hb N_p1 N_p2 N_hXc N_hYc N_bc N_bx N_p1_0 N_p1_1 N_p1_2 N_p2_0 N_p2_1 N_p2_2 N_bc_0 N_bc_1 N_bc_2 N_bx_0 N_bx_1 N_bx_2
  go_ret
  exact ⟨rfl, hb.out⟩
set_option maxRecDepth 100000 in
set_option maxHeartbeats 40000000 in
theorem cells_no3 (HR : CRv) (HT : CRt) (HF : CFl) (H2 : C2c) (f n x : Int) (hf : In64 f) (hn : In64 n) (hx : In64 x) (pa : Option Addr) (pc : Nat) (p : List Int) (hpl : p.length ≤ 9223372036854775807) (c1 : Bool) (sa1 : Option Addr) (sc1 : Nat) (sz1 : List Int) (da1 : Option Addr) (dc1 : Nat) (dz1 : List Int) (c2 : Bool) (sa2 : Option Addr) (sc2 : Nat) (da2 : Option Addr) (dc2 : Nat) (dz2 : List Int) (w : World) (hp : IsInts w.heap.size w pa p) (w9 : IsArrC w sa1 sz1 sc1 da1 dz1) (w8 : IsArrC w sa2 sz1 sc2 da2 dz2) (E : Hid (e2E f c1 sz1 dz1 c2 sz1 dz2 = 0)) (F1 : Hid (axE x c1 sz1 dz1 ≠ 0)) (F2 : Hid (flE p c1 sz1 dz1 = 0)) :
    Calls Try.prog 3 #[.int .i64 f, .int .i64 n, .int .i64 x, .slice pa p.length pc, .agg #[.bool c1, .slice sa1 sz1.length sc1, .slice da1 dz1.length dc1], .agg #[.bool c2, .slice sa2 sz1.length sc2, .slice da2 dz2.length dc2]] w fun e w' => e = .returned (.bool true) ∧ Below w.heap.size w w' := by
  obtain ⟨x1, x2, x3, x4, _, T⟩ := w9
  obtain ⟨y1, y2, y3, y4, _, T'⟩ := w8
  have HI : Hid ((IsC w.heap.size w sa1 sz1 sc1 ∧ IsInts w.heap.size w da1 dz1 ∧ ∀ j, In64 (nth dz1 j)) ∧ (IsC w.heap.size w sa2 sz1 sc2 ∧ IsInts w.heap.size w da2 dz2 ∧ ∀ j, In64 (nth dz2 j))) := ⟨⟨x3, x4, T⟩, y3, y4, T'⟩
  have HP : Hid (IsInts w.heap.size w pa p) := hp
  clear x3 x4 T y3 y4 T' hp
  have p1 : Abx ((w.alloc (.cells #[.bool c1, .slice sa1 sz1.length sc1, .slice da1 dz1.length dc1] 25)).alloc (.cells #[.bool c2, .slice sa2 sz1.length sc2, .slice da2 dz2.length dc2] 25)) w.heap.size (.bool c1) (.slice sa1 sz1.length sc1) (.slice da1 dz1.length dc1) := (Abx.new w _ _ _).al _
  have p2 : Abx ((w.alloc (.cells #[.bool c1, .slice sa1 sz1.length sc1, .slice da1 dz1.length dc1] 25)).alloc (.cells #[.bool c2, .slice sa2 sz1.length sc2, .slice da2 dz2.length dc2] 25)) (w.heap.size + 1) (.bool c2) (.slice sa2 sz1.length sc2) (.slice da2 dz2.length dc2) := Abx.new1 w _ _ _ _
  have hb : Hid (Below w.heap.size w ((w.alloc (.cells #[.bool c1, .slice sa1 sz1.length sc1, .slice da1 dz1.length dc1] 25)).alloc (.cells #[.bool c2, .slice sa2 sz1.length sc2, .slice da2 dz2.length dc2] 25))) := ((Below.refl _ w).alloc (Nat.le_refl _) _).alloc (by simp) _
  have p1_0 := p1.c0
  have p1_1 := p1.c1
  have p1_2 := p1.c2
  have p2_0 := p2.c0
  have p2_1 := p2.c1
  have p2_2 := p2.c2
  replace hb : Hid (Below w.heap.size w (((w.alloc (.cells #[.bool c1, .slice sa1 sz1.length sc1, .slice da1 dz1.length dc1] 25)).alloc (.cells #[.bool c2, .slice sa2 sz1.length sc2, .slice da2 dz2.length dc2] 25)).alloc (.cells #[.int .i64 1, .int .i64 2] 3))) := hb.out.alloc hb.out.size _
  replace p1 := p1.al (.cells #[.int .i64 1, .int .i64 2] 3)
  replace p2 := p2.al (.cells #[.int .i64 1, .int .i64 2] 3)
  replace p1_0 := p1.c0
  replace p1_1 := p1.c1
  replace p1_2 := p1.c2
  replace p2_0 := p2.c0
  replace p2_1 := p2.c1
  replace p2_2 := p2.c2
  have nl := new_lit ((w.alloc (.cells #[.bool c1, .slice sa1 sz1.length sc1, .slice da1 dz1.length dc1] 25)).alloc (.cells #[.bool c2, .slice sa2 sz1.length sc2, .slice da2 dz2.length dc2] 25)) 3 [1, 2]
  simp only [World.size_alloc] at nl
  go_enter Try.func3, Try.ntmps3
  go_wp2_with fail
  refine (vec_any (some ⟨w.heap.size + 1 + 1, 0, none⟩) 2 [1, 2] (by simp) _ nl.ints).mono ?_
  rintro e v1 ⟨va, vc, ga, gc, rfl, hV, hG, hB⟩
  replace hb : Hid (Below w.heap.size w v1) := hb.out.trans (hB.mono hb.out.size)
  replace p1 := p1.go hB
  replace p2 := p2.go hB
  replace p1_0 := p1.c0
  replace p1_1 := p1.c1
  replace p1_2 := p1.c2
  replace p2_0 := p2.c0
  replace p2_1 := p2.c1
  replace p2_2 := p2.c2
  clear hB
  clear nl
  go_wp2_with fail
  refine (rv_ok false va vc [2] ga gc [1, 2] _ (by simp) (by simp) hV.ints hG.ints (lit_all (by decide)) HR 0 (by unfold In64; decide) (by decide)).mono ?_
  rintro e v2 ⟨f1, g1, f2, g2, he, _, hY, hB⟩
  replace hb : Hid (Below w.heap.size w v2) := hb.out.trans (hB.mono hb.out.size)
  replace p1 := p1.go hB
  replace p2 := p2.go hB
  replace hV := hV.go hB
  replace hG := hG.go hB
  replace p1_0 := p1.c0
  replace p1_1 := p1.c1
  replace p1_2 := p1.c2
  replace p2_0 := p2.c0
  replace p2_1 := p2.c1
  replace p2_2 := p2.c2
  clear hB
  rw [fact_v] at he hY
  subst he
  replace hb : Hid (Below w.heap.size w (v2.alloc (.cells #[.bool false, .slice f1 1 g1, .slice f2 2 g2] 25))) := hb.out.alloc hb.out.size _
  replace p1 := p1.al (.cells #[.bool false, .slice f1 1 g1, .slice f2 2 g2] 25)
  replace p2 := p2.al (.cells #[.bool false, .slice f1 1 g1, .slice f2 2 g2] 25)
  replace hV := hV.al (.cells #[.bool false, .slice f1 1 g1, .slice f2 2 g2] 25)
  replace hG := hG.al (.cells #[.bool false, .slice f1 1 g1, .slice f2 2 g2] 25)
  replace hY := hY.al (.cells #[.bool false, .slice f1 1 g1, .slice f2 2 g2] 25)
  replace p1_0 := p1.c0
  replace p1_1 := p1.c1
  replace p1_2 := p1.c2
  replace p2_0 := p2.c0
  replace p2_1 := p2.c1
  replace p2_2 := p2.c2
  replace hb : Hid (Below w.heap.size w ((v2.alloc (.cells #[.bool false, .slice f1 1 g1, .slice f2 2 g2] 25)).alloc (.cells #[.int .i64 2, .int .i64 1] 3))) := hb.out.alloc hb.out.size _
  replace p1 := p1.al (.cells #[.int .i64 2, .int .i64 1] 3)
  replace p2 := p2.al (.cells #[.int .i64 2, .int .i64 1] 3)
  replace hV := hV.al (.cells #[.int .i64 2, .int .i64 1] 3)
  replace hG := hG.al (.cells #[.int .i64 2, .int .i64 1] 3)
  replace hY := hY.al (.cells #[.int .i64 2, .int .i64 1] 3)
  replace p1_0 := p1.c0
  replace p1_1 := p1.c1
  replace p1_2 := p1.c2
  replace p2_0 := p2.c0
  replace p2_1 := p2.c1
  replace p2_2 := p2.c2
  have nl := new_lit (v2.alloc (.cells #[.bool false, .slice f1 1 g1, .slice f2 2 g2] 25)) 3 [2, 1]
  simp only [World.size_alloc] at nl
  go_wp2_with fail
  refine (ints_any f2 g2 [2, 1] (some ⟨v2.heap.size + 1, 0, none⟩) 2 [2, 1] (by simp) _ _ hY.ints nl.ints).mono ?_
  rintro e v3 ⟨rfl, hB⟩
  replace hb : Hid (Below w.heap.size w v3) := hb.out.trans (hB.mono hb.out.size)
  replace p1 := p1.go hB
  replace p2 := p2.go hB
  replace hV := hV.go hB
  replace hG := hG.go hB
  replace hY := hY.go hB
  replace p1_0 := p1.c0
  replace p1_1 := p1.c1
  replace p1_2 := p1.c2
  replace p2_0 := p2.c0
  replace p2_1 := p2.c1
  replace p2_2 := p2.c2
  clear hB
  clear nl hY hV hG
  rw [eqB_true rfl]
  go_wp2_with fail
  refine (ints_any sa1 sc1 sz1 sa2 sc2 sz1 x1 _ _ ((HI.out.1.1.1.below hb.out).mono hb.out.size) ((HI.out.2.1.1.below hb.out).mono hb.out.size)).mono ?_
  rintro e v4 ⟨rfl, hB⟩
  replace hb : Hid (Below w.heap.size w v4) := hb.out.trans (hB.mono hb.out.size)
  replace p1 := p1.go hB
  replace p2 := p2.go hB
  replace p1_0 := p1.c0
  replace p1_1 := p1.c1
  replace p1_2 := p1.c2
  replace p2_0 := p2.c0
  replace p2_1 := p2.c1
  replace p2_2 := p2.c2
  clear hB
  go_wp2_with fail
  refine (tc_two H2 f c1 sa1 sc1 sz1 da1 dc1 dz1 c2 sa2 sc2 sz1 da2 dc2 dz2 _ hf x1 x2 ((HI.out.1.1.below hb.out).mono hb.out.size) ((HI.out.1.2.1.below hb.out).mono hb.out.size) ((HI.out.2.1.below hb.out).mono hb.out.size) ((HI.out.2.2.1.below hb.out).mono hb.out.size) HI.out.1.2.2 HI.out.2.2.2 E.out).mono ?_
  rintro e v5 ⟨xa0, xc0, ya0, yc0, rfl, hX0, hY0, hB⟩
  replace hb : Hid (Below w.heap.size w v5) := hb.out.trans (hB.mono hb.out.size)
  replace p1 := p1.go hB
  replace p2 := p2.go hB
  replace p1_0 := p1.c0
  replace p1_1 := p1.c1
  replace p1_2 := p1.c2
  replace p2_0 := p2.c0
  replace p2_1 := p2.c1
  replace p2_2 := p2.c2
  clear hB
  have hXc := OldC.of hX0
  have hYc := OldI.of hY0
  clear hX0 hY0
  have o_p1_bc := p1.lt
  have o_p2_bc := p2.lt
  replace hb : Hid (Below w.heap.size w (v5.alloc (.cells #[.bool false, .slice xa0 sz1.length xc0, .slice ya0 (e2V f c1 sz1 dz1 c2 sz1 dz2).length yc0] 25))) := hb.out.alloc hb.out.size _
  replace p1 := p1.al (.cells #[.bool false, .slice xa0 sz1.length xc0, .slice ya0 (e2V f c1 sz1 dz1 c2 sz1 dz2).length yc0] 25)
  replace p2 := p2.al (.cells #[.bool false, .slice xa0 sz1.length xc0, .slice ya0 (e2V f c1 sz1 dz1 c2 sz1 dz2).length yc0] 25)
  replace hXc := hXc.al (.cells #[.bool false, .slice xa0 sz1.length xc0, .slice ya0 (e2V f c1 sz1 dz1 c2 sz1 dz2).length yc0] 25)
  replace hYc := hYc.al (.cells #[.bool false, .slice xa0 sz1.length xc0, .slice ya0 (e2V f c1 sz1 dz1 c2 sz1 dz2).length yc0] 25)
  replace p1_0 := p1.c0
  replace p1_1 := p1.c1
  replace p1_2 := p1.c2
  replace p2_0 := p2.c0
  replace p2_1 := p2.c1
  replace p2_2 := p2.c2
  have bc := Abx.new v5 (.bool false) (.slice xa0 sz1.length xc0) (.slice ya0 (e2V f c1 sz1 dz1 c2 sz1 dz2).length yc0)
  have bc_0 := bc.c0
  have bc_1 := bc.c1
  have bc_2 := bc.c2
  rw [eqB_true rfl]
  go_wp2_with fail
  refine (rv_no c1 sa1 sc1 sz1 da1 dc1 dz1 _ x1 x2 ((HI.out.1.1.below hb.out).mono hb.out.size) ((HI.out.1.2.1.below hb.out).mono hb.out.size) HI.out.1.2.2 HR x hx F1.out).mono ?_
  rintro e v6 ⟨xa1, xc1, ya1, yc1, rfl, hB⟩
  replace hb : Hid (Below w.heap.size w v6) := hb.out.trans (hB.mono hb.out.size)
  replace p1 := p1.go hB
  replace p2 := p2.go hB
  replace hXc := hXc.go hB
  replace hYc := hYc.go hB
  replace bc := bc.go hB
  replace p1_0 := p1.c0
  replace p1_1 := p1.c1
  replace p1_2 := p1.c2
  replace p2_0 := p2.c0
  replace p2_1 := p2.c1
  replace p2_2 := p2.c2
  replace bc_0 := bc.c0
  replace bc_1 := bc.c1
  replace bc_2 := bc.c2
  clear hB
  have o_p1_bx := p1.lt
  have o_p2_bx := p2.lt
  have o_bc_bx := bc.lt
  replace hb : Hid (Below w.heap.size w (v6.alloc (.cells #[.bool false, .slice xa1 0 xc1, .slice ya1 0 yc1] 25))) := hb.out.alloc hb.out.size _
  replace p1 := p1.al (.cells #[.bool false, .slice xa1 0 xc1, .slice ya1 0 yc1] 25)
  replace p2 := p2.al (.cells #[.bool false, .slice xa1 0 xc1, .slice ya1 0 yc1] 25)
  replace hXc := hXc.al (.cells #[.bool false, .slice xa1 0 xc1, .slice ya1 0 yc1] 25)
  replace hYc := hYc.al (.cells #[.bool false, .slice xa1 0 xc1, .slice ya1 0 yc1] 25)
  replace bc := bc.al (.cells #[.bool false, .slice xa1 0 xc1, .slice ya1 0 yc1] 25)
  replace p1_0 := p1.c0
  replace p1_1 := p1.c1
  replace p1_2 := p1.c2
  replace p2_0 := p2.c0
  replace p2_1 := p2.c1
  replace p2_2 := p2.c2
  replace bc_0 := bc.c0
  replace bc_1 := bc.c1
  replace bc_2 := bc.c2
  have bx := Abx.new v6 (.bool false) (.slice xa1 0 xc1) (.slice ya1 0 yc1)
  have bx_0 := bx.c0
  have bx_1 := bx.c1
  have bx_2 := bx.c2
  go_wp2_with fail
  have l9_p1 := p1.lt
  have l9_p2 := p2.lt
  have l9_bc := bc.lt
  have l9_bx := bx.lt
  refine (fl_ok c1 sa1 sc1 sz1 da1 dc1 dz1 _ x1 x2 ((HI.out.1.1.below hb.out).mono hb.out.size) ((HI.out.1.2.1.below hb.out).mono hb.out.size) HI.out.1.2.2 HF pa pc p hpl ((HP.out.below hb.out).mono hb.out.size) F2.out).mono ?_
  rintro e v7 ⟨xa9, xc9, ya9, yc9, rfl, hX9, hY9, hB⟩
  replace hb : Hid (Below w.heap.size w v7) := hb.out.trans (hB.mono hb.out.size)
  replace p1 := p1.go hB
  replace p2 := p2.go hB
  replace hXc := hXc.go hB
  replace hYc := hYc.go hB
  replace bc := bc.go hB
  replace bx := bx.go hB
  replace p1_0 := p1.c0
  replace p1_1 := p1.c1
  replace p1_2 := p1.c2
  replace p2_0 := p2.c0
  replace p2_1 := p2.c1
  replace p2_2 := p2.c2
  replace bc_0 := bc.c0
  replace bc_1 := bc.c1
  replace bc_2 := bc.c2
  replace bx_0 := bx.c0
  replace bx_1 := bx.c1
  replace bx_2 := bx.c2
  clear hB
  have fz_0 := bx.fr 0
  have fz_1 := bx.fr 1
  have fz_2 := bx.fr 2
  have N_p1 := p1.ne3 (B := v6.heap.size) (by exact Nat.ne_of_lt o_p1_bx) (.bool c1) (.slice xa9 (axVal sz1 p).length xc9) (.slice ya9 (flG p sz1 dz1).length yc9)
  have N_p2 := p2.ne3 (B := v6.heap.size) (by exact Nat.ne_of_lt o_p2_bx) (.bool c1) (.slice xa9 (axVal sz1 p).length xc9) (.slice ya9 (flG p sz1 dz1).length yc9)
  have N_hXc := hXc.set3 (B := v6.heap.size) (Nat.le_of_lt o_bc_bx) (.bool c1) (.slice xa9 (axVal sz1 p).length xc9) (.slice ya9 (flG p sz1 dz1).length yc9)
  have N_hYc := hYc.set3 (B := v6.heap.size) (Nat.le_of_lt o_bc_bx) (.bool c1) (.slice xa9 (axVal sz1 p).length xc9) (.slice ya9 (flG p sz1 dz1).length yc9)
  have N_bc := bc.ne3 (B := v6.heap.size) (by exact Nat.ne_of_lt o_bc_bx) (.bool c1) (.slice xa9 (axVal sz1 p).length xc9) (.slice ya9 (flG p sz1 dz1).length yc9)
  have N_bx := bx.set3 (.bool c1) (.slice xa9 (axVal sz1 p).length xc9) (.slice ya9 (flG p sz1 dz1).length yc9)
  have N_hX9 := hX9.set3 (b := v6.heap.size) l9_bx (.bool c1) (.slice xa9 (axVal sz1 p).length xc9) (.slice ya9 (flG p sz1 dz1).length yc9)
  have N_hY9 := hY9.set3 (b := v6.heap.size) l9_bx (.bool c1) (.slice xa9 (axVal sz1 p).length xc9) (.slice ya9 (flG p sz1 dz1).length yc9)
  have N_hb : Hid (Below w.heap.size w (((v7.setCell ⟨v6.heap.size, 0, none⟩ (.bool c1)).setCell ⟨v6.heap.size, 1, none⟩ (.slice xa9 (axVal sz1 p).length xc9)).setCell ⟨v6.heap.size, 2, none⟩ (.slice ya9 (flG p sz1 dz1).length yc9))) := bel_set3 hb.out (Nat.le_of_lt o_p1_bx) (.bool c1) (.slice xa9 (axVal sz1 p).length xc9) (.slice ya9 (flG p sz1 dz1).length yc9)
  have N_p1_0 := N_p1.c0
  have N_p1_1 := N_p1.c1
  have N_p1_2 := N_p1.c2
  have N_p2_0 := N_p2.c0
  have N_p2_1 := N_p2.c1
  have N_p2_2 := N_p2.c2
  have N_bc_0 := N_bc.c0
  have N_bc_1 := N_bc.c1
  have N_bc_2 := N_bc.c2
  have N_bx_0 := N_bx.c0
  have N_bx_1 := N_bx.c1
  have N_bx_2 := N_bx.c2
  go_wp2_with fail
  clear fz_0 fz_1 fz_2 hb p1 p2 hXc hYc bc bx hX9 hY9 p1_0 p1_1 p1_2 p2_0 p2_1 p2_2 bc_0 bc_1 bc_2 bx_0 bx_1 bx_2
  have hb := N_hb
  have p1 := N_p1
  have p2 := N_p2
  have hXc := N_hXc
  have hYc := N_hYc
  have bc := N_bc
  have bx := N_bx
  have hX9 := N_hX9
  have hY9 := N_hY9
  have p1_0 := N_p1_0
  have p1_1 := N_p1_1
  have p1_2 := N_p1_2
  have p2_0 := N_p2_0
  have p2_1 := N_p2_1
  have p2_2 := N_p2_2
  have bc_0 := N_bc_0
  have bc_1 := N_bc_1
  have bc_2 := N_bc_2
  have bx_0 := N_bx_0
  have bx_1 := N_bx_1
  have bx_2 := N_bx_2
  clear N_hb N_p1 N_p2 N_hXc N_hYc N_bc N_bx N_hX9 N_hY9 N_p1_0 N_p1_1 N_p1_2 N_p2_0 N_p2_1 N_p2_2 N_bc_0 N_bc_1 N_bc_2 N_bx_0 N_bx_1 N_bx_2
  have l10_p1 := p1.lt
  have l10_p2 := p2.lt
  have l10_bc := bc.lt
  have l10_bx := bx.lt
  refine (fl_ok c2 sa2 sc2 sz1 da2 dc2 dz2 _ x1 y2 ((HI.out.2.1.below hb.out).mono hb.out.size) ((HI.out.2.2.1.below hb.out).mono hb.out.size) HI.out.2.2.2 HF pa pc p hpl ((HP.out.below hb.out).mono hb.out.size) (tc_fl E.out F2.out).1).mono ?_
  rintro e v8 ⟨xa10, xc10, ya10, yc10, rfl, hX10, hY10, hB⟩
  replace hb : Hid (Below w.heap.size w v8) := hb.out.trans (hB.mono hb.out.size)
  replace p1 := p1.go hB
  replace p2 := p2.go hB
  replace hXc := hXc.go hB
  replace hYc := hYc.go hB
  replace bc := bc.go hB
  replace bx := bx.go hB
  replace hX9 := hX9.go hB
  replace hY9 := hY9.go hB
  replace p1_0 := p1.c0
  replace p1_1 := p1.c1
  replace p1_2 := p1.c2
  replace p2_0 := p2.c0
  replace p2_1 := p2.c1
  replace p2_2 := p2.c2
  replace bc_0 := bc.c0
  replace bc_1 := bc.c1
  replace bc_2 := bc.c2
  replace bx_0 := bx.c0
  replace bx_1 := bx.c1
  replace bx_2 := bx.c2
  clear hB
  have o_p1_bm := p1.lt
  have o_p2_bm := p2.lt
  have o_bc_bm := bc.lt
  have o_bx_bm := bx.lt
  replace hb : Hid (Below w.heap.size w (v8.alloc (.cells #[.bool c2, .slice xa10 (axVal sz1 p).length xc10, .slice ya10 (flG p sz1 dz2).length yc10] 25))) := hb.out.alloc hb.out.size _
  replace p1 := p1.al (.cells #[.bool c2, .slice xa10 (axVal sz1 p).length xc10, .slice ya10 (flG p sz1 dz2).length yc10] 25)
  replace p2 := p2.al (.cells #[.bool c2, .slice xa10 (axVal sz1 p).length xc10, .slice ya10 (flG p sz1 dz2).length yc10] 25)
  replace hXc := hXc.al (.cells #[.bool c2, .slice xa10 (axVal sz1 p).length xc10, .slice ya10 (flG p sz1 dz2).length yc10] 25)
  replace hYc := hYc.al (.cells #[.bool c2, .slice xa10 (axVal sz1 p).length xc10, .slice ya10 (flG p sz1 dz2).length yc10] 25)
  replace bc := bc.al (.cells #[.bool c2, .slice xa10 (axVal sz1 p).length xc10, .slice ya10 (flG p sz1 dz2).length yc10] 25)
  replace bx := bx.al (.cells #[.bool c2, .slice xa10 (axVal sz1 p).length xc10, .slice ya10 (flG p sz1 dz2).length yc10] 25)
  replace hX9 := hX9.al (.cells #[.bool c2, .slice xa10 (axVal sz1 p).length xc10, .slice ya10 (flG p sz1 dz2).length yc10] 25)
  replace hY9 := hY9.al (.cells #[.bool c2, .slice xa10 (axVal sz1 p).length xc10, .slice ya10 (flG p sz1 dz2).length yc10] 25)
  replace hX10 := hX10.al (.cells #[.bool c2, .slice xa10 (axVal sz1 p).length xc10, .slice ya10 (flG p sz1 dz2).length yc10] 25)
  replace hY10 := hY10.al (.cells #[.bool c2, .slice xa10 (axVal sz1 p).length xc10, .slice ya10 (flG p sz1 dz2).length yc10] 25)
  replace p1_0 := p1.c0
  replace p1_1 := p1.c1
  replace p1_2 := p1.c2
  replace p2_0 := p2.c0
  replace p2_1 := p2.c1
  replace p2_2 := p2.c2
  replace bc_0 := bc.c0
  replace bc_1 := bc.c1
  replace bc_2 := bc.c2
  replace bx_0 := bx.c0
  replace bx_1 := bx.c1
  replace bx_2 := bx.c2
  have bm := Abx.new v8 (.bool c2) (.slice xa10 (axVal sz1 p).length xc10) (.slice ya10 (flG p sz1 dz2).length yc10)
  have bm_0 := bm.c0
  have bm_1 := bm.c1
  have bm_2 := bm.c2
  go_wp2_with fail
  have l11_p1 := p1.lt
  have l11_p2 := p2.lt
  have l11_bc := bc.lt
  have l11_bx := bx.lt
  have l11_bm := bm.lt
  refine (fl_ok false xa0 xc0 sz1 ya0 yc0 (e2V f c1 sz1 dz1 c2 sz1 dz2) _ x1 (tu_len (tc_c E.out).2.2.1).2 hXc.ints hYc.ints (e2V_64 E.out HI.out.1.2.2 HI.out.2.2.2) HF pa pc p hpl ((HP.out.below hb.out).mono hb.out.size) (tc_fl E.out F2.out).2.1).mono ?_
  rintro e v9 ⟨xa11, xc11, ya11, yc11, rfl, hX11, hY11, hB⟩
  replace hb : Hid (Below w.heap.size w v9) := hb.out.trans (hB.mono hb.out.size)
  replace p1 := p1.go hB
  replace p2 := p2.go hB
  replace hXc := hXc.go hB
  replace hYc := hYc.go hB
  replace bc := bc.go hB
  replace bx := bx.go hB
  replace hX9 := hX9.go hB
  replace hY9 := hY9.go hB
  replace hX10 := hX10.go hB
  replace hY10 := hY10.go hB
  replace bm := bm.go hB
  replace p1_0 := p1.c0
  replace p1_1 := p1.c1
  replace p1_2 := p1.c2
  replace p2_0 := p2.c0
  replace p2_1 := p2.c1
  replace p2_2 := p2.c2
  replace bc_0 := bc.c0
  replace bc_1 := bc.c1
  replace bc_2 := bc.c2
  replace bx_0 := bx.c0
  replace bx_1 := bx.c1
  replace bx_2 := bx.c2
  replace bm_0 := bm.c0
  replace bm_1 := bm.c1
  replace bm_2 := bm.c2
  clear hB
  have o_p1_bn := p1.lt
  have o_p2_bn := p2.lt
  have o_bc_bn := bc.lt
  have o_bx_bn := bx.lt
  have o_bm_bn := bm.lt
  replace hb : Hid (Below w.heap.size w (v9.alloc (.cells #[.bool false, .slice xa11 (axVal sz1 p).length xc11, .slice ya11 (flG p sz1 (e2V f c1 sz1 dz1 c2 sz1 dz2)).length yc11] 25))) := hb.out.alloc hb.out.size _
  replace p1 := p1.al (.cells #[.bool false, .slice xa11 (axVal sz1 p).length xc11, .slice ya11 (flG p sz1 (e2V f c1 sz1 dz1 c2 sz1 dz2)).length yc11] 25)
  replace p2 := p2.al (.cells #[.bool false, .slice xa11 (axVal sz1 p).length xc11, .slice ya11 (flG p sz1 (e2V f c1 sz1 dz1 c2 sz1 dz2)).length yc11] 25)
  replace hXc := hXc.al (.cells #[.bool false, .slice xa11 (axVal sz1 p).length xc11, .slice ya11 (flG p sz1 (e2V f c1 sz1 dz1 c2 sz1 dz2)).length yc11] 25)
  replace hYc := hYc.al (.cells #[.bool false, .slice xa11 (axVal sz1 p).length xc11, .slice ya11 (flG p sz1 (e2V f c1 sz1 dz1 c2 sz1 dz2)).length yc11] 25)
  replace bc := bc.al (.cells #[.bool false, .slice xa11 (axVal sz1 p).length xc11, .slice ya11 (flG p sz1 (e2V f c1 sz1 dz1 c2 sz1 dz2)).length yc11] 25)
  replace bx := bx.al (.cells #[.bool false, .slice xa11 (axVal sz1 p).length xc11, .slice ya11 (flG p sz1 (e2V f c1 sz1 dz1 c2 sz1 dz2)).length yc11] 25)
  replace hX9 := hX9.al (.cells #[.bool false, .slice xa11 (axVal sz1 p).length xc11, .slice ya11 (flG p sz1 (e2V f c1 sz1 dz1 c2 sz1 dz2)).length yc11] 25)
  replace hY9 := hY9.al (.cells #[.bool false, .slice xa11 (axVal sz1 p).length xc11, .slice ya11 (flG p sz1 (e2V f c1 sz1 dz1 c2 sz1 dz2)).length yc11] 25)
  replace hX10 := hX10.al (.cells #[.bool false, .slice xa11 (axVal sz1 p).length xc11, .slice ya11 (flG p sz1 (e2V f c1 sz1 dz1 c2 sz1 dz2)).length yc11] 25)
  replace hY10 := hY10.al (.cells #[.bool false, .slice xa11 (axVal sz1 p).length xc11, .slice ya11 (flG p sz1 (e2V f c1 sz1 dz1 c2 sz1 dz2)).length yc11] 25)
  replace bm := bm.al (.cells #[.bool false, .slice xa11 (axVal sz1 p).length xc11, .slice ya11 (flG p sz1 (e2V f c1 sz1 dz1 c2 sz1 dz2)).length yc11] 25)
  replace hX11 := hX11.al (.cells #[.bool false, .slice xa11 (axVal sz1 p).length xc11, .slice ya11 (flG p sz1 (e2V f c1 sz1 dz1 c2 sz1 dz2)).length yc11] 25)
  replace hY11 := hY11.al (.cells #[.bool false, .slice xa11 (axVal sz1 p).length xc11, .slice ya11 (flG p sz1 (e2V f c1 sz1 dz1 c2 sz1 dz2)).length yc11] 25)
  replace p1_0 := p1.c0
  replace p1_1 := p1.c1
  replace p1_2 := p1.c2
  replace p2_0 := p2.c0
  replace p2_1 := p2.c1
  replace p2_2 := p2.c2
  replace bc_0 := bc.c0
  replace bc_1 := bc.c1
  replace bc_2 := bc.c2
  replace bx_0 := bx.c0
  replace bx_1 := bx.c1
  replace bx_2 := bx.c2
  replace bm_0 := bm.c0
  replace bm_1 := bm.c1
  replace bm_2 := bm.c2
  have bn := Abx.new v9 (.bool false) (.slice xa11 (axVal sz1 p).length xc11) (.slice ya11 (flG p sz1 (e2V f c1 sz1 dz1 c2 sz1 dz2)).length yc11)
  have bn_0 := bn.c0
  have bn_1 := bn.c1
  have bn_2 := bn.c2
  go_wp2_with fail
  have l12_p1 := p1.lt
  have l12_p2 := p2.lt
  have l12_bc := bc.lt
  have l12_bx := bx.lt
  have l12_bm := bm.lt
  have l12_bn := bn.lt
  refine (tc_two2 H2 f c1 xa9 xc9 (axVal sz1 p) ya9 yc9 (flG p sz1 dz1) c2 xa10 xc10 ya10 yc10 (flG p sz1 dz2) _ hf (tu_len (fl_flaw F2.out)).1 (tu_len (fl_flaw F2.out)).2 (tu_len (fl_flaw (tc_fl E.out F2.out).1)).2 hX9.ints hY9.ints hX10.ints hY10.ints (GA_64 HI.out.1.2.2) (GA_64 HI.out.2.2.2) (tc_fl E.out F2.out).2.2.1).mono ?_
  rintro e v10 ⟨xa12, xc12, ya12, yc12, rfl, hX12, hY12, hB⟩
  replace hb : Hid (Below w.heap.size w v10) := hb.out.trans (hB.mono hb.out.size)
  replace p1 := p1.go hB
  replace p2 := p2.go hB
  replace hXc := hXc.go hB
  replace hYc := hYc.go hB
  replace bc := bc.go hB
  replace bx := bx.go hB
  replace hX9 := hX9.go hB
  replace hY9 := hY9.go hB
  replace hX10 := hX10.go hB
  replace hY10 := hY10.go hB
  replace bm := bm.go hB
  replace hX11 := hX11.go hB
  replace hY11 := hY11.go hB
  replace bn := bn.go hB
  replace p1_0 := p1.c0
  replace p1_1 := p1.c1
  replace p1_2 := p1.c2
  replace p2_0 := p2.c0
  replace p2_1 := p2.c1
  replace p2_2 := p2.c2
  replace bc_0 := bc.c0
  replace bc_1 := bc.c1
  replace bc_2 := bc.c2
  replace bx_0 := bx.c0
  replace bx_1 := bx.c1
  replace bx_2 := bx.c2
  replace bm_0 := bm.c0
  replace bm_1 := bm.c1
  replace bm_2 := bm.c2
  replace bn_0 := bn.c0
  replace bn_1 := bn.c1
  replace bn_2 := bn.c2
  clear hB
  have o_p1_bo := p1.lt
  have o_p2_bo := p2.lt
  have o_bc_bo := bc.lt
  have o_bx_bo := bx.lt
  have o_bm_bo := bm.lt
  have o_bn_bo := bn.lt
  replace hb : Hid (Below w.heap.size w (v10.alloc (.cells #[.bool false, .slice xa12 (axVal sz1 p).length xc12, .slice ya12 (e2V f c1 (axVal sz1 p) (flG p sz1 dz1) c2 (axVal sz1 p) (flG p sz1 dz2)).length yc12] 25))) := hb.out.alloc hb.out.size _
  replace p1 := p1.al (.cells #[.bool false, .slice xa12 (axVal sz1 p).length xc12, .slice ya12 (e2V f c1 (axVal sz1 p) (flG p sz1 dz1) c2 (axVal sz1 p) (flG p sz1 dz2)).length yc12] 25)
  replace p2 := p2.al (.cells #[.bool false, .slice xa12 (axVal sz1 p).length xc12, .slice ya12 (e2V f c1 (axVal sz1 p) (flG p sz1 dz1) c2 (axVal sz1 p) (flG p sz1 dz2)).length yc12] 25)
  replace hXc := hXc.al (.cells #[.bool false, .slice xa12 (axVal sz1 p).length xc12, .slice ya12 (e2V f c1 (axVal sz1 p) (flG p sz1 dz1) c2 (axVal sz1 p) (flG p sz1 dz2)).length yc12] 25)
  replace hYc := hYc.al (.cells #[.bool false, .slice xa12 (axVal sz1 p).length xc12, .slice ya12 (e2V f c1 (axVal sz1 p) (flG p sz1 dz1) c2 (axVal sz1 p) (flG p sz1 dz2)).length yc12] 25)
  replace bc := bc.al (.cells #[.bool false, .slice xa12 (axVal sz1 p).length xc12, .slice ya12 (e2V f c1 (axVal sz1 p) (flG p sz1 dz1) c2 (axVal sz1 p) (flG p sz1 dz2)).length yc12] 25)
  replace bx := bx.al (.cells #[.bool false, .slice xa12 (axVal sz1 p).length xc12, .slice ya12 (e2V f c1 (axVal sz1 p) (flG p sz1 dz1) c2 (axVal sz1 p) (flG p sz1 dz2)).length yc12] 25)
  replace hX9 := hX9.al (.cells #[.bool false, .slice xa12 (axVal sz1 p).length xc12, .slice ya12 (e2V f c1 (axVal sz1 p) (flG p sz1 dz1) c2 (axVal sz1 p) (flG p sz1 dz2)).length yc12] 25)
  replace hY9 := hY9.al (.cells #[.bool false, .slice xa12 (axVal sz1 p).length xc12, .slice ya12 (e2V f c1 (axVal sz1 p) (flG p sz1 dz1) c2 (axVal sz1 p) (flG p sz1 dz2)).length yc12] 25)
  replace hX10 := hX10.al (.cells #[.bool false, .slice xa12 (axVal sz1 p).length xc12, .slice ya12 (e2V f c1 (axVal sz1 p) (flG p sz1 dz1) c2 (axVal sz1 p) (flG p sz1 dz2)).length yc12] 25)
  replace hY10 := hY10.al (.cells #[.bool false, .slice xa12 (axVal sz1 p).length xc12, .slice ya12 (e2V f c1 (axVal sz1 p) (flG p sz1 dz1) c2 (axVal sz1 p) (flG p sz1 dz2)).length yc12] 25)
  replace bm := bm.al (.cells #[.bool false, .slice xa12 (axVal sz1 p).length xc12, .slice ya12 (e2V f c1 (axVal sz1 p) (flG p sz1 dz1) c2 (axVal sz1 p) (flG p sz1 dz2)).length yc12] 25)
  replace hX11 := hX11.al (.cells #[.bool false, .slice xa12 (axVal sz1 p).length xc12, .slice ya12 (e2V f c1 (axVal sz1 p) (flG p sz1 dz1) c2 (axVal sz1 p) (flG p sz1 dz2)).length yc12] 25)
  replace hY11 := hY11.al (.cells #[.bool false, .slice xa12 (axVal sz1 p).length xc12, .slice ya12 (e2V f c1 (axVal sz1 p) (flG p sz1 dz1) c2 (axVal sz1 p) (flG p sz1 dz2)).length yc12] 25)
  replace bn := bn.al (.cells #[.bool false, .slice xa12 (axVal sz1 p).length xc12, .slice ya12 (e2V f c1 (axVal sz1 p) (flG p sz1 dz1) c2 (axVal sz1 p) (flG p sz1 dz2)).length yc12] 25)
  replace hX12 := hX12.al (.cells #[.bool false, .slice xa12 (axVal sz1 p).length xc12, .slice ya12 (e2V f c1 (axVal sz1 p) (flG p sz1 dz1) c2 (axVal sz1 p) (flG p sz1 dz2)).length yc12] 25)
  replace hY12 := hY12.al (.cells #[.bool false, .slice xa12 (axVal sz1 p).length xc12, .slice ya12 (e2V f c1 (axVal sz1 p) (flG p sz1 dz1) c2 (axVal sz1 p) (flG p sz1 dz2)).length yc12] 25)
  replace p1_0 := p1.c0
  replace p1_1 := p1.c1
  replace p1_2 := p1.c2
  replace p2_0 := p2.c0
  replace p2_1 := p2.c1
  replace p2_2 := p2.c2
  replace bc_0 := bc.c0
  replace bc_1 := bc.c1
  replace bc_2 := bc.c2
  replace bx_0 := bx.c0
  replace bx_1 := bx.c1
  replace bx_2 := bx.c2
  replace bm_0 := bm.c0
  replace bm_1 := bm.c1
  replace bm_2 := bm.c2
  replace bn_0 := bn.c0
  replace bn_1 := bn.c1
  replace bn_2 := bn.c2
  have bo := Abx.new v10 (.bool false) (.slice xa12 (axVal sz1 p).length xc12) (.slice ya12 (e2V f c1 (axVal sz1 p) (flG p sz1 dz1) c2 (axVal sz1 p) (flG p sz1 dz2)).length yc12)
  have bo_0 := bo.c0
  have bo_1 := bo.c1
  have bo_2 := bo.c2
  go_wp2_with fail
  refine (alike_eq false xa12 xc12 (axVal sz1 p) ya12 yc12 (e2V f c1 (axVal sz1 p) (flG p sz1 dz1) c2 (axVal sz1 p) (flG p sz1 dz2)) xa11 xc11 (axVal sz1 p) ya11 yc11 (flG p sz1 (e2V f c1 sz1 dz1 c2 sz1 dz2)) rfl ((tc_fl E.out F2.out).2.2.2).symm (tu_len (tc_c (tc_fl E.out F2.out).2.2.1).2.2.1).1 (tu_len (tc_c (tc_fl E.out F2.out).2.2.1).2.2.1).2 _ hX12.ints hY12.ints hX11.ints hY11.ints).mono ?_
  rintro e v11 ⟨rfl, hB⟩
  replace hb : Hid (Below w.heap.size w v11) := hb.out.trans (hB.mono hb.out.size)
  replace p1 := p1.go hB
  replace p2 := p2.go hB
  replace hXc := hXc.go hB
  replace hYc := hYc.go hB
  replace bc := bc.go hB
  replace bx := bx.go hB
  replace hX9 := hX9.go hB
  replace hY9 := hY9.go hB
  replace hX10 := hX10.go hB
  replace hY10 := hY10.go hB
  replace bm := bm.go hB
  replace hX11 := hX11.go hB
  replace hY11 := hY11.go hB
  replace bn := bn.go hB
  replace hX12 := hX12.go hB
  replace hY12 := hY12.go hB
  replace bo := bo.go hB
  replace p1_0 := p1.c0
  replace p1_1 := p1.c1
  replace p1_2 := p1.c2
  replace p2_0 := p2.c0
  replace p2_1 := p2.c1
  replace p2_2 := p2.c2
  replace bc_0 := bc.c0
  replace bc_1 := bc.c1
  replace bc_2 := bc.c2
  replace bx_0 := bx.c0
  replace bx_1 := bx.c1
  replace bx_2 := bx.c2
  replace bm_0 := bm.c0
  replace bm_1 := bm.c1
  replace bm_2 := bm.c2
  replace bn_0 := bn.c0
  replace bn_1 := bn.c1
  replace bn_2 := bn.c2
  replace bo_0 := bo.c0
  replace bo_1 := bo.c1
  replace bo_2 := bo.c2
  clear hB
  go_wp2_with fail
  go_ret
  exact ⟨rfl, hb.out⟩
set_option maxRecDepth 100000 in
set_option maxHeartbeats 40000000 in
theorem cells_on (HR : CRv) (HT : CRt) (HF : CFl) (H2 : C2c) (f n x : Int) (hf : In64 f) (hn : In64 n) (hx : In64 x) (pa : Option Addr) (pc : Nat) (p : List Int) (hpl : p.length ≤ 9223372036854775807) (c1 : Bool) (sa1 : Option Addr) (sc1 : Nat) (sz1 : List Int) (da1 : Option Addr) (dc1 : Nat) (dz1 : List Int) (c2 : Bool) (sa2 : Option Addr) (sc2 : Nat) (da2 : Option Addr) (dc2 : Nat) (dz2 : List Int) (w : World) (hp : IsInts w.heap.size w pa p) (w9 : IsArrC w sa1 sz1 sc1 da1 dz1) (w8 : IsArrC w sa2 sz1 sc2 da2 dz2) (E : Hid (e2E f c1 sz1 dz1 c2 sz1 dz2 = 0)) (F1 : Hid (axE x c1 sz1 dz1 = 0)) (F2 : Hid (flE p c1 sz1 dz1 ≠ 0)) :
    Calls Try.prog 3 #[.int .i64 f, .int .i64 n, .int .i64 x, .slice pa p.length pc, .agg #[.bool c1, .slice sa1 sz1.length sc1, .slice da1 dz1.length dc1], .agg #[.bool c2, .slice sa2 sz1.length sc2, .slice da2 dz2.length dc2]] w fun e w' => e = .returned (.bool true) ∧ Below w.heap.size w w' := by
  obtain ⟨x1, x2, x3, x4, _, T⟩ := w9
  obtain ⟨y1, y2, y3, y4, _, T'⟩ := w8
  have HI : Hid ((IsC w.heap.size w sa1 sz1 sc1 ∧ IsInts w.heap.size w da1 dz1 ∧ ∀ j, In64 (nth dz1 j)) ∧ (IsC w.heap.size w sa2 sz1 sc2 ∧ IsInts w.heap.size w da2 dz2 ∧ ∀ j, In64 (nth dz2 j))) := ⟨⟨x3, x4, T⟩, y3, y4, T'⟩
  have HP : Hid (IsInts w.heap.size w pa p) := hp
  clear x3 x4 T y3 y4 T' hp
  have p1 : Abx ((w.alloc (.cells #[.bool c1, .slice sa1 sz1.length sc1, .slice da1 dz1.length dc1] 25)).alloc (.cells #[.bool c2, .slice sa2 sz1.length sc2, .slice da2 dz2.length dc2] 25)) w.heap.size (.bool c1) (.slice sa1 sz1.length sc1) (.slice da1 dz1.length dc1) := (Abx.new w _ _ _).al _
  have p2 : Abx ((w.alloc (.cells #[.bool c1, .slice sa1 sz1.length sc1, .slice da1 dz1.length dc1] 25)).alloc (.cells #[.bool c2, .slice sa2 sz1.length sc2, .slice da2 dz2.length dc2] 25)) (w.heap.size + 1) (.bool c2) (.slice sa2 sz1.length sc2) (.slice da2 dz2.length dc2) := Abx.new1 w _ _ _ _
  have hb : Hid (Below w.heap.size w ((w.alloc (.cells #[.bool c1, .slice sa1 sz1.length sc1, .slice da1 dz1.length dc1] 25)).alloc (.cells #[.bool c2, .slice sa2 sz1.length sc2, .slice da2 dz2.length dc2] 25))) := ((Below.refl _ w).alloc (Nat.le_refl _) _).alloc (by simp) _
  have p1_0 := p1.c0
  have p1_1 := p1.c1
  have p1_2 := p1.c2
  have p2_0 := p2.c0
  have p2_1 := p2.c1
  have p2_2 := p2.c2
  replace hb : Hid (Below w.heap.size w (((w.alloc (.cells #[.bool c1, .slice sa1 sz1.length sc1, .slice da1 dz1.length dc1] 25)).alloc (.cells #[.bool c2, .slice sa2 sz1.length sc2, .slice da2 dz2.length dc2] 25)).alloc (.cells #[.int .i64 1, .int .i64 2] 3))) := hb.out.alloc hb.out.size _
  replace p1 := p1.al (.cells #[.int .i64 1, .int .i64 2] 3)
  replace p2 := p2.al (.cells #[.int .i64 1, .int .i64 2] 3)
  replace p1_0 := p1.c0
  replace p1_1 := p1.c1
  replace p1_2 := p1.c2
  replace p2_0 := p2.c0
  replace p2_1 := p2.c1
  replace p2_2 := p2.c2
  have nl := new_lit ((w.alloc (.cells #[.bool c1, .slice sa1 sz1.length sc1, .slice da1 dz1.length dc1] 25)).alloc (.cells #[.bool c2, .slice sa2 sz1.length sc2, .slice da2 dz2.length dc2] 25)) 3 [1, 2]
  simp only [World.size_alloc] at nl
  go_enter Try.func3, Try.ntmps3
  go_wp2_with fail
  refine (vec_any (some ⟨w.heap.size + 1 + 1, 0, none⟩) 2 [1, 2] (by simp) _ nl.ints).mono ?_
  rintro e v1 ⟨va, vc, ga, gc, rfl, hV, hG, hB⟩
  replace hb : Hid (Below w.heap.size w v1) := hb.out.trans (hB.mono hb.out.size)
  replace p1 := p1.go hB
  replace p2 := p2.go hB
  replace p1_0 := p1.c0
  replace p1_1 := p1.c1
  replace p1_2 := p1.c2
  replace p2_0 := p2.c0
  replace p2_1 := p2.c1
  replace p2_2 := p2.c2
  clear hB
  clear nl
  go_wp2_with fail
  refine (rv_ok false va vc [2] ga gc [1, 2] _ (by simp) (by simp) hV.ints hG.ints (lit_all (by decide)) HR 0 (by unfold In64; decide) (by decide)).mono ?_
  rintro e v2 ⟨f1, g1, f2, g2, he, _, hY, hB⟩
  replace hb : Hid (Below w.heap.size w v2) := hb.out.trans (hB.mono hb.out.size)
  replace p1 := p1.go hB
  replace p2 := p2.go hB
  replace hV := hV.go hB
  replace hG := hG.go hB
  replace p1_0 := p1.c0
  replace p1_1 := p1.c1
  replace p1_2 := p1.c2
  replace p2_0 := p2.c0
  replace p2_1 := p2.c1
  replace p2_2 := p2.c2
  clear hB
  rw [fact_v] at he hY
  subst he
  replace hb : Hid (Below w.heap.size w (v2.alloc (.cells #[.bool false, .slice f1 1 g1, .slice f2 2 g2] 25))) := hb.out.alloc hb.out.size _
  replace p1 := p1.al (.cells #[.bool false, .slice f1 1 g1, .slice f2 2 g2] 25)
  replace p2 := p2.al (.cells #[.bool false, .slice f1 1 g1, .slice f2 2 g2] 25)
  replace hV := hV.al (.cells #[.bool false, .slice f1 1 g1, .slice f2 2 g2] 25)
  replace hG := hG.al (.cells #[.bool false, .slice f1 1 g1, .slice f2 2 g2] 25)
  replace hY := hY.al (.cells #[.bool false, .slice f1 1 g1, .slice f2 2 g2] 25)
  replace p1_0 := p1.c0
  replace p1_1 := p1.c1
  replace p1_2 := p1.c2
  replace p2_0 := p2.c0
  replace p2_1 := p2.c1
  replace p2_2 := p2.c2
  replace hb : Hid (Below w.heap.size w ((v2.alloc (.cells #[.bool false, .slice f1 1 g1, .slice f2 2 g2] 25)).alloc (.cells #[.int .i64 2, .int .i64 1] 3))) := hb.out.alloc hb.out.size _
  replace p1 := p1.al (.cells #[.int .i64 2, .int .i64 1] 3)
  replace p2 := p2.al (.cells #[.int .i64 2, .int .i64 1] 3)
  replace hV := hV.al (.cells #[.int .i64 2, .int .i64 1] 3)
  replace hG := hG.al (.cells #[.int .i64 2, .int .i64 1] 3)
  replace hY := hY.al (.cells #[.int .i64 2, .int .i64 1] 3)
  replace p1_0 := p1.c0
  replace p1_1 := p1.c1
  replace p1_2 := p1.c2
  replace p2_0 := p2.c0
  replace p2_1 := p2.c1
  replace p2_2 := p2.c2
  have nl := new_lit (v2.alloc (.cells #[.bool false, .slice f1 1 g1, .slice f2 2 g2] 25)) 3 [2, 1]
  simp only [World.size_alloc] at nl
  go_wp2_with fail
  refine (ints_any f2 g2 [2, 1] (some ⟨v2.heap.size + 1, 0, none⟩) 2 [2, 1] (by simp) _ _ hY.ints nl.ints).mono ?_
  rintro e v3 ⟨rfl, hB⟩
  replace hb : Hid (Below w.heap.size w v3) := hb.out.trans (hB.mono hb.out.size)
  replace p1 := p1.go hB
  replace p2 := p2.go hB
  replace hV := hV.go hB
  replace hG := hG.go hB
  replace hY := hY.go hB
  replace p1_0 := p1.c0
  replace p1_1 := p1.c1
  replace p1_2 := p1.c2
  replace p2_0 := p2.c0
  replace p2_1 := p2.c1
  replace p2_2 := p2.c2
  clear hB
  clear nl hY hV hG
  rw [eqB_true rfl]
  go_wp2_with fail
  refine (ints_any sa1 sc1 sz1 sa2 sc2 sz1 x1 _ _ ((HI.out.1.1.1.below hb.out).mono hb.out.size) ((HI.out.2.1.1.below hb.out).mono hb.out.size)).mono ?_
  rintro e v4 ⟨rfl, hB⟩
  replace hb : Hid (Below w.heap.size w v4) := hb.out.trans (hB.mono hb.out.size)
  replace p1 := p1.go hB
  replace p2 := p2.go hB
  replace p1_0 := p1.c0
  replace p1_1 := p1.c1
  replace p1_2 := p1.c2
  replace p2_0 := p2.c0
  replace p2_1 := p2.c1
  replace p2_2 := p2.c2
  clear hB
  go_wp2_with fail
  refine (tc_two H2 f c1 sa1 sc1 sz1 da1 dc1 dz1 c2 sa2 sc2 sz1 da2 dc2 dz2 _ hf x1 x2 ((HI.out.1.1.below hb.out).mono hb.out.size) ((HI.out.1.2.1.below hb.out).mono hb.out.size) ((HI.out.2.1.below hb.out).mono hb.out.size) ((HI.out.2.2.1.below hb.out).mono hb.out.size) HI.out.1.2.2 HI.out.2.2.2 E.out).mono ?_
  rintro e v5 ⟨xa0, xc0, ya0, yc0, rfl, hX0, hY0, hB⟩
  replace hb : Hid (Below w.heap.size w v5) := hb.out.trans (hB.mono hb.out.size)
  replace p1 := p1.go hB
  replace p2 := p2.go hB
  replace p1_0 := p1.c0
  replace p1_1 := p1.c1
  replace p1_2 := p1.c2
  replace p2_0 := p2.c0
  replace p2_1 := p2.c1
  replace p2_2 := p2.c2
  clear hB
  have hXc := OldC.of hX0
  have hYc := OldI.of hY0
  clear hX0 hY0
  have o_p1_bc := p1.lt
  have o_p2_bc := p2.lt
  replace hb : Hid (Below w.heap.size w (v5.alloc (.cells #[.bool false, .slice xa0 sz1.length xc0, .slice ya0 (e2V f c1 sz1 dz1 c2 sz1 dz2).length yc0] 25))) := hb.out.alloc hb.out.size _
  replace p1 := p1.al (.cells #[.bool false, .slice xa0 sz1.length xc0, .slice ya0 (e2V f c1 sz1 dz1 c2 sz1 dz2).length yc0] 25)
  replace p2 := p2.al (.cells #[.bool false, .slice xa0 sz1.length xc0, .slice ya0 (e2V f c1 sz1 dz1 c2 sz1 dz2).length yc0] 25)
  replace hXc := hXc.al (.cells #[.bool false, .slice xa0 sz1.length xc0, .slice ya0 (e2V f c1 sz1 dz1 c2 sz1 dz2).length yc0] 25)
  replace hYc := hYc.al (.cells #[.bool false, .slice xa0 sz1.length xc0, .slice ya0 (e2V f c1 sz1 dz1 c2 sz1 dz2).length yc0] 25)
  replace p1_0 := p1.c0
  replace p1_1 := p1.c1
  replace p1_2 := p1.c2
  replace p2_0 := p2.c0
  replace p2_1 := p2.c1
  replace p2_2 := p2.c2
  have bc := Abx.new v5 (.bool false) (.slice xa0 sz1.length xc0) (.slice ya0 (e2V f c1 sz1 dz1 c2 sz1 dz2).length yc0)
  have bc_0 := bc.c0
  have bc_1 := bc.c1
  have bc_2 := bc.c2
  rw [eqB_true rfl]
  go_wp2_with fail
  have l1_p1 := p1.lt
  have l1_p2 := p2.lt
  have l1_bc := bc.lt
  refine (rv_ok c1 sa1 sc1 sz1 da1 dc1 dz1 _ x1 x2 ((HI.out.1.1.below hb.out).mono hb.out.size) ((HI.out.1.2.1.below hb.out).mono hb.out.size) HI.out.1.2.2 HR x hx F1.out).mono ?_
  rintro e v6 ⟨xa1, xc1, ya1, yc1, rfl, hX1, hY1, hB⟩
  replace hb : Hid (Below w.heap.size w v6) := hb.out.trans (hB.mono hb.out.size)
  replace p1 := p1.go hB
  replace p2 := p2.go hB
  replace hXc := hXc.go hB
  replace hYc := hYc.go hB
  replace bc := bc.go hB
  replace p1_0 := p1.c0
  replace p1_1 := p1.c1
  replace p1_2 := p1.c2
  replace p2_0 := p2.c0
  replace p2_1 := p2.c1
  replace p2_2 := p2.c2
  replace bc_0 := bc.c0
  replace bc_1 := bc.c1
  replace bc_2 := bc.c2
  clear hB
  have o_p1_bx := p1.lt
  have o_p2_bx := p2.lt
  have o_bc_bx := bc.lt
  replace hb : Hid (Below w.heap.size w (v6.alloc (.cells #[.bool c1, .slice xa1 (sz1).length xc1, .slice ya1 (rvG x sz1 dz1).length yc1] 25))) := hb.out.alloc hb.out.size _
  replace p1 := p1.al (.cells #[.bool c1, .slice xa1 (sz1).length xc1, .slice ya1 (rvG x sz1 dz1).length yc1] 25)
  replace p2 := p2.al (.cells #[.bool c1, .slice xa1 (sz1).length xc1, .slice ya1 (rvG x sz1 dz1).length yc1] 25)
  replace hXc := hXc.al (.cells #[.bool c1, .slice xa1 (sz1).length xc1, .slice ya1 (rvG x sz1 dz1).length yc1] 25)
  replace hYc := hYc.al (.cells #[.bool c1, .slice xa1 (sz1).length xc1, .slice ya1 (rvG x sz1 dz1).length yc1] 25)
  replace bc := bc.al (.cells #[.bool c1, .slice xa1 (sz1).length xc1, .slice ya1 (rvG x sz1 dz1).length yc1] 25)
  replace hX1 := hX1.al (.cells #[.bool c1, .slice xa1 (sz1).length xc1, .slice ya1 (rvG x sz1 dz1).length yc1] 25)
  replace hY1 := hY1.al (.cells #[.bool c1, .slice xa1 (sz1).length xc1, .slice ya1 (rvG x sz1 dz1).length yc1] 25)
  replace p1_0 := p1.c0
  replace p1_1 := p1.c1
  replace p1_2 := p1.c2
  replace p2_0 := p2.c0
  replace p2_1 := p2.c1
  replace p2_2 := p2.c2
  replace bc_0 := bc.c0
  replace bc_1 := bc.c1
  replace bc_2 := bc.c2
  have bx := Abx.new v6 (.bool c1) (.slice xa1 (sz1).length xc1) (.slice ya1 (rvG x sz1 dz1).length yc1)
  have bx_0 := bx.c0
  have bx_1 := bx.c1
  have bx_2 := bx.c2
  go_wp2_with fail
  have l2_p1 := p1.lt
  have l2_p2 := p2.lt
  have l2_bc := bc.lt
  have l2_bx := bx.lt
  refine (rv_ok c2 sa2 sc2 sz1 da2 dc2 dz2 _ x1 y2 ((HI.out.2.1.below hb.out).mono hb.out.size) ((HI.out.2.2.1.below hb.out).mono hb.out.size) HI.out.2.2.2 HR x hx (tc_rv E.out F1.out).1).mono ?_
  rintro e v7 ⟨xa2, xc2, ya2, yc2, rfl, hX2, hY2, hB⟩
  replace hb : Hid (Below w.heap.size w v7) := hb.out.trans (hB.mono hb.out.size)
  replace p1 := p1.go hB
  replace p2 := p2.go hB
  replace hXc := hXc.go hB
  replace hYc := hYc.go hB
  replace bc := bc.go hB
  replace hX1 := hX1.go hB
  replace hY1 := hY1.go hB
  replace bx := bx.go hB
  replace p1_0 := p1.c0
  replace p1_1 := p1.c1
  replace p1_2 := p1.c2
  replace p2_0 := p2.c0
  replace p2_1 := p2.c1
  replace p2_2 := p2.c2
  replace bc_0 := bc.c0
  replace bc_1 := bc.c1
  replace bc_2 := bc.c2
  replace bx_0 := bx.c0
  replace bx_1 := bx.c1
  replace bx_2 := bx.c2
  clear hB
  have o_p1_bw := p1.lt
  have o_p2_bw := p2.lt
  have o_bc_bw := bc.lt
  have o_bx_bw := bx.lt
  replace hb : Hid (Below w.heap.size w (v7.alloc (.cells #[.bool c2, .slice xa2 (sz1).length xc2, .slice ya2 (rvG x sz1 dz2).length yc2] 25))) := hb.out.alloc hb.out.size _
  replace p1 := p1.al (.cells #[.bool c2, .slice xa2 (sz1).length xc2, .slice ya2 (rvG x sz1 dz2).length yc2] 25)
  replace p2 := p2.al (.cells #[.bool c2, .slice xa2 (sz1).length xc2, .slice ya2 (rvG x sz1 dz2).length yc2] 25)
  replace hXc := hXc.al (.cells #[.bool c2, .slice xa2 (sz1).length xc2, .slice ya2 (rvG x sz1 dz2).length yc2] 25)
  replace hYc := hYc.al (.cells #[.bool c2, .slice xa2 (sz1).length xc2, .slice ya2 (rvG x sz1 dz2).length yc2] 25)
  replace bc := bc.al (.cells #[.bool c2, .slice xa2 (sz1).length xc2, .slice ya2 (rvG x sz1 dz2).length yc2] 25)
  replace hX1 := hX1.al (.cells #[.bool c2, .slice xa2 (sz1).length xc2, .slice ya2 (rvG x sz1 dz2).length yc2] 25)
  replace hY1 := hY1.al (.cells #[.bool c2, .slice xa2 (sz1).length xc2, .slice ya2 (rvG x sz1 dz2).length yc2] 25)
  replace bx := bx.al (.cells #[.bool c2, .slice xa2 (sz1).length xc2, .slice ya2 (rvG x sz1 dz2).length yc2] 25)
  replace hX2 := hX2.al (.cells #[.bool c2, .slice xa2 (sz1).length xc2, .slice ya2 (rvG x sz1 dz2).length yc2] 25)
  replace hY2 := hY2.al (.cells #[.bool c2, .slice xa2 (sz1).length xc2, .slice ya2 (rvG x sz1 dz2).length yc2] 25)
  replace p1_0 := p1.c0
  replace p1_1 := p1.c1
  replace p1_2 := p1.c2
  replace p2_0 := p2.c0
  replace p2_1 := p2.c1
  replace p2_2 := p2.c2
  replace bc_0 := bc.c0
  replace bc_1 := bc.c1
  replace bc_2 := bc.c2
  replace bx_0 := bx.c0
  replace bx_1 := bx.c1
  replace bx_2 := bx.c2
  have bw := Abx.new v7 (.bool c2) (.slice xa2 (sz1).length xc2) (.slice ya2 (rvG x sz1 dz2).length yc2)
  have bw_0 := bw.c0
  have bw_1 := bw.c1
  have bw_2 := bw.c2
  go_wp2_with fail
  have l3_p1 := p1.lt
  have l3_p2 := p2.lt
  have l3_bc := bc.lt
  have l3_bx := bx.lt
  have l3_bw := bw.lt
  refine (rv_ok false xa0 xc0 sz1 ya0 yc0 (e2V f c1 sz1 dz1 c2 sz1 dz2) _ x1 (tu_len (tc_c E.out).2.2.1).2 hXc.ints hYc.ints (e2V_64 E.out HI.out.1.2.2 HI.out.2.2.2) HR x hx (tc_rv E.out F1.out).2.1).mono ?_
  rintro e v8 ⟨xa3, xc3, ya3, yc3, rfl, hX3, hY3, hB⟩
  replace hb : Hid (Below w.heap.size w v8) := hb.out.trans (hB.mono hb.out.size)
  replace p1 := p1.go hB
  replace p2 := p2.go hB
  replace hXc := hXc.go hB
  replace hYc := hYc.go hB
  replace bc := bc.go hB
  replace hX1 := hX1.go hB
  replace hY1 := hY1.go hB
  replace bx := bx.go hB
  replace hX2 := hX2.go hB
  replace hY2 := hY2.go hB
  replace bw := bw.go hB
  replace p1_0 := p1.c0
  replace p1_1 := p1.c1
  replace p1_2 := p1.c2
  replace p2_0 := p2.c0
  replace p2_1 := p2.c1
  replace p2_2 := p2.c2
  replace bc_0 := bc.c0
  replace bc_1 := bc.c1
  replace bc_2 := bc.c2
  replace bx_0 := bx.c0
  replace bx_1 := bx.c1
  replace bx_2 := bx.c2
  replace bw_0 := bw.c0
  replace bw_1 := bw.c1
  replace bw_2 := bw.c2
  clear hB
  have o_p1_bz := p1.lt
  have o_p2_bz := p2.lt
  have o_bc_bz := bc.lt
  have o_bx_bz := bx.lt
  have o_bw_bz := bw.lt
  replace hb : Hid (Below w.heap.size w (v8.alloc (.cells #[.bool false, .slice xa3 (sz1).length xc3, .slice ya3 (rvG x sz1 (e2V f c1 sz1 dz1 c2 sz1 dz2)).length yc3] 25))) := hb.out.alloc hb.out.size _
  replace p1 := p1.al (.cells #[.bool false, .slice xa3 (sz1).length xc3, .slice ya3 (rvG x sz1 (e2V f c1 sz1 dz1 c2 sz1 dz2)).length yc3] 25)
  replace p2 := p2.al (.cells #[.bool false, .slice xa3 (sz1).length xc3, .slice ya3 (rvG x sz1 (e2V f c1 sz1 dz1 c2 sz1 dz2)).length yc3] 25)
  replace hXc := hXc.al (.cells #[.bool false, .slice xa3 (sz1).length xc3, .slice ya3 (rvG x sz1 (e2V f c1 sz1 dz1 c2 sz1 dz2)).length yc3] 25)
  replace hYc := hYc.al (.cells #[.bool false, .slice xa3 (sz1).length xc3, .slice ya3 (rvG x sz1 (e2V f c1 sz1 dz1 c2 sz1 dz2)).length yc3] 25)
  replace bc := bc.al (.cells #[.bool false, .slice xa3 (sz1).length xc3, .slice ya3 (rvG x sz1 (e2V f c1 sz1 dz1 c2 sz1 dz2)).length yc3] 25)
  replace hX1 := hX1.al (.cells #[.bool false, .slice xa3 (sz1).length xc3, .slice ya3 (rvG x sz1 (e2V f c1 sz1 dz1 c2 sz1 dz2)).length yc3] 25)
  replace hY1 := hY1.al (.cells #[.bool false, .slice xa3 (sz1).length xc3, .slice ya3 (rvG x sz1 (e2V f c1 sz1 dz1 c2 sz1 dz2)).length yc3] 25)
  replace bx := bx.al (.cells #[.bool false, .slice xa3 (sz1).length xc3, .slice ya3 (rvG x sz1 (e2V f c1 sz1 dz1 c2 sz1 dz2)).length yc3] 25)
  replace hX2 := hX2.al (.cells #[.bool false, .slice xa3 (sz1).length xc3, .slice ya3 (rvG x sz1 (e2V f c1 sz1 dz1 c2 sz1 dz2)).length yc3] 25)
  replace hY2 := hY2.al (.cells #[.bool false, .slice xa3 (sz1).length xc3, .slice ya3 (rvG x sz1 (e2V f c1 sz1 dz1 c2 sz1 dz2)).length yc3] 25)
  replace bw := bw.al (.cells #[.bool false, .slice xa3 (sz1).length xc3, .slice ya3 (rvG x sz1 (e2V f c1 sz1 dz1 c2 sz1 dz2)).length yc3] 25)
  replace hX3 := hX3.al (.cells #[.bool false, .slice xa3 (sz1).length xc3, .slice ya3 (rvG x sz1 (e2V f c1 sz1 dz1 c2 sz1 dz2)).length yc3] 25)
  replace hY3 := hY3.al (.cells #[.bool false, .slice xa3 (sz1).length xc3, .slice ya3 (rvG x sz1 (e2V f c1 sz1 dz1 c2 sz1 dz2)).length yc3] 25)
  replace p1_0 := p1.c0
  replace p1_1 := p1.c1
  replace p1_2 := p1.c2
  replace p2_0 := p2.c0
  replace p2_1 := p2.c1
  replace p2_2 := p2.c2
  replace bc_0 := bc.c0
  replace bc_1 := bc.c1
  replace bc_2 := bc.c2
  replace bx_0 := bx.c0
  replace bx_1 := bx.c1
  replace bx_2 := bx.c2
  replace bw_0 := bw.c0
  replace bw_1 := bw.c1
  replace bw_2 := bw.c2
  have bz := Abx.new v8 (.bool false) (.slice xa3 (sz1).length xc3) (.slice ya3 (rvG x sz1 (e2V f c1 sz1 dz1 c2 sz1 dz2)).length yc3)
  have bz_0 := bz.c0
  have bz_1 := bz.c1
  have bz_2 := bz.c2
  go_wp2_with fail
  have l4_p1 := p1.lt
  have l4_p2 := p2.lt
  have l4_bc := bc.lt
  have l4_bx := bx.lt
  have l4_bw := bw.lt
  have l4_bz := bz.lt
  refine (tc_two2 H2 f c1 xa1 xc1 (sz1) ya1 yc1 (rvG x sz1 dz1) c2 xa2 xc2 ya2 yc2 (rvG x sz1 dz2) _ hf (tu_len (rv_flaw F1.out)).1 (tu_len (rv_flaw F1.out)).2 (tu_len (rv_flaw (tc_rv E.out F1.out).1)).2 hX1.ints hY1.ints hX2.ints hY2.ints (GA_64 HI.out.1.2.2) (GA_64 HI.out.2.2.2) (tc_rv E.out F1.out).2.2.1).mono ?_
  rintro e v9 ⟨xa4, xc4, ya4, yc4, rfl, hX4, hY4, hB⟩
  replace hb : Hid (Below w.heap.size w v9) := hb.out.trans (hB.mono hb.out.size)
  replace p1 := p1.go hB
  replace p2 := p2.go hB
  replace hXc := hXc.go hB
  replace hYc := hYc.go hB
  replace bc := bc.go hB
  replace hX1 := hX1.go hB
  replace hY1 := hY1.go hB
  replace bx := bx.go hB
  replace hX2 := hX2.go hB
  replace hY2 := hY2.go hB
  replace bw := bw.go hB
  replace hX3 := hX3.go hB
  replace hY3 := hY3.go hB
  replace bz := bz.go hB
  replace p1_0 := p1.c0
  replace p1_1 := p1.c1
  replace p1_2 := p1.c2
  replace p2_0 := p2.c0
  replace p2_1 := p2.c1
  replace p2_2 := p2.c2
  replace bc_0 := bc.c0
  replace bc_1 := bc.c1
  replace bc_2 := bc.c2
  replace bx_0 := bx.c0
  replace bx_1 := bx.c1
  replace bx_2 := bx.c2
  replace bw_0 := bw.c0
  replace bw_1 := bw.c1
  replace bw_2 := bw.c2
  replace bz_0 := bz.c0
  replace bz_1 := bz.c1
  replace bz_2 := bz.c2
  clear hB
  have o_p1_bu := p1.lt
  have o_p2_bu := p2.lt
  have o_bc_bu := bc.lt
  have o_bx_bu := bx.lt
  have o_bw_bu := bw.lt
  have o_bz_bu := bz.lt
  replace hb : Hid (Below w.heap.size w (v9.alloc (.cells #[.bool false, .slice xa4 (sz1).length xc4, .slice ya4 (e2V f c1 (sz1) (rvG x sz1 dz1) c2 (sz1) (rvG x sz1 dz2)).length yc4] 25))) := hb.out.alloc hb.out.size _
  replace p1 := p1.al (.cells #[.bool false, .slice xa4 (sz1).length xc4, .slice ya4 (e2V f c1 (sz1) (rvG x sz1 dz1) c2 (sz1) (rvG x sz1 dz2)).length yc4] 25)
  replace p2 := p2.al (.cells #[.bool false, .slice xa4 (sz1).length xc4, .slice ya4 (e2V f c1 (sz1) (rvG x sz1 dz1) c2 (sz1) (rvG x sz1 dz2)).length yc4] 25)
  replace hXc := hXc.al (.cells #[.bool false, .slice xa4 (sz1).length xc4, .slice ya4 (e2V f c1 (sz1) (rvG x sz1 dz1) c2 (sz1) (rvG x sz1 dz2)).length yc4] 25)
  replace hYc := hYc.al (.cells #[.bool false, .slice xa4 (sz1).length xc4, .slice ya4 (e2V f c1 (sz1) (rvG x sz1 dz1) c2 (sz1) (rvG x sz1 dz2)).length yc4] 25)
  replace bc := bc.al (.cells #[.bool false, .slice xa4 (sz1).length xc4, .slice ya4 (e2V f c1 (sz1) (rvG x sz1 dz1) c2 (sz1) (rvG x sz1 dz2)).length yc4] 25)
  replace hX1 := hX1.al (.cells #[.bool false, .slice xa4 (sz1).length xc4, .slice ya4 (e2V f c1 (sz1) (rvG x sz1 dz1) c2 (sz1) (rvG x sz1 dz2)).length yc4] 25)
  replace hY1 := hY1.al (.cells #[.bool false, .slice xa4 (sz1).length xc4, .slice ya4 (e2V f c1 (sz1) (rvG x sz1 dz1) c2 (sz1) (rvG x sz1 dz2)).length yc4] 25)
  replace bx := bx.al (.cells #[.bool false, .slice xa4 (sz1).length xc4, .slice ya4 (e2V f c1 (sz1) (rvG x sz1 dz1) c2 (sz1) (rvG x sz1 dz2)).length yc4] 25)
  replace hX2 := hX2.al (.cells #[.bool false, .slice xa4 (sz1).length xc4, .slice ya4 (e2V f c1 (sz1) (rvG x sz1 dz1) c2 (sz1) (rvG x sz1 dz2)).length yc4] 25)
  replace hY2 := hY2.al (.cells #[.bool false, .slice xa4 (sz1).length xc4, .slice ya4 (e2V f c1 (sz1) (rvG x sz1 dz1) c2 (sz1) (rvG x sz1 dz2)).length yc4] 25)
  replace bw := bw.al (.cells #[.bool false, .slice xa4 (sz1).length xc4, .slice ya4 (e2V f c1 (sz1) (rvG x sz1 dz1) c2 (sz1) (rvG x sz1 dz2)).length yc4] 25)
  replace hX3 := hX3.al (.cells #[.bool false, .slice xa4 (sz1).length xc4, .slice ya4 (e2V f c1 (sz1) (rvG x sz1 dz1) c2 (sz1) (rvG x sz1 dz2)).length yc4] 25)
  replace hY3 := hY3.al (.cells #[.bool false, .slice xa4 (sz1).length xc4, .slice ya4 (e2V f c1 (sz1) (rvG x sz1 dz1) c2 (sz1) (rvG x sz1 dz2)).length yc4] 25)
  replace bz := bz.al (.cells #[.bool false, .slice xa4 (sz1).length xc4, .slice ya4 (e2V f c1 (sz1) (rvG x sz1 dz1) c2 (sz1) (rvG x sz1 dz2)).length yc4] 25)
  replace hX4 := hX4.al (.cells #[.bool false, .slice xa4 (sz1).length xc4, .slice ya4 (e2V f c1 (sz1) (rvG x sz1 dz1) c2 (sz1) (rvG x sz1 dz2)).length yc4] 25)
  replace hY4 := hY4.al (.cells #[.bool false, .slice xa4 (sz1).length xc4, .slice ya4 (e2V f c1 (sz1) (rvG x sz1 dz1) c2 (sz1) (rvG x sz1 dz2)).length yc4] 25)
  replace p1_0 := p1.c0
  replace p1_1 := p1.c1
  replace p1_2 := p1.c2
  replace p2_0 := p2.c0
  replace p2_1 := p2.c1
  replace p2_2 := p2.c2
  replace bc_0 := bc.c0
  replace bc_1 := bc.c1
  replace bc_2 := bc.c2
  replace bx_0 := bx.c0
  replace bx_1 := bx.c1
  replace bx_2 := bx.c2
  replace bw_0 := bw.c0
  replace bw_1 := bw.c1
  replace bw_2 := bw.c2
  replace bz_0 := bz.c0
  replace bz_1 := bz.c1
  replace bz_2 := bz.c2
  have bu := Abx.new v9 (.bool false) (.slice xa4 (sz1).length xc4) (.slice ya4 (e2V f c1 (sz1) (rvG x sz1 dz1) c2 (sz1) (rvG x sz1 dz2)).length yc4)
  have bu_0 := bu.c0
  have bu_1 := bu.c1
  have bu_2 := bu.c2
  go_wp2_with fail
  refine (alike_eq false xa4 xc4 (sz1) ya4 yc4 (e2V f c1 (sz1) (rvG x sz1 dz1) c2 (sz1) (rvG x sz1 dz2)) xa3 xc3 (sz1) ya3 yc3 (rvG x sz1 (e2V f c1 sz1 dz1 c2 sz1 dz2)) rfl ((tc_rv E.out F1.out).2.2.2).symm (tu_len (tc_c (tc_rv E.out F1.out).2.2.1).2.2.1).1 (tu_len (tc_c (tc_rv E.out F1.out).2.2.1).2.2.1).2 _ hX4.ints hY4.ints hX3.ints hY3.ints).mono ?_
  rintro e v10 ⟨rfl, hB⟩
  replace hb : Hid (Below w.heap.size w v10) := hb.out.trans (hB.mono hb.out.size)
  replace p1 := p1.go hB
  replace p2 := p2.go hB
  replace hXc := hXc.go hB
  replace hYc := hYc.go hB
  replace bc := bc.go hB
  replace hX1 := hX1.go hB
  replace hY1 := hY1.go hB
  replace bx := bx.go hB
  replace hX2 := hX2.go hB
  replace hY2 := hY2.go hB
  replace bw := bw.go hB
  replace hX3 := hX3.go hB
  replace hY3 := hY3.go hB
  replace bz := bz.go hB
  replace hX4 := hX4.go hB
  replace hY4 := hY4.go hB
  replace bu := bu.go hB
  replace p1_0 := p1.c0
  replace p1_1 := p1.c1
  replace p1_2 := p1.c2
  replace p2_0 := p2.c0
  replace p2_1 := p2.c1
  replace p2_2 := p2.c2
  replace bc_0 := bc.c0
  replace bc_1 := bc.c1
  replace bc_2 := bc.c2
  replace bx_0 := bx.c0
  replace bx_1 := bx.c1
  replace bx_2 := bx.c2
  replace bw_0 := bw.c0
  replace bw_1 := bw.c1
  replace bw_2 := bw.c2
  replace bz_0 := bz.c0
  replace bz_1 := bz.c1
  replace bz_2 := bz.c2
  replace bu_0 := bu.c0
  replace bu_1 := bu.c1
  replace bu_2 := bu.c2
  clear hB
  go_wp2_with fail
  have l5_p1 := p1.lt
  have l5_p2 := p2.lt
  have l5_bc := bc.lt
  have l5_bx := bx.lt
  have l5_bw := bw.lt
  have l5_bz := bz.lt
  have l5_bu := bu.lt
  refine (rt_ok c2 sa2 sc2 sz1 da2 dc2 dz2 _ x1 y2 ((HI.out.2.1.below hb.out).mono hb.out.size) ((HI.out.2.2.1.below hb.out).mono hb.out.size) HI.out.2.2.2 HT n x hn hx (tc_rv E.out F1.out).1).mono ?_
  rintro e v11 ⟨xa5, xc5, ya5, yc5, rfl, hX5, hY5, hB⟩
  replace hb : Hid (Below w.heap.size w v11) := hb.out.trans (hB.mono hb.out.size)
  replace p1 := p1.go hB
  replace p2 := p2.go hB
  replace hXc := hXc.go hB
  replace hYc := hYc.go hB
  replace bc := bc.go hB
  replace hX1 := hX1.go hB
  replace hY1 := hY1.go hB
  replace bx := bx.go hB
  replace hX2 := hX2.go hB
  replace hY2 := hY2.go hB
  replace bw := bw.go hB
  replace hX3 := hX3.go hB
  replace hY3 := hY3.go hB
  replace bz := bz.go hB
  replace hX4 := hX4.go hB
  replace hY4 := hY4.go hB
  replace bu := bu.go hB
  replace p1_0 := p1.c0
  replace p1_1 := p1.c1
  replace p1_2 := p1.c2
  replace p2_0 := p2.c0
  replace p2_1 := p2.c1
  replace p2_2 := p2.c2
  replace bc_0 := bc.c0
  replace bc_1 := bc.c1
  replace bc_2 := bc.c2
  replace bx_0 := bx.c0
  replace bx_1 := bx.c1
  replace bx_2 := bx.c2
  replace bw_0 := bw.c0
  replace bw_1 := bw.c1
  replace bw_2 := bw.c2
  replace bz_0 := bz.c0
  replace bz_1 := bz.c1
  replace bz_2 := bz.c2
  replace bu_0 := bu.c0
  replace bu_1 := bu.c1
  replace bu_2 := bu.c2
  clear hB
  have fz_0 := bw.fr 0
  have fz_1 := bw.fr 1
  have fz_2 := bw.fr 2
  have N_p1 := p1.ne3 (B := v7.heap.size) (by exact Nat.ne_of_lt o_p1_bw) (.bool c2) (.slice xa5 (sz1).length xc5) (.slice ya5 (rtG n x sz1 dz2).length yc5)
  have N_p2 := p2.ne3 (B := v7.heap.size) (by exact Nat.ne_of_lt o_p2_bw) (.bool c2) (.slice xa5 (sz1).length xc5) (.slice ya5 (rtG n x sz1 dz2).length yc5)
  have N_hXc := hXc.set3 (B := v7.heap.size) (Nat.le_of_lt o_bc_bw) (.bool c2) (.slice xa5 (sz1).length xc5) (.slice ya5 (rtG n x sz1 dz2).length yc5)
  have N_hYc := hYc.set3 (B := v7.heap.size) (Nat.le_of_lt o_bc_bw) (.bool c2) (.slice xa5 (sz1).length xc5) (.slice ya5 (rtG n x sz1 dz2).length yc5)
  have N_bc := bc.ne3 (B := v7.heap.size) (by exact Nat.ne_of_lt o_bc_bw) (.bool c2) (.slice xa5 (sz1).length xc5) (.slice ya5 (rtG n x sz1 dz2).length yc5)
  have N_bx := bx.ne3 (B := v7.heap.size) (by exact Nat.ne_of_lt o_bx_bw) (.bool c2) (.slice xa5 (sz1).length xc5) (.slice ya5 (rtG n x sz1 dz2).length yc5)
  have N_bw := bw.set3 (.bool c2) (.slice xa5 (sz1).length xc5) (.slice ya5 (rtG n x sz1 dz2).length yc5)
  have N_bz := bz.ne3 (B := v7.heap.size) (by exact Nat.ne_of_gt o_bw_bz) (.bool c2) (.slice xa5 (sz1).length xc5) (.slice ya5 (rtG n x sz1 dz2).length yc5)
  have N_bu := bu.ne3 (B := v7.heap.size) (by exact Nat.ne_of_gt o_bw_bu) (.bool c2) (.slice xa5 (sz1).length xc5) (.slice ya5 (rtG n x sz1 dz2).length yc5)
  have N_hX5 := hX5.set3 (b := v7.heap.size) l5_bw (.bool c2) (.slice xa5 (sz1).length xc5) (.slice ya5 (rtG n x sz1 dz2).length yc5)
  have N_hY5 := hY5.set3 (b := v7.heap.size) l5_bw (.bool c2) (.slice xa5 (sz1).length xc5) (.slice ya5 (rtG n x sz1 dz2).length yc5)
  have N_hb : Hid (Below w.heap.size w (((v11.setCell ⟨v7.heap.size, 0, none⟩ (.bool c2)).setCell ⟨v7.heap.size, 1, none⟩ (.slice xa5 (sz1).length xc5)).setCell ⟨v7.heap.size, 2, none⟩ (.slice ya5 (rtG n x sz1 dz2).length yc5))) := bel_set3 hb.out (Nat.le_of_lt o_p1_bw) (.bool c2) (.slice xa5 (sz1).length xc5) (.slice ya5 (rtG n x sz1 dz2).length yc5)
  have N_p1_0 := N_p1.c0
  have N_p1_1 := N_p1.c1
  have N_p1_2 := N_p1.c2
  have N_p2_0 := N_p2.c0
  have N_p2_1 := N_p2.c1
  have N_p2_2 := N_p2.c2
  have N_bc_0 := N_bc.c0
  have N_bc_1 := N_bc.c1
  have N_bc_2 := N_bc.c2
  have N_bx_0 := N_bx.c0
  have N_bx_1 := N_bx.c1
  have N_bx_2 := N_bx.c2
  have N_bw_0 := N_bw.c0
  have N_bw_1 := N_bw.c1
  have N_bw_2 := N_bw.c2
  have N_bz_0 := N_bz.c0
  have N_bz_1 := N_bz.c1
  have N_bz_2 := N_bz.c2
  have N_bu_0 := N_bu.c0
  have N_bu_1 := N_bu.c1
  have N_bu_2 := N_bu.c2
  go_wp2_with fail
  clear fz_0 fz_1 fz_2 hb p1 p2 hXc hYc bc hX1 hY1 bx hX2 hY2 bw hX3 hY3 bz hX4 hY4 bu hX5 hY5 p1_0 p1_1 p1_2 p2_0 p2_1 p2_2 bc_0 bc_1 bc_2 bx_0 bx_1 bx_2 bw_0 bw_1 bw_2 bz_0 bz_1 bz_2 bu_0 bu_1 bu_2
  have hb := N_hb
  have p1 := N_p1
  have p2 := N_p2
  have hXc := N_hXc
  have hYc := N_hYc
  have bc := N_bc
  have bx := N_bx
  have bw := N_bw
  have bz := N_bz
  have bu := N_bu
  have hX5 := N_hX5
  have hY5 := N_hY5
  have p1_0 := N_p1_0
  have p1_1 := N_p1_1
  have p1_2 := N_p1_2
  have p2_0 := N_p2_0
  have p2_1 := N_p2_1
  have p2_2 := N_p2_2
  have bc_0 := N_bc_0
  have bc_1 := N_bc_1
  have bc_2 := N_bc_2
  have bx_0 := N_bx_0
  have bx_1 := N_bx_1
  have bx_2 := N_bx_2
  have bw_0 := N_bw_0
  have bw_1 := N_bw_1
  have bw_2 := N_bw_2
  have bz_0 := N_bz_0
  have bz_1 := N_bz_1
  have bz_2 := N_bz_2
  have bu_0 := N_bu_0
  have bu_1 := N_bu_1
  have bu_2 := N_bu_2
  clear N_hb N_p1 N_p2 N_hXc N_hYc N_bc N_bx N_bw N_bz N_bu N_hX5 N_hY5 N_p1_0 N_p1_1 N_p1_2 N_p2_0 N_p2_1 N_p2_2 N_bc_0 N_bc_1 N_bc_2 N_bx_0 N_bx_1 N_bx_2 N_bw_0 N_bw_1 N_bw_2 N_bz_0 N_bz_1 N_bz_2 N_bu_0 N_bu_1 N_bu_2
  have l6_p1 := p1.lt
  have l6_p2 := p2.lt
  have l6_bc := bc.lt
  have l6_bx := bx.lt
  have l6_bw := bw.lt
  have l6_bz := bz.lt
  have l6_bu := bu.lt
  refine (rt_ok c1 sa1 sc1 sz1 da1 dc1 dz1 _ x1 x2 ((HI.out.1.1.below hb.out).mono hb.out.size) ((HI.out.1.2.1.below hb.out).mono hb.out.size) HI.out.1.2.2 HT n x hn hx F1.out).mono ?_
  rintro e v12 ⟨xa6, xc6, ya6, yc6, rfl, hX6, hY6, hB⟩
  replace hb : Hid (Below w.heap.size w v12) := hb.out.trans (hB.mono hb.out.size)
  replace p1 := p1.go hB
  replace p2 := p2.go hB
  replace hXc := hXc.go hB
  replace hYc := hYc.go hB
  replace bc := bc.go hB
  replace bx := bx.go hB
  replace bw := bw.go hB
  replace bz := bz.go hB
  replace bu := bu.go hB
  replace hX5 := hX5.go hB
  replace hY5 := hY5.go hB
  replace p1_0 := p1.c0
  replace p1_1 := p1.c1
  replace p1_2 := p1.c2
  replace p2_0 := p2.c0
  replace p2_1 := p2.c1
  replace p2_2 := p2.c2
  replace bc_0 := bc.c0
  replace bc_1 := bc.c1
  replace bc_2 := bc.c2
  replace bx_0 := bx.c0
  replace bx_1 := bx.c1
  replace bx_2 := bx.c2
  replace bw_0 := bw.c0
  replace bw_1 := bw.c1
  replace bw_2 := bw.c2
  replace bz_0 := bz.c0
  replace bz_1 := bz.c1
  replace bz_2 := bz.c2
  replace bu_0 := bu.c0
  replace bu_1 := bu.c1
  replace bu_2 := bu.c2
  clear hB
  have o_p1_bq := p1.lt
  have o_p2_bq := p2.lt
  have o_bc_bq := bc.lt
  have o_bx_bq := bx.lt
  have o_bw_bq := bw.lt
  have o_bz_bq := bz.lt
  have o_bu_bq := bu.lt
  replace hb : Hid (Below w.heap.size w (v12.alloc (.cells #[.bool c1, .slice xa6 (sz1).length xc6, .slice ya6 (rtG n x sz1 dz1).length yc6] 25))) := hb.out.alloc hb.out.size _
  replace p1 := p1.al (.cells #[.bool c1, .slice xa6 (sz1).length xc6, .slice ya6 (rtG n x sz1 dz1).length yc6] 25)
  replace p2 := p2.al (.cells #[.bool c1, .slice xa6 (sz1).length xc6, .slice ya6 (rtG n x sz1 dz1).length yc6] 25)
  replace hXc := hXc.al (.cells #[.bool c1, .slice xa6 (sz1).length xc6, .slice ya6 (rtG n x sz1 dz1).length yc6] 25)
  replace hYc := hYc.al (.cells #[.bool c1, .slice xa6 (sz1).length xc6, .slice ya6 (rtG n x sz1 dz1).length yc6] 25)
  replace bc := bc.al (.cells #[.bool c1, .slice xa6 (sz1).length xc6, .slice ya6 (rtG n x sz1 dz1).length yc6] 25)
  replace bx := bx.al (.cells #[.bool c1, .slice xa6 (sz1).length xc6, .slice ya6 (rtG n x sz1 dz1).length yc6] 25)
  replace bw := bw.al (.cells #[.bool c1, .slice xa6 (sz1).length xc6, .slice ya6 (rtG n x sz1 dz1).length yc6] 25)
  replace bz := bz.al (.cells #[.bool c1, .slice xa6 (sz1).length xc6, .slice ya6 (rtG n x sz1 dz1).length yc6] 25)
  replace bu := bu.al (.cells #[.bool c1, .slice xa6 (sz1).length xc6, .slice ya6 (rtG n x sz1 dz1).length yc6] 25)
  replace hX5 := hX5.al (.cells #[.bool c1, .slice xa6 (sz1).length xc6, .slice ya6 (rtG n x sz1 dz1).length yc6] 25)
  replace hY5 := hY5.al (.cells #[.bool c1, .slice xa6 (sz1).length xc6, .slice ya6 (rtG n x sz1 dz1).length yc6] 25)
  replace hX6 := hX6.al (.cells #[.bool c1, .slice xa6 (sz1).length xc6, .slice ya6 (rtG n x sz1 dz1).length yc6] 25)
  replace hY6 := hY6.al (.cells #[.bool c1, .slice xa6 (sz1).length xc6, .slice ya6 (rtG n x sz1 dz1).length yc6] 25)
  replace p1_0 := p1.c0
  replace p1_1 := p1.c1
  replace p1_2 := p1.c2
  replace p2_0 := p2.c0
  replace p2_1 := p2.c1
  replace p2_2 := p2.c2
  replace bc_0 := bc.c0
  replace bc_1 := bc.c1
  replace bc_2 := bc.c2
  replace bx_0 := bx.c0
  replace bx_1 := bx.c1
  replace bx_2 := bx.c2
  replace bw_0 := bw.c0
  replace bw_1 := bw.c1
  replace bw_2 := bw.c2
  replace bz_0 := bz.c0
  replace bz_1 := bz.c1
  replace bz_2 := bz.c2
  replace bu_0 := bu.c0
  replace bu_1 := bu.c1
  replace bu_2 := bu.c2
  have bq := Abx.new v12 (.bool c1) (.slice xa6 (sz1).length xc6) (.slice ya6 (rtG n x sz1 dz1).length yc6)
  have bq_0 := bq.c0
  have bq_1 := bq.c1
  have bq_2 := bq.c2
  go_wp2_with fail
  have l7_p1 := p1.lt
  have l7_p2 := p2.lt
  have l7_bc := bc.lt
  have l7_bx := bx.lt
  have l7_bw := bw.lt
  have l7_bz := bz.lt
  have l7_bu := bu.lt
  have l7_bq := bq.lt
  refine (rt_ok false xa0 xc0 sz1 ya0 yc0 (e2V f c1 sz1 dz1 c2 sz1 dz2) _ x1 (tu_len (tc_c E.out).2.2.1).2 hXc.ints hYc.ints (e2V_64 E.out HI.out.1.2.2 HI.out.2.2.2) HT n x hn hx (tc_rv E.out F1.out).2.1).mono ?_
  rintro e v13 ⟨xa7, xc7, ya7, yc7, rfl, hX7, hY7, hB⟩
  replace hb : Hid (Below w.heap.size w v13) := hb.out.trans (hB.mono hb.out.size)
  replace p1 := p1.go hB
  replace p2 := p2.go hB
  replace hXc := hXc.go hB
  replace hYc := hYc.go hB
  replace bc := bc.go hB
  replace bx := bx.go hB
  replace bw := bw.go hB
  replace bz := bz.go hB
  replace bu := bu.go hB
  replace hX5 := hX5.go hB
  replace hY5 := hY5.go hB
  replace hX6 := hX6.go hB
  replace hY6 := hY6.go hB
  replace bq := bq.go hB
  replace p1_0 := p1.c0
  replace p1_1 := p1.c1
  replace p1_2 := p1.c2
  replace p2_0 := p2.c0
  replace p2_1 := p2.c1
  replace p2_2 := p2.c2
  replace bc_0 := bc.c0
  replace bc_1 := bc.c1
  replace bc_2 := bc.c2
  replace bx_0 := bx.c0
  replace bx_1 := bx.c1
  replace bx_2 := bx.c2
  replace bw_0 := bw.c0
  replace bw_1 := bw.c1
  replace bw_2 := bw.c2
  replace bz_0 := bz.c0
  replace bz_1 := bz.c1
  replace bz_2 := bz.c2
  replace bu_0 := bu.c0
  replace bu_1 := bu.c1
  replace bu_2 := bu.c2
  replace bq_0 := bq.c0
  replace bq_1 := bq.c1
  replace bq_2 := bq.c2
  clear hB
  have fz_0 := bz.fr 0
  have fz_1 := bz.fr 1
  have fz_2 := bz.fr 2
  have N_p1 := p1.ne3 (B := v8.heap.size) (by exact Nat.ne_of_lt o_p1_bz) (.bool false) (.slice xa7 (sz1).length xc7) (.slice ya7 (rtG n x sz1 (e2V f c1 sz1 dz1 c2 sz1 dz2)).length yc7)
  have N_p2 := p2.ne3 (B := v8.heap.size) (by exact Nat.ne_of_lt o_p2_bz) (.bool false) (.slice xa7 (sz1).length xc7) (.slice ya7 (rtG n x sz1 (e2V f c1 sz1 dz1 c2 sz1 dz2)).length yc7)
  have N_hXc := hXc.set3 (B := v8.heap.size) (Nat.le_of_lt o_bc_bz) (.bool false) (.slice xa7 (sz1).length xc7) (.slice ya7 (rtG n x sz1 (e2V f c1 sz1 dz1 c2 sz1 dz2)).length yc7)
  have N_hYc := hYc.set3 (B := v8.heap.size) (Nat.le_of_lt o_bc_bz) (.bool false) (.slice xa7 (sz1).length xc7) (.slice ya7 (rtG n x sz1 (e2V f c1 sz1 dz1 c2 sz1 dz2)).length yc7)
  have N_bc := bc.ne3 (B := v8.heap.size) (by exact Nat.ne_of_lt o_bc_bz) (.bool false) (.slice xa7 (sz1).length xc7) (.slice ya7 (rtG n x sz1 (e2V f c1 sz1 dz1 c2 sz1 dz2)).length yc7)
  have N_bx := bx.ne3 (B := v8.heap.size) (by exact Nat.ne_of_lt o_bx_bz) (.bool false) (.slice xa7 (sz1).length xc7) (.slice ya7 (rtG n x sz1 (e2V f c1 sz1 dz1 c2 sz1 dz2)).length yc7)
  have N_bw := bw.ne3 (B := v8.heap.size) (by exact Nat.ne_of_lt o_bw_bz) (.bool false) (.slice xa7 (sz1).length xc7) (.slice ya7 (rtG n x sz1 (e2V f c1 sz1 dz1 c2 sz1 dz2)).length yc7)
  have N_bz := bz.set3 (.bool false) (.slice xa7 (sz1).length xc7) (.slice ya7 (rtG n x sz1 (e2V f c1 sz1 dz1 c2 sz1 dz2)).length yc7)
  have N_bu := bu.ne3 (B := v8.heap.size) (by exact Nat.ne_of_gt o_bz_bu) (.bool false) (.slice xa7 (sz1).length xc7) (.slice ya7 (rtG n x sz1 (e2V f c1 sz1 dz1 c2 sz1 dz2)).length yc7)
  have N_hX5 := hX5.set3 (b := v8.heap.size) l5_bz (.bool false) (.slice xa7 (sz1).length xc7) (.slice ya7 (rtG n x sz1 (e2V f c1 sz1 dz1 c2 sz1 dz2)).length yc7)
  have N_hY5 := hY5.set3 (b := v8.heap.size) l5_bz (.bool false) (.slice xa7 (sz1).length xc7) (.slice ya7 (rtG n x sz1 (e2V f c1 sz1 dz1 c2 sz1 dz2)).length yc7)
  have N_hX6 := hX6.set3 (b := v8.heap.size) l6_bz (.bool false) (.slice xa7 (sz1).length xc7) (.slice ya7 (rtG n x sz1 (e2V f c1 sz1 dz1 c2 sz1 dz2)).length yc7)
  have N_hY6 := hY6.set3 (b := v8.heap.size) l6_bz (.bool false) (.slice xa7 (sz1).length xc7) (.slice ya7 (rtG n x sz1 (e2V f c1 sz1 dz1 c2 sz1 dz2)).length yc7)
  have N_bq := bq.ne3 (B := v8.heap.size) (by exact Nat.ne_of_gt o_bz_bq) (.bool false) (.slice xa7 (sz1).length xc7) (.slice ya7 (rtG n x sz1 (e2V f c1 sz1 dz1 c2 sz1 dz2)).length yc7)
  have N_hX7 := hX7.set3 (b := v8.heap.size) l7_bz (.bool false) (.slice xa7 (sz1).length xc7) (.slice ya7 (rtG n x sz1 (e2V f c1 sz1 dz1 c2 sz1 dz2)).length yc7)
  have N_hY7 := hY7.set3 (b := v8.heap.size) l7_bz (.bool false) (.slice xa7 (sz1).length xc7) (.slice ya7 (rtG n x sz1 (e2V f c1 sz1 dz1 c2 sz1 dz2)).length yc7)
  have N_hb : Hid (Below w.heap.size w (((v13.setCell ⟨v8.heap.size, 0, none⟩ (.bool false)).setCell ⟨v8.heap.size, 1, none⟩ (.slice xa7 (sz1).length xc7)).setCell ⟨v8.heap.size, 2, none⟩ (.slice ya7 (rtG n x sz1 (e2V f c1 sz1 dz1 c2 sz1 dz2)).length yc7))) := bel_set3 hb.out (Nat.le_of_lt o_p1_bz) (.bool false) (.slice xa7 (sz1).length xc7) (.slice ya7 (rtG n x sz1 (e2V f c1 sz1 dz1 c2 sz1 dz2)).length yc7)
  have N_p1_0 := N_p1.c0
  have N_p1_1 := N_p1.c1
  have N_p1_2 := N_p1.c2
  have N_p2_0 := N_p2.c0
  have N_p2_1 := N_p2.c1
  have N_p2_2 := N_p2.c2
  have N_bc_0 := N_bc.c0
  have N_bc_1 := N_bc.c1
  have N_bc_2 := N_bc.c2
  have N_bx_0 := N_bx.c0
  have N_bx_1 := N_bx.c1
  have N_bx_2 := N_bx.c2
  have N_bw_0 := N_bw.c0
  have N_bw_1 := N_bw.c1
  have N_bw_2 := N_bw.c2
  have N_bz_0 := N_bz.c0
  have N_bz_1 := N_bz.c1
  have N_bz_2 := N_bz.c2
  have N_bu_0 := N_bu.c0
  have N_bu_1 := N_bu.c1
  have N_bu_2 := N_bu.c2
  have N_bq_0 := N_bq.c0
  have N_bq_1 := N_bq.c1
  have N_bq_2 := N_bq.c2
  go_wp2_with fail
  clear fz_0 fz_1 fz_2 hb p1 p2 hXc hYc bc bx bw bz bu hX5 hY5 hX6 hY6 bq hX7 hY7 p1_0 p1_1 p1_2 p2_0 p2_1 p2_2 bc_0 bc_1 bc_2 bx_0 bx_1 bx_2 bw_0 bw_1 bw_2 bz_0 bz_1 bz_2 bu_0 bu_1 bu_2 bq_0 bq_1 bq_2
  have hb := N_hb
  have p1 := N_p1
  have p2 := N_p2
  have hXc := N_hXc
  have hYc := N_hYc
  have bc := N_bc
  have bx := N_bx
  have bw := N_bw
  have bz := N_bz
  have bu := N_bu
  have hX5 := N_hX5
  have hY5 := N_hY5
  have hX6 := N_hX6
  have hY6 := N_hY6
  have bq := N_bq
  have hX7 := N_hX7
  have hY7 := N_hY7
  have p1_0 := N_p1_0
  have p1_1 := N_p1_1
  have p1_2 := N_p1_2
  have p2_0 := N_p2_0
  have p2_1 := N_p2_1
  have p2_2 := N_p2_2
  have bc_0 := N_bc_0
  have bc_1 := N_bc_1
  have bc_2 := N_bc_2
  have bx_0 := N_bx_0
  have bx_1 := N_bx_1
  have bx_2 := N_bx_2
  have bw_0 := N_bw_0
  have bw_1 := N_bw_1
  have bw_2 := N_bw_2
  have bz_0 := N_bz_0
  have bz_1 := N_bz_1
  have bz_2 := N_bz_2
  have bu_0 := N_bu_0
  have bu_1 := N_bu_1
  have bu_2 := N_bu_2
  have bq_0 := N_bq_0
  have bq_1 := N_bq_1
  have bq_2 := N_bq_2
  clear N_hb N_p1 N_p2 N_hXc N_hYc N_bc N_bx N_bw N_bz N_bu N_hX5 N_hY5 N_hX6 N_hY6 N_bq N_hX7 N_hY7 N_p1_0 N_p1_1 N_p1_2 N_p2_0 N_p2_1 N_p2_2 N_bc_0 N_bc_1 N_bc_2 N_bx_0 N_bx_1 N_bx_2 N_bw_0 N_bw_1 N_bw_2 N_bz_0 N_bz_1 N_bz_2 N_bu_0 N_bu_1 N_bu_2 N_bq_0 N_bq_1 N_bq_2
  have l8_p1 := p1.lt
  have l8_p2 := p2.lt
  have l8_bc := bc.lt
  have l8_bx := bx.lt
  have l8_bw := bw.lt
  have l8_bz := bz.lt
  have l8_bu := bu.lt
  have l8_bq := bq.lt
  refine (tc_two2 H2 f c1 xa6 xc6 (sz1) ya6 yc6 (rtG n x sz1 dz1) c2 xa5 xc5 ya5 yc5 (rtG n x sz1 dz2) _ hf (tu_len (rt_flaw (n := n) F1.out)).1 (tu_len (rt_flaw (n := n) F1.out)).2 (tu_len (rt_flaw (n := n) (tc_rv E.out F1.out).1)).2 hX6.ints hY6.ints hX5.ints hY5.ints (GA_64 HI.out.1.2.2) (GA_64 HI.out.2.2.2) (tc_rt (n := n) E.out F1.out).1).mono ?_
  rintro e v14 ⟨xa8, xc8, ya8, yc8, rfl, hX8, hY8, hB⟩
  replace hb : Hid (Below w.heap.size w v14) := hb.out.trans (hB.mono hb.out.size)
  replace p1 := p1.go hB
  replace p2 := p2.go hB
  replace hXc := hXc.go hB
  replace hYc := hYc.go hB
  replace bc := bc.go hB
  replace bx := bx.go hB
  replace bw := bw.go hB
  replace bz := bz.go hB
  replace bu := bu.go hB
  replace hX5 := hX5.go hB
  replace hY5 := hY5.go hB
  replace hX6 := hX6.go hB
  replace hY6 := hY6.go hB
  replace bq := bq.go hB
  replace hX7 := hX7.go hB
  replace hY7 := hY7.go hB
  replace p1_0 := p1.c0
  replace p1_1 := p1.c1
  replace p1_2 := p1.c2
  replace p2_0 := p2.c0
  replace p2_1 := p2.c1
  replace p2_2 := p2.c2
  replace bc_0 := bc.c0
  replace bc_1 := bc.c1
  replace bc_2 := bc.c2
  replace bx_0 := bx.c0
  replace bx_1 := bx.c1
  replace bx_2 := bx.c2
  replace bw_0 := bw.c0
  replace bw_1 := bw.c1
  replace bw_2 := bw.c2
  replace bz_0 := bz.c0
  replace bz_1 := bz.c1
  replace bz_2 := bz.c2
  replace bu_0 := bu.c0
  replace bu_1 := bu.c1
  replace bu_2 := bu.c2
  replace bq_0 := bq.c0
  replace bq_1 := bq.c1
  replace bq_2 := bq.c2
  clear hB
  have fz_0 := bu.fr 0
  have fz_1 := bu.fr 1
  have fz_2 := bu.fr 2
  have N_p1 := p1.ne3 (B := v9.heap.size) (by exact Nat.ne_of_lt o_p1_bu) (.bool false) (.slice xa8 (sz1).length xc8) (.slice ya8 (e2V f c1 (sz1) (rtG n x sz1 dz1) c2 (sz1) (rtG n x sz1 dz2)).length yc8)
  have N_p2 := p2.ne3 (B := v9.heap.size) (by exact Nat.ne_of_lt o_p2_bu) (.bool false) (.slice xa8 (sz1).length xc8) (.slice ya8 (e2V f c1 (sz1) (rtG n x sz1 dz1) c2 (sz1) (rtG n x sz1 dz2)).length yc8)
  have N_hXc := hXc.set3 (B := v9.heap.size) (Nat.le_of_lt o_bc_bu) (.bool false) (.slice xa8 (sz1).length xc8) (.slice ya8 (e2V f c1 (sz1) (rtG n x sz1 dz1) c2 (sz1) (rtG n x sz1 dz2)).length yc8)
  have N_hYc := hYc.set3 (B := v9.heap.size) (Nat.le_of_lt o_bc_bu) (.bool false) (.slice xa8 (sz1).length xc8) (.slice ya8 (e2V f c1 (sz1) (rtG n x sz1 dz1) c2 (sz1) (rtG n x sz1 dz2)).length yc8)
  have N_bc := bc.ne3 (B := v9.heap.size) (by exact Nat.ne_of_lt o_bc_bu) (.bool false) (.slice xa8 (sz1).length xc8) (.slice ya8 (e2V f c1 (sz1) (rtG n x sz1 dz1) c2 (sz1) (rtG n x sz1 dz2)).length yc8)
  have N_bx := bx.ne3 (B := v9.heap.size) (by exact Nat.ne_of_lt o_bx_bu) (.bool false) (.slice xa8 (sz1).length xc8) (.slice ya8 (e2V f c1 (sz1) (rtG n x sz1 dz1) c2 (sz1) (rtG n x sz1 dz2)).length yc8)
  have N_bw := bw.ne3 (B := v9.heap.size) (by exact Nat.ne_of_lt o_bw_bu) (.bool false) (.slice xa8 (sz1).length xc8) (.slice ya8 (e2V f c1 (sz1) (rtG n x sz1 dz1) c2 (sz1) (rtG n x sz1 dz2)).length yc8)
  have N_bz := bz.ne3 (B := v9.heap.size) (by exact Nat.ne_of_lt o_bz_bu) (.bool false) (.slice xa8 (sz1).length xc8) (.slice ya8 (e2V f c1 (sz1) (rtG n x sz1 dz1) c2 (sz1) (rtG n x sz1 dz2)).length yc8)
  have N_bu := bu.set3 (.bool false) (.slice xa8 (sz1).length xc8) (.slice ya8 (e2V f c1 (sz1) (rtG n x sz1 dz1) c2 (sz1) (rtG n x sz1 dz2)).length yc8)
  have N_bq := bq.ne3 (B := v9.heap.size) (by exact Nat.ne_of_gt o_bu_bq) (.bool false) (.slice xa8 (sz1).length xc8) (.slice ya8 (e2V f c1 (sz1) (rtG n x sz1 dz1) c2 (sz1) (rtG n x sz1 dz2)).length yc8)
  have N_hX7 := hX7.set3 (b := v9.heap.size) l7_bu (.bool false) (.slice xa8 (sz1).length xc8) (.slice ya8 (e2V f c1 (sz1) (rtG n x sz1 dz1) c2 (sz1) (rtG n x sz1 dz2)).length yc8)
  have N_hY7 := hY7.set3 (b := v9.heap.size) l7_bu (.bool false) (.slice xa8 (sz1).length xc8) (.slice ya8 (e2V f c1 (sz1) (rtG n x sz1 dz1) c2 (sz1) (rtG n x sz1 dz2)).length yc8)
  have N_hX8 := hX8.set3 (b := v9.heap.size) l8_bu (.bool false) (.slice xa8 (sz1).length xc8) (.slice ya8 (e2V f c1 (sz1) (rtG n x sz1 dz1) c2 (sz1) (rtG n x sz1 dz2)).length yc8)
  have N_hY8 := hY8.set3 (b := v9.heap.size) l8_bu (.bool false) (.slice xa8 (sz1).length xc8) (.slice ya8 (e2V f c1 (sz1) (rtG n x sz1 dz1) c2 (sz1) (rtG n x sz1 dz2)).length yc8)
  have N_hb : Hid (Below w.heap.size w (((v14.setCell ⟨v9.heap.size, 0, none⟩ (.bool false)).setCell ⟨v9.heap.size, 1, none⟩ (.slice xa8 (sz1).length xc8)).setCell ⟨v9.heap.size, 2, none⟩ (.slice ya8 (e2V f c1 (sz1) (rtG n x sz1 dz1) c2 (sz1) (rtG n x sz1 dz2)).length yc8))) := bel_set3 hb.out (Nat.le_of_lt o_p1_bu) (.bool false) (.slice xa8 (sz1).length xc8) (.slice ya8 (e2V f c1 (sz1) (rtG n x sz1 dz1) c2 (sz1) (rtG n x sz1 dz2)).length yc8)
  have N_p1_0 := N_p1.c0
  have N_p1_1 := N_p1.c1
  have N_p1_2 := N_p1.c2
  have N_p2_0 := N_p2.c0
  have N_p2_1 := N_p2.c1
  have N_p2_2 := N_p2.c2
  have N_bc_0 := N_bc.c0
  have N_bc_1 := N_bc.c1
  have N_bc_2 := N_bc.c2
  have N_bx_0 := N_bx.c0
  have N_bx_1 := N_bx.c1
  have N_bx_2 := N_bx.c2
  have N_bw_0 := N_bw.c0
  have N_bw_1 := N_bw.c1
  have N_bw_2 := N_bw.c2
  have N_bz_0 := N_bz.c0
  have N_bz_1 := N_bz.c1
  have N_bz_2 := N_bz.c2
  have N_bu_0 := N_bu.c0
  have N_bu_1 := N_bu.c1
  have N_bu_2 := N_bu.c2
  have N_bq_0 := N_bq.c0
  have N_bq_1 := N_bq.c1
  have N_bq_2 := N_bq.c2
  go_wp2_with fail
  clear fz_0 fz_1 fz_2 hb p1 p2 hXc hYc bc bx bw bz bu hX5 hY5 hX6 hY6 bq hX7 hY7 hX8 hY8 p1_0 p1_1 p1_2 p2_0 p2_1 p2_2 bc_0 bc_1 bc_2 bx_0 bx_1 bx_2 bw_0 bw_1 bw_2 bz_0 bz_1 bz_2 bu_0 bu_1 bu_2 bq_0 bq_1 bq_2
  have hb := N_hb
  have p1 := N_p1
  have p2 := N_p2
  have hXc := N_hXc
  have hYc := N_hYc
  have bc := N_bc
  have bx := N_bx
  have bw := N_bw
  have bz := N_bz
  have bu := N_bu
  have bq := N_bq
  have hX7 := N_hX7
  have hY7 := N_hY7
  have hX8 := N_hX8
  have hY8 := N_hY8
  have p1_0 := N_p1_0
  have p1_1 := N_p1_1
  have p1_2 := N_p1_2
  have p2_0 := N_p2_0
  have p2_1 := N_p2_1
  have p2_2 := N_p2_2
  have bc_0 := N_bc_0
  have bc_1 := N_bc_1
  have bc_2 := N_bc_2
  have bx_0 := N_bx_0
  have bx_1 := N_bx_1
  have bx_2 := N_bx_2
  have bw_0 := N_bw_0
  have bw_1 := N_bw_1
  have bw_2 := N_bw_2
  have bz_0 := N_bz_0
  have bz_1 := N_bz_1
  have bz_2 := N_bz_2
  have bu_0 := N_bu_0
  have bu_1 := N_bu_1
  have bu_2 := N_bu_2
  have bq_0 := N_bq_0
  have bq_1 := N_bq_1
  have bq_2 := N_bq_2
  clear N_hb N_p1 N_p2 N_hXc N_hYc N_bc N_bx N_bw N_bz N_bu N_bq N_hX7 N_hY7 N_hX8 N_hY8 N_p1_0 N_p1_1 N_p1_2 N_p2_0 N_p2_1 N_p2_2 N_bc_0 N_bc_1 N_bc_2 N_bx_0 N_bx_1 N_bx_2 N_bw_0 N_bw_1 N_bw_2 N_bz_0 N_bz_1 N_bz_2 N_bu_0 N_bu_1 N_bu_2 N_bq_0 N_bq_1 N_bq_2
  refine (alike_eq false xa8 xc8 (sz1) ya8 yc8 (e2V f c1 (sz1) (rtG n x sz1 dz1) c2 (sz1) (rtG n x sz1 dz2)) xa7 xc7 (sz1) ya7 yc7 (rtG n x sz1 (e2V f c1 sz1 dz1 c2 sz1 dz2)) rfl ((tc_rt (n := n) E.out F1.out).2).symm (tu_len (tc_c (tc_rt (n := n) E.out F1.out).1).2.2.1).1 (tu_len (tc_c (tc_rt (n := n) E.out F1.out).1).2.2.1).2 _ hX8.ints hY8.ints hX7.ints hY7.ints).mono ?_
  rintro e v15 ⟨rfl, hB⟩
  replace hb : Hid (Below w.heap.size w v15) := hb.out.trans (hB.mono hb.out.size)
  replace p1 := p1.go hB
  replace p2 := p2.go hB
  replace hXc := hXc.go hB
  replace hYc := hYc.go hB
  replace bc := bc.go hB
  replace bx := bx.go hB
  replace bw := bw.go hB
  replace bz := bz.go hB
  replace bu := bu.go hB
  replace bq := bq.go hB
  replace hX7 := hX7.go hB
  replace hY7 := hY7.go hB
  replace hX8 := hX8.go hB
  replace hY8 := hY8.go hB
  replace p1_0 := p1.c0
  replace p1_1 := p1.c1
  replace p1_2 := p1.c2
  replace p2_0 := p2.c0
  replace p2_1 := p2.c1
  replace p2_2 := p2.c2
  replace bc_0 := bc.c0
  replace bc_1 := bc.c1
  replace bc_2 := bc.c2
  replace bx_0 := bx.c0
  replace bx_1 := bx.c1
  replace bx_2 := bx.c2
  replace bw_0 := bw.c0
  replace bw_1 := bw.c1
  replace bw_2 := bw.c2
  replace bz_0 := bz.c0
  replace bz_1 := bz.c1
  replace bz_2 := bz.c2
  replace bu_0 := bu.c0
  replace bu_1 := bu.c1
  replace bu_2 := bu.c2
  replace bq_0 := bq.c0
  replace bq_1 := bq.c1
  replace bq_2 := bq.c2
  clear hB
  go_wp2_with fail
  have l9_p1 := p1.lt
  have l9_p2 := p2.lt
  have l9_bc := bc.lt
  have l9_bx := bx.lt
  have l9_bw := bw.lt
  have l9_bz := bz.lt
  have l9_bu := bu.lt
  have l9_bq := bq.lt
  refine (fl_no c1 sa1 sc1 sz1 da1 dc1 dz1 _ x1 x2 ((HI.out.1.1.below hb.out).mono hb.out.size) ((HI.out.1.2.1.below hb.out).mono hb.out.size) HI.out.1.2.2 HF pa pc p hpl ((HP.out.below hb.out).mono hb.out.size) F2.out).mono ?_
  rintro e v16 ⟨xa9, xc9, ya9, yc9, rfl, hB⟩
  replace hb : Hid (Below w.heap.size w v16) := hb.out.trans (hB.mono hb.out.size)
  replace p1 := p1.go hB
  replace p2 := p2.go hB
  replace hXc := hXc.go hB
  replace hYc := hYc.go hB
  replace bc := bc.go hB
  replace bx := bx.go hB
  replace bw := bw.go hB
  replace bz := bz.go hB
  replace bu := bu.go hB
  replace bq := bq.go hB
  replace hX7 := hX7.go hB
  replace hY7 := hY7.go hB
  replace hX8 := hX8.go hB
  replace hY8 := hY8.go hB
  replace p1_0 := p1.c0
  replace p1_1 := p1.c1
  replace p1_2 := p1.c2
  replace p2_0 := p2.c0
  replace p2_1 := p2.c1
  replace p2_2 := p2.c2
  replace bc_0 := bc.c0
  replace bc_1 := bc.c1
  replace bc_2 := bc.c2
  replace bx_0 := bx.c0
  replace bx_1 := bx.c1
  replace bx_2 := bx.c2
  replace bw_0 := bw.c0
  replace bw_1 := bw.c1
  replace bw_2 := bw.c2
  replace bz_0 := bz.c0
  replace bz_1 := bz.c1
  replace bz_2 := bz.c2
  replace bu_0 := bu.c0
  replace bu_1 := bu.c1
  replace bu_2 := bu.c2
  replace bq_0 := bq.c0
  replace bq_1 := bq.c1
  replace bq_2 := bq.c2
  clear hB
  have fz_0 := bx.fr 0
  have fz_1 := bx.fr 1
  have fz_2 := bx.fr 2
  have N_p1 := p1.ne3 (B := v6.heap.size) (by exact Nat.ne_of_lt o_p1_bx) (.bool false) (.slice xa9 0 xc9) (.slice ya9 0 yc9)
  have N_p2 := p2.ne3 (B := v6.heap.size) (by exact Nat.ne_of_lt o_p2_bx) (.bool false) (.slice xa9 0 xc9) (.slice ya9 0 yc9)
  have N_hXc := hXc.set3 (B := v6.heap.size) (Nat.le_of_lt o_bc_bx) (.bool false) (.slice xa9 0 xc9) (.slice ya9 0 yc9)
  have N_hYc := hYc.set3 (B := v6.heap.size) (Nat.le_of_lt o_bc_bx) (.bool false) (.slice xa9 0 xc9) (.slice ya9 0 yc9)
  have N_bc := bc.ne3 (B := v6.heap.size) (by exact Nat.ne_of_lt o_bc_bx) (.bool false) (.slice xa9 0 xc9) (.slice ya9 0 yc9)
  have N_bx := bx.set3 (.bool false) (.slice xa9 0 xc9) (.slice ya9 0 yc9)
  have N_bw := bw.ne3 (B := v6.heap.size) (by exact Nat.ne_of_gt o_bx_bw) (.bool false) (.slice xa9 0 xc9) (.slice ya9 0 yc9)
  have N_bz := bz.ne3 (B := v6.heap.size) (by exact Nat.ne_of_gt o_bx_bz) (.bool false) (.slice xa9 0 xc9) (.slice ya9 0 yc9)
  have N_bu := bu.ne3 (B := v6.heap.size) (by exact Nat.ne_of_gt o_bx_bu) (.bool false) (.slice xa9 0 xc9) (.slice ya9 0 yc9)
  have N_bq := bq.ne3 (B := v6.heap.size) (by exact Nat.ne_of_gt o_bx_bq) (.bool false) (.slice xa9 0 xc9) (.slice ya9 0 yc9)
  have N_hb : Hid (Below w.heap.size w (((v16.setCell ⟨v6.heap.size, 0, none⟩ (.bool false)).setCell ⟨v6.heap.size, 1, none⟩ (.slice xa9 0 xc9)).setCell ⟨v6.heap.size, 2, none⟩ (.slice ya9 0 yc9))) := bel_set3 hb.out (Nat.le_of_lt o_p1_bx) (.bool false) (.slice xa9 0 xc9) (.slice ya9 0 yc9)
  have N_p1_0 := N_p1.c0
  have N_p1_1 := N_p1.c1
  have N_p1_2 := N_p1.c2
  have N_p2_0 := N_p2.c0
  have N_p2_1 := N_p2.c1
  have N_p2_2 := N_p2.c2
  have N_bc_0 := N_bc.c0
  have N_bc_1 := N_bc.c1
  have N_bc_2 := N_bc.c2
  have N_bx_0 := N_bx.c0
  have N_bx_1 := N_bx.c1
  have N_bx_2 := N_bx.c2
  have N_bw_0 := N_bw.c0
  have N_bw_1 := N_bw.c1
  have N_bw_2 := N_bw.c2
  have N_bz_0 := N_bz.c0
  have N_bz_1 := N_bz.c1
  have N_bz_2 := N_bz.c2
  have N_bu_0 := N_bu.c0
  have N_bu_1 := N_bu.c1
  have N_bu_2 := N_bu.c2
  have N_bq_0 := N_bq.c0
  have N_bq_1 := N_bq.c1
  have N_bq_2 := N_bq.c2
  go_wp2_with fail
  clear fz_0 fz_1 fz_2 hb p1 p2 hXc hYc bc bx bw bz bu bq hX7 hY7 hX8 hY8 p1_0 p1_1 p1_2 p2_0 p2_1 p2_2 bc_0 bc_1 bc_2 bx_0 bx_1 bx_2 bw_0 bw_1 bw_2 bz_0 bz_1 bz_2 bu_0 bu_1 bu_2 bq_0 bq_1 bq_2
  have hb := N_hb
  have p1 := N_p1
  have p2 := N_p2
  have hXc := N_hXc
  have hYc := N_hYc
  have bc := N_bc
  have bx := N_bx
  have bw := N_bw
  have bz := N_bz
  have bu := N_bu
  have bq := N_bq
  have p1_0 := N_p1_0
  have p1_1 := N_p1_1
  have p1_2 := N_p1_2
  have p2_0 := N_p2_0
  have p2_1 := N_p2_1
  have p2_2 := N_p2_2
  have bc_0 := N_bc_0
  have bc_1 := N_bc_1
  have bc_2 := N_bc_2
  have bx_0 := N_bx_0
  have bx_1 := N_bx_1
  have bx_2 := N_bx_2
  have bw_0 := N_bw_0
  have bw_1 := N_bw_1
  have bw_2 := N_bw_2
  have bz_0 := N_bz_0
  have bz_1 := N_bz_1
  have bz_2 := N_bz_2
  have bu_0 := N_bu_0
  have bu_1 := N_bu_1
  have bu_2 := N_bu_2
  have bq_0 := N_bq_0
  have bq_1 := N_bq_1
  have bq_2 := N_bq_2
  clear N_hb N_p1 N_p2 N_hXc N_hYc N_bc N_bx N_bw N_bz N_bu N_bq N_p1_0 N_p1_1 N_p1_2 N_p2_0 N_p2_1 N_p2_2 N_bc_0 N_bc_1 N_bc_2 N_bx_0 N_bx_1 N_bx_2 N_bw_0 N_bw_1 N_bw_2 N_bz_0 N_bz_1 N_bz_2 N_bu_0 N_bu_1 N_bu_2 N_bq_0 N_bq_1 N_bq_2
  go_ret
  exact ⟨rfl, hb.out⟩
set_option maxRecDepth 100000 in
set_option maxHeartbeats 40000000 in
theorem cells_oo (HR : CRv) (HT : CRt) (HF : CFl) (H2 : C2c) (f n x : Int) (hf : In64 f) (hn : In64 n) (hx : In64 x) (pa : Option Addr) (pc : Nat) (p : List Int) (hpl : p.length ≤ 9223372036854775807) (c1 : Bool) (sa1 : Option Addr) (sc1 : Nat) (sz1 : List Int) (da1 : Option Addr) (dc1 : Nat) (dz1 : List Int) (c2 : Bool) (sa2 : Option Addr) (sc2 : Nat) (da2 : Option Addr) (dc2 : Nat) (dz2 : List Int) (w : World) (hp : IsInts w.heap.size w pa p) (w9 : IsArrC w sa1 sz1 sc1 da1 dz1) (w8 : IsArrC w sa2 sz1 sc2 da2 dz2) (E : Hid (e2E f c1 sz1 dz1 c2 sz1 dz2 = 0)) (F1 : Hid (axE x c1 sz1 dz1 = 0)) (F2 : Hid (flE p c1 sz1 dz1 = 0)) :
    Calls Try.prog 3 #[.int .i64 f, .int .i64 n, .int .i64 x, .slice pa p.length pc, .agg #[.bool c1, .slice sa1 sz1.length sc1, .slice da1 dz1.length dc1], .agg #[.bool c2, .slice sa2 sz1.length sc2, .slice da2 dz2.length dc2]] w fun e w' => e = .returned (.bool true) ∧ Below w.heap.size w w' := by
  obtain ⟨x1, x2, x3, x4, _, T⟩ := w9
  obtain ⟨y1, y2, y3, y4, _, T'⟩ := w8
  have HI : Hid ((IsC w.heap.size w sa1 sz1 sc1 ∧ IsInts w.heap.size w da1 dz1 ∧ ∀ j, In64 (nth dz1 j)) ∧ (IsC w.heap.size w sa2 sz1 sc2 ∧ IsInts w.heap.size w da2 dz2 ∧ ∀ j, In64 (nth dz2 j))) := ⟨⟨x3, x4, T⟩, y3, y4, T'⟩
  have HP : Hid (IsInts w.heap.size w pa p) := hp
  clear x3 x4 T y3 y4 T' hp
  have p1 : Abx ((w.alloc (.cells #[.bool c1, .slice sa1 sz1.length sc1, .slice da1 dz1.length dc1] 25)).alloc (.cells #[.bool c2, .slice sa2 sz1.length sc2, .slice da2 dz2.length dc2] 25)) w.heap.size (.bool c1) (.slice sa1 sz1.length sc1) (.slice da1 dz1.length dc1) := (Abx.new w _ _ _).al _
  have p2 : Abx ((w.alloc (.cells #[.bool c1, .slice sa1 sz1.length sc1, .slice da1 dz1.length dc1] 25)).alloc (.cells #[.bool c2, .slice sa2 sz1.length sc2, .slice da2 dz2.length dc2] 25)) (w.heap.size + 1) (.bool c2) (.slice sa2 sz1.length sc2) (.slice da2 dz2.length dc2) := Abx.new1 w _ _ _ _
  have hb : Hid (Below w.heap.size w ((w.alloc (.cells #[.bool c1, .slice sa1 sz1.length sc1, .slice da1 dz1.length dc1] 25)).alloc (.cells #[.bool c2, .slice sa2 sz1.length sc2, .slice da2 dz2.length dc2] 25))) := ((Below.refl _ w).alloc (Nat.le_refl _) _).alloc (by simp) _
  have p1_0 := p1.c0
  have p1_1 := p1.c1
  have p1_2 := p1.c2
  have p2_0 := p2.c0
  have p2_1 := p2.c1
  have p2_2 := p2.c2
  replace hb : Hid (Below w.heap.size w (((w.alloc (.cells #[.bool c1, .slice sa1 sz1.length sc1, .slice da1 dz1.length dc1] 25)).alloc (.cells #[.bool c2, .slice sa2 sz1.length sc2, .slice da2 dz2.length dc2] 25)).alloc (.cells #[.int .i64 1, .int .i64 2] 3))) := hb.out.alloc hb.out.size _
  replace p1 := p1.al (.cells #[.int .i64 1, .int .i64 2] 3)
  replace p2 := p2.al (.cells #[.int .i64 1, .int .i64 2] 3)
  replace p1_0 := p1.c0
  replace p1_1 := p1.c1
  replace p1_2 := p1.c2
  replace p2_0 := p2.c0
  replace p2_1 := p2.c1
  replace p2_2 := p2.c2
  have nl := new_lit ((w.alloc (.cells #[.bool c1, .slice sa1 sz1.length sc1, .slice da1 dz1.length dc1] 25)).alloc (.cells #[.bool c2, .slice sa2 sz1.length sc2, .slice da2 dz2.length dc2] 25)) 3 [1, 2]
  simp only [World.size_alloc] at nl
  go_enter Try.func3, Try.ntmps3
  go_wp2_with fail
  refine (vec_any (some ⟨w.heap.size + 1 + 1, 0, none⟩) 2 [1, 2] (by simp) _ nl.ints).mono ?_
  rintro e v1 ⟨va, vc, ga, gc, rfl, hV, hG, hB⟩
  replace hb : Hid (Below w.heap.size w v1) := hb.out.trans (hB.mono hb.out.size)
  replace p1 := p1.go hB
  replace p2 := p2.go hB
  replace p1_0 := p1.c0
  replace p1_1 := p1.c1
  replace p1_2 := p1.c2
  replace p2_0 := p2.c0
  replace p2_1 := p2.c1
  replace p2_2 := p2.c2
  clear hB
  clear nl
  go_wp2_with fail
  refine (rv_ok false va vc [2] ga gc [1, 2] _ (by simp) (by simp) hV.ints hG.ints (lit_all (by decide)) HR 0 (by unfold In64; decide) (by decide)).mono ?_
  rintro e v2 ⟨f1, g1, f2, g2, he, _, hY, hB⟩
  replace hb : Hid (Below w.heap.size w v2) := hb.out.trans (hB.mono hb.out.size)
  replace p1 := p1.go hB
  replace p2 := p2.go hB
  replace hV := hV.go hB
  replace hG := hG.go hB
  replace p1_0 := p1.c0
  replace p1_1 := p1.c1
  replace p1_2 := p1.c2
  replace p2_0 := p2.c0
  replace p2_1 := p2.c1
  replace p2_2 := p2.c2
  clear hB
  rw [fact_v] at he hY
  subst he
  replace hb : Hid (Below w.heap.size w (v2.alloc (.cells #[.bool false, .slice f1 1 g1, .slice f2 2 g2] 25))) := hb.out.alloc hb.out.size _
  replace p1 := p1.al (.cells #[.bool false, .slice f1 1 g1, .slice f2 2 g2] 25)
  replace p2 := p2.al (.cells #[.bool false, .slice f1 1 g1, .slice f2 2 g2] 25)
  replace hV := hV.al (.cells #[.bool false, .slice f1 1 g1, .slice f2 2 g2] 25)
  replace hG := hG.al (.cells #[.bool false, .slice f1 1 g1, .slice f2 2 g2] 25)
  replace hY := hY.al (.cells #[.bool false, .slice f1 1 g1, .slice f2 2 g2] 25)
  replace p1_0 := p1.c0
  replace p1_1 := p1.c1
  replace p1_2 := p1.c2
  replace p2_0 := p2.c0
  replace p2_1 := p2.c1
  replace p2_2 := p2.c2
  replace hb : Hid (Below w.heap.size w ((v2.alloc (.cells #[.bool false, .slice f1 1 g1, .slice f2 2 g2] 25)).alloc (.cells #[.int .i64 2, .int .i64 1] 3))) := hb.out.alloc hb.out.size _
  replace p1 := p1.al (.cells #[.int .i64 2, .int .i64 1] 3)
  replace p2 := p2.al (.cells #[.int .i64 2, .int .i64 1] 3)
  replace hV := hV.al (.cells #[.int .i64 2, .int .i64 1] 3)
  replace hG := hG.al (.cells #[.int .i64 2, .int .i64 1] 3)
  replace hY := hY.al (.cells #[.int .i64 2, .int .i64 1] 3)
  replace p1_0 := p1.c0
  replace p1_1 := p1.c1
  replace p1_2 := p1.c2
  replace p2_0 := p2.c0
  replace p2_1 := p2.c1
  replace p2_2 := p2.c2
  have nl := new_lit (v2.alloc (.cells #[.bool false, .slice f1 1 g1, .slice f2 2 g2] 25)) 3 [2, 1]
  simp only [World.size_alloc] at nl
  go_wp2_with fail
  refine (ints_any f2 g2 [2, 1] (some ⟨v2.heap.size + 1, 0, none⟩) 2 [2, 1] (by simp) _ _ hY.ints nl.ints).mono ?_
  rintro e v3 ⟨rfl, hB⟩
  replace hb : Hid (Below w.heap.size w v3) := hb.out.trans (hB.mono hb.out.size)
  replace p1 := p1.go hB
  replace p2 := p2.go hB
  replace hV := hV.go hB
  replace hG := hG.go hB
  replace hY := hY.go hB
  replace p1_0 := p1.c0
  replace p1_1 := p1.c1
  replace p1_2 := p1.c2
  replace p2_0 := p2.c0
  replace p2_1 := p2.c1
  replace p2_2 := p2.c2
  clear hB
  clear nl hY hV hG
  rw [eqB_true rfl]
  go_wp2_with fail
  refine (ints_any sa1 sc1 sz1 sa2 sc2 sz1 x1 _ _ ((HI.out.1.1.1.below hb.out).mono hb.out.size) ((HI.out.2.1.1.below hb.out).mono hb.out.size)).mono ?_
  rintro e v4 ⟨rfl, hB⟩
  replace hb : Hid (Below w.heap.size w v4) := hb.out.trans (hB.mono hb.out.size)
  replace p1 := p1.go hB
  replace p2 := p2.go hB
  replace p1_0 := p1.c0
  replace p1_1 := p1.c1
  replace p1_2 := p1.c2
  replace p2_0 := p2.c0
  replace p2_1 := p2.c1
  replace p2_2 := p2.c2
  clear hB
  go_wp2_with fail
  refine (tc_two H2 f c1 sa1 sc1 sz1 da1 dc1 dz1 c2 sa2 sc2 sz1 da2 dc2 dz2 _ hf x1 x2 ((HI.out.1.1.below hb.out).mono hb.out.size) ((HI.out.1.2.1.below hb.out).mono hb.out.size) ((HI.out.2.1.below hb.out).mono hb.out.size) ((HI.out.2.2.1.below hb.out).mono hb.out.size) HI.out.1.2.2 HI.out.2.2.2 E.out).mono ?_
  rintro e v5 ⟨xa0, xc0, ya0, yc0, rfl, hX0, hY0, hB⟩
  replace hb : Hid (Below w.heap.size w v5) := hb.out.trans (hB.mono hb.out.size)
  replace p1 := p1.go hB
  replace p2 := p2.go hB
  replace p1_0 := p1.c0
  replace p1_1 := p1.c1
  replace p1_2 := p1.c2
  replace p2_0 := p2.c0
  replace p2_1 := p2.c1
  replace p2_2 := p2.c2
  clear hB
  have hXc := OldC.of hX0
  have hYc := OldI.of hY0
  clear hX0 hY0
  have o_p1_bc := p1.lt
  have o_p2_bc := p2.lt
  replace hb : Hid (Below w.heap.size w (v5.alloc (.cells #[.bool false, .slice xa0 sz1.length xc0, .slice ya0 (e2V f c1 sz1 dz1 c2 sz1 dz2).length yc0] 25))) := hb.out.alloc hb.out.size _
  replace p1 := p1.al (.cells #[.bool false, .slice xa0 sz1.length xc0, .slice ya0 (e2V f c1 sz1 dz1 c2 sz1 dz2).length yc0] 25)
  replace p2 := p2.al (.cells #[.bool false, .slice xa0 sz1.length xc0, .slice ya0 (e2V f c1 sz1 dz1 c2 sz1 dz2).length yc0] 25)
  replace hXc := hXc.al (.cells #[.bool false, .slice xa0 sz1.length xc0, .slice ya0 (e2V f c1 sz1 dz1 c2 sz1 dz2).length yc0] 25)
  replace hYc := hYc.al (.cells #[.bool false, .slice xa0 sz1.length xc0, .slice ya0 (e2V f c1 sz1 dz1 c2 sz1 dz2).length yc0] 25)
  replace p1_0 := p1.c0
  replace p1_1 := p1.c1
  replace p1_2 := p1.c2
  replace p2_0 := p2.c0
  replace p2_1 := p2.c1
  replace p2_2 := p2.c2
  have bc := Abx.new v5 (.bool false) (.slice xa0 sz1.length xc0) (.slice ya0 (e2V f c1 sz1 dz1 c2 sz1 dz2).length yc0)
  have bc_0 := bc.c0
  have bc_1 := bc.c1
  have bc_2 := bc.c2
  rw [eqB_true rfl]
  go_wp2_with fail
  have l1_p1 := p1.lt
  have l1_p2 := p2.lt
  have l1_bc := bc.lt
  refine (rv_ok c1 sa1 sc1 sz1 da1 dc1 dz1 _ x1 x2 ((HI.out.1.1.below hb.out).mono hb.out.size) ((HI.out.1.2.1.below hb.out).mono hb.out.size) HI.out.1.2.2 HR x hx F1.out).mono ?_
  rintro e v6 ⟨xa1, xc1, ya1, yc1, rfl, hX1, hY1, hB⟩
  replace hb : Hid (Below w.heap.size w v6) := hb.out.trans (hB.mono hb.out.size)
  replace p1 := p1.go hB
  replace p2 := p2.go hB
  replace hXc := hXc.go hB
  replace hYc := hYc.go hB
  replace bc := bc.go hB
  replace p1_0 := p1.c0
  replace p1_1 := p1.c1
  replace p1_2 := p1.c2
  replace p2_0 := p2.c0
  replace p2_1 := p2.c1
  replace p2_2 := p2.c2
  replace bc_0 := bc.c0
  replace bc_1 := bc.c1
  replace bc_2 := bc.c2
  clear hB
  have o_p1_bx := p1.lt
  have o_p2_bx := p2.lt
  have o_bc_bx := bc.lt
  replace hb : Hid (Below w.heap.size w (v6.alloc (.cells #[.bool c1, .slice xa1 (sz1).length xc1, .slice ya1 (rvG x sz1 dz1).length yc1] 25))) := hb.out.alloc hb.out.size _
  replace p1 := p1.al (.cells #[.bool c1, .slice xa1 (sz1).length xc1, .slice ya1 (rvG x sz1 dz1).length yc1] 25)
  replace p2 := p2.al (.cells #[.bool c1, .slice xa1 (sz1).length xc1, .slice ya1 (rvG x sz1 dz1).length yc1] 25)
  replace hXc := hXc.al (.cells #[.bool c1, .slice xa1 (sz1).length xc1, .slice ya1 (rvG x sz1 dz1).length yc1] 25)
  replace hYc := hYc.al (.cells #[.bool c1, .slice xa1 (sz1).length xc1, .slice ya1 (rvG x sz1 dz1).length yc1] 25)
  replace bc := bc.al (.cells #[.bool c1, .slice xa1 (sz1).length xc1, .slice ya1 (rvG x sz1 dz1).length yc1] 25)
  replace hX1 := hX1.al (.cells #[.bool c1, .slice xa1 (sz1).length xc1, .slice ya1 (rvG x sz1 dz1).length yc1] 25)
  replace hY1 := hY1.al (.cells #[.bool c1, .slice xa1 (sz1).length xc1, .slice ya1 (rvG x sz1 dz1).length yc1] 25)
  replace p1_0 := p1.c0
  replace p1_1 := p1.c1
  replace p1_2 := p1.c2
  replace p2_0 := p2.c0
  replace p2_1 := p2.c1
  replace p2_2 := p2.c2
  replace bc_0 := bc.c0
  replace bc_1 := bc.c1
  replace bc_2 := bc.c2
  have bx := Abx.new v6 (.bool c1) (.slice xa1 (sz1).length xc1) (.slice ya1 (rvG x sz1 dz1).length yc1)
  have bx_0 := bx.c0
  have bx_1 := bx.c1
  have bx_2 := bx.c2
  go_wp2_with fail
  have l2_p1 := p1.lt
  have l2_p2 := p2.lt
  have l2_bc := bc.lt
  have l2_bx := bx.lt
  refine (rv_ok c2 sa2 sc2 sz1 da2 dc2 dz2 _ x1 y2 ((HI.out.2.1.below hb.out).mono hb.out.size) ((HI.out.2.2.1.below hb.out).mono hb.out.size) HI.out.2.2.2 HR x hx (tc_rv E.out F1.out).1).mono ?_
  rintro e v7 ⟨xa2, xc2, ya2, yc2, rfl, hX2, hY2, hB⟩
  replace hb : Hid (Below w.heap.size w v7) := hb.out.trans (hB.mono hb.out.size)
  replace p1 := p1.go hB
  replace p2 := p2.go hB
  replace hXc := hXc.go hB
  replace hYc := hYc.go hB
  replace bc := bc.go hB
  replace hX1 := hX1.go hB
  replace hY1 := hY1.go hB
  replace bx := bx.go hB
  replace p1_0 := p1.c0
  replace p1_1 := p1.c1
  replace p1_2 := p1.c2
  replace p2_0 := p2.c0
  replace p2_1 := p2.c1
  replace p2_2 := p2.c2
  replace bc_0 := bc.c0
  replace bc_1 := bc.c1
  replace bc_2 := bc.c2
  replace bx_0 := bx.c0
  replace bx_1 := bx.c1
  replace bx_2 := bx.c2
  clear hB
  have o_p1_bw := p1.lt
  have o_p2_bw := p2.lt
  have o_bc_bw := bc.lt
  have o_bx_bw := bx.lt
  replace hb : Hid (Below w.heap.size w (v7.alloc (.cells #[.bool c2, .slice xa2 (sz1).length xc2, .slice ya2 (rvG x sz1 dz2).length yc2] 25))) := hb.out.alloc hb.out.size _
  replace p1 := p1.al (.cells #[.bool c2, .slice xa2 (sz1).length xc2, .slice ya2 (rvG x sz1 dz2).length yc2] 25)
  replace p2 := p2.al (.cells #[.bool c2, .slice xa2 (sz1).length xc2, .slice ya2 (rvG x sz1 dz2).length yc2] 25)
  replace hXc := hXc.al (.cells #[.bool c2, .slice xa2 (sz1).length xc2, .slice ya2 (rvG x sz1 dz2).length yc2] 25)
  replace hYc := hYc.al (.cells #[.bool c2, .slice xa2 (sz1).length xc2, .slice ya2 (rvG x sz1 dz2).length yc2] 25)
  replace bc := bc.al (.cells #[.bool c2, .slice xa2 (sz1).length xc2, .slice ya2 (rvG x sz1 dz2).length yc2] 25)
  replace hX1 := hX1.al (.cells #[.bool c2, .slice xa2 (sz1).length xc2, .slice ya2 (rvG x sz1 dz2).length yc2] 25)
  replace hY1 := hY1.al (.cells #[.bool c2, .slice xa2 (sz1).length xc2, .slice ya2 (rvG x sz1 dz2).length yc2] 25)
  replace bx := bx.al (.cells #[.bool c2, .slice xa2 (sz1).length xc2, .slice ya2 (rvG x sz1 dz2).length yc2] 25)
  replace hX2 := hX2.al (.cells #[.bool c2, .slice xa2 (sz1).length xc2, .slice ya2 (rvG x sz1 dz2).length yc2] 25)
  replace hY2 := hY2.al (.cells #[.bool c2, .slice xa2 (sz1).length xc2, .slice ya2 (rvG x sz1 dz2).length yc2] 25)
  replace p1_0 := p1.c0
  replace p1_1 := p1.c1
  replace p1_2 := p1.c2
  replace p2_0 := p2.c0
  replace p2_1 := p2.c1
  replace p2_2 := p2.c2
  replace bc_0 := bc.c0
  replace bc_1 := bc.c1
  replace bc_2 := bc.c2
  replace bx_0 := bx.c0
  replace bx_1 := bx.c1
  replace bx_2 := bx.c2
  have bw := Abx.new v7 (.bool c2) (.slice xa2 (sz1).length xc2) (.slice ya2 (rvG x sz1 dz2).length yc2)
  have bw_0 := bw.c0
  have bw_1 := bw.c1
  have bw_2 := bw.c2
  go_wp2_with fail
  have l3_p1 := p1.lt
  have l3_p2 := p2.lt
  have l3_bc := bc.lt
  have l3_bx := bx.lt
  have l3_bw := bw.lt
  refine (rv_ok false xa0 xc0 sz1 ya0 yc0 (e2V f c1 sz1 dz1 c2 sz1 dz2) _ x1 (tu_len (tc_c E.out).2.2.1).2 hXc.ints hYc.ints (e2V_64 E.out HI.out.1.2.2 HI.out.2.2.2) HR x hx (tc_rv E.out F1.out).2.1).mono ?_
  rintro e v8 ⟨xa3, xc3, ya3, yc3, rfl, hX3, hY3, hB⟩
  replace hb : Hid (Below w.heap.size w v8) := hb.out.trans (hB.mono hb.out.size)
  replace p1 := p1.go hB
  replace p2 := p2.go hB
  replace hXc := hXc.go hB
  replace hYc := hYc.go hB
  replace bc := bc.go hB
  replace hX1 := hX1.go hB
  replace hY1 := hY1.go hB
  replace bx := bx.go hB
  replace hX2 := hX2.go hB
  replace hY2 := hY2.go hB
  replace bw := bw.go hB
  replace p1_0 := p1.c0
  replace p1_1 := p1.c1
  replace p1_2 := p1.c2
  replace p2_0 := p2.c0
  replace p2_1 := p2.c1
  replace p2_2 := p2.c2
  replace bc_0 := bc.c0
  replace bc_1 := bc.c1
  replace bc_2 := bc.c2
  replace bx_0 := bx.c0
  replace bx_1 := bx.c1
  replace bx_2 := bx.c2
  replace bw_0 := bw.c0
  replace bw_1 := bw.c1
  replace bw_2 := bw.c2
  clear hB
  have o_p1_bz := p1.lt
  have o_p2_bz := p2.lt
  have o_bc_bz := bc.lt
  have o_bx_bz := bx.lt
  have o_bw_bz := bw.lt
  replace hb : Hid (Below w.heap.size w (v8.alloc (.cells #[.bool false, .slice xa3 (sz1).length xc3, .slice ya3 (rvG x sz1 (e2V f c1 sz1 dz1 c2 sz1 dz2)).length yc3] 25))) := hb.out.alloc hb.out.size _
  replace p1 := p1.al (.cells #[.bool false, .slice xa3 (sz1).length xc3, .slice ya3 (rvG x sz1 (e2V f c1 sz1 dz1 c2 sz1 dz2)).length yc3] 25)
  replace p2 := p2.al (.cells #[.bool false, .slice xa3 (sz1).length xc3, .slice ya3 (rvG x sz1 (e2V f c1 sz1 dz1 c2 sz1 dz2)).length yc3] 25)
  replace hXc := hXc.al (.cells #[.bool false, .slice xa3 (sz1).length xc3, .slice ya3 (rvG x sz1 (e2V f c1 sz1 dz1 c2 sz1 dz2)).length yc3] 25)
  replace hYc := hYc.al (.cells #[.bool false, .slice xa3 (sz1).length xc3, .slice ya3 (rvG x sz1 (e2V f c1 sz1 dz1 c2 sz1 dz2)).length yc3] 25)
  replace bc := bc.al (.cells #[.bool false, .slice xa3 (sz1).length xc3, .slice ya3 (rvG x sz1 (e2V f c1 sz1 dz1 c2 sz1 dz2)).length yc3] 25)
  replace hX1 := hX1.al (.cells #[.bool false, .slice xa3 (sz1).length xc3, .slice ya3 (rvG x sz1 (e2V f c1 sz1 dz1 c2 sz1 dz2)).length yc3] 25)
  replace hY1 := hY1.al (.cells #[.bool false, .slice xa3 (sz1).length xc3, .slice ya3 (rvG x sz1 (e2V f c1 sz1 dz1 c2 sz1 dz2)).length yc3] 25)
  replace bx := bx.al (.cells #[.bool false, .slice xa3 (sz1).length xc3, .slice ya3 (rvG x sz1 (e2V f c1 sz1 dz1 c2 sz1 dz2)).length yc3] 25)
  replace hX2 := hX2.al (.cells #[.bool false, .slice xa3 (sz1).length xc3, .slice ya3 (rvG x sz1 (e2V f c1 sz1 dz1 c2 sz1 dz2)).length yc3] 25)
  replace hY2 := hY2.al (.cells #[.bool false, .slice xa3 (sz1).length xc3, .slice ya3 (rvG x sz1 (e2V f c1 sz1 dz1 c2 sz1 dz2)).length yc3] 25)
  replace bw := bw.al (.cells #[.bool false, .slice xa3 (sz1).length xc3, .slice ya3 (rvG x sz1 (e2V f c1 sz1 dz1 c2 sz1 dz2)).length yc3] 25)
  replace hX3 := hX3.al (.cells #[.bool false, .slice xa3 (sz1).length xc3, .slice ya3 (rvG x sz1 (e2V f c1 sz1 dz1 c2 sz1 dz2)).length yc3] 25)
  replace hY3 := hY3.al (.cells #[.bool false, .slice xa3 (sz1).length xc3, .slice ya3 (rvG x sz1 (e2V f c1 sz1 dz1 c2 sz1 dz2)).length yc3] 25)
  replace p1_0 := p1.c0
  replace p1_1 := p1.c1
  replace p1_2 := p1.c2
  replace p2_0 := p2.c0
  replace p2_1 := p2.c1
  replace p2_2 := p2.c2
  replace bc_0 := bc.c0
  replace bc_1 := bc.c1
  replace bc_2 := bc.c2
  replace bx_0 := bx.c0
  replace bx_1 := bx.c1
  replace bx_2 := bx.c2
  replace bw_0 := bw.c0
  replace bw_1 := bw.c1
  replace bw_2 := bw.c2
  have bz := Abx.new v8 (.bool false) (.slice xa3 (sz1).length xc3) (.slice ya3 (rvG x sz1 (e2V f c1 sz1 dz1 c2 sz1 dz2)).length yc3)
  have bz_0 := bz.c0
  have bz_1 := bz.c1
  have bz_2 := bz.c2
  go_wp2_with fail
  have l4_p1 := p1.lt
  have l4_p2 := p2.lt
  have l4_bc := bc.lt
  have l4_bx := bx.lt
  have l4_bw := bw.lt
  have l4_bz := bz.lt
  refine (tc_two2 H2 f c1 xa1 xc1 (sz1) ya1 yc1 (rvG x sz1 dz1) c2 xa2 xc2 ya2 yc2 (rvG x sz1 dz2) _ hf (tu_len (rv_flaw F1.out)).1 (tu_len (rv_flaw F1.out)).2 (tu_len (rv_flaw (tc_rv E.out F1.out).1)).2 hX1.ints hY1.ints hX2.ints hY2.ints (GA_64 HI.out.1.2.2) (GA_64 HI.out.2.2.2) (tc_rv E.out F1.out).2.2.1).mono ?_
  rintro e v9 ⟨xa4, xc4, ya4, yc4, rfl, hX4, hY4, hB⟩
  replace hb : Hid (Below w.heap.size w v9) := hb.out.trans (hB.mono hb.out.size)
  replace p1 := p1.go hB
  replace p2 := p2.go hB
  replace hXc := hXc.go hB
  replace hYc := hYc.go hB
  replace bc := bc.go hB
  replace hX1 := hX1.go hB
  replace hY1 := hY1.go hB
  replace bx := bx.go hB
  replace hX2 := hX2.go hB
  replace hY2 := hY2.go hB
  replace bw := bw.go hB
  replace hX3 := hX3.go hB
  replace hY3 := hY3.go hB
  replace bz := bz.go hB
  replace p1_0 := p1.c0
  replace p1_1 := p1.c1
  replace p1_2 := p1.c2
  replace p2_0 := p2.c0
  replace p2_1 := p2.c1
  replace p2_2 := p2.c2
  replace bc_0 := bc.c0
  replace bc_1 := bc.c1
  replace bc_2 := bc.c2
  replace bx_0 := bx.c0
  replace bx_1 := bx.c1
  replace bx_2 := bx.c2
  replace bw_0 := bw.c0
  replace bw_1 := bw.c1
  replace bw_2 := bw.c2
  replace bz_0 := bz.c0
  replace bz_1 := bz.c1
  replace bz_2 := bz.c2
  clear hB
  have o_p1_bu := p1.lt
  have o_p2_bu := p2.lt
  have o_bc_bu := bc.lt
  have o_bx_bu := bx.lt
  have o_bw_bu := bw.lt
  have o_bz_bu := bz.lt
  replace hb : Hid (Below w.heap.size w (v9.alloc (.cells #[.bool false, .slice xa4 (sz1).length xc4, .slice ya4 (e2V f c1 (sz1) (rvG x sz1 dz1) c2 (sz1) (rvG x sz1 dz2)).length yc4] 25))) := hb.out.alloc hb.out.size _
  replace p1 := p1.al (.cells #[.bool false, .slice xa4 (sz1).length xc4, .slice ya4 (e2V f c1 (sz1) (rvG x sz1 dz1) c2 (sz1) (rvG x sz1 dz2)).length yc4] 25)
  replace p2 := p2.al (.cells #[.bool false, .slice xa4 (sz1).length xc4, .slice ya4 (e2V f c1 (sz1) (rvG x sz1 dz1) c2 (sz1) (rvG x sz1 dz2)).length yc4] 25)
  replace hXc := hXc.al (.cells #[.bool false, .slice xa4 (sz1).length xc4, .slice ya4 (e2V f c1 (sz1) (rvG x sz1 dz1) c2 (sz1) (rvG x sz1 dz2)).length yc4] 25)
  replace hYc := hYc.al (.cells #[.bool false, .slice xa4 (sz1).length xc4, .slice ya4 (e2V f c1 (sz1) (rvG x sz1 dz1) c2 (sz1) (rvG x sz1 dz2)).length yc4] 25)
  replace bc := bc.al (.cells #[.bool false, .slice xa4 (sz1).length xc4, .slice ya4 (e2V f c1 (sz1) (rvG x sz1 dz1) c2 (sz1) (rvG x sz1 dz2)).length yc4] 25)
  replace hX1 := hX1.al (.cells #[.bool false, .slice xa4 (sz1).length xc4, .slice ya4 (e2V f c1 (sz1) (rvG x sz1 dz1) c2 (sz1) (rvG x sz1 dz2)).length yc4] 25)
  replace hY1 := hY1.al (.cells #[.bool false, .slice xa4 (sz1).length xc4, .slice ya4 (e2V f c1 (sz1) (rvG x sz1 dz1) c2 (sz1) (rvG x sz1 dz2)).length yc4] 25)
  replace bx := bx.al (.cells #[.bool false, .slice xa4 (sz1).length xc4, .slice ya4 (e2V f c1 (sz1) (rvG x sz1 dz1) c2 (sz1) (rvG x sz1 dz2)).length yc4] 25)
  replace hX2 := hX2.al (.cells #[.bool false, .slice xa4 (sz1).length xc4, .slice ya4 (e2V f c1 (sz1) (rvG x sz1 dz1) c2 (sz1) (rvG x sz1 dz2)).length yc4] 25)
  replace hY2 := hY2.al (.cells #[.bool false, .slice xa4 (sz1).length xc4, .slice ya4 (e2V f c1 (sz1) (rvG x sz1 dz1) c2 (sz1) (rvG x sz1 dz2)).length yc4] 25)
  replace bw := bw.al (.cells #[.bool false, .slice xa4 (sz1).length xc4, .slice ya4 (e2V f c1 (sz1) (rvG x sz1 dz1) c2 (sz1) (rvG x sz1 dz2)).length yc4] 25)
  replace hX3 := hX3.al (.cells #[.bool false, .slice xa4 (sz1).length xc4, .slice ya4 (e2V f c1 (sz1) (rvG x sz1 dz1) c2 (sz1) (rvG x sz1 dz2)).length yc4] 25)
  replace hY3 := hY3.al (.cells #[.bool false, .slice xa4 (sz1).length xc4, .slice ya4 (e2V f c1 (sz1) (rvG x sz1 dz1) c2 (sz1) (rvG x sz1 dz2)).length yc4] 25)
  replace bz := bz.al (.cells #[.bool false, .slice xa4 (sz1).length xc4, .slice ya4 (e2V f c1 (sz1) (rvG x sz1 dz1) c2 (sz1) (rvG x sz1 dz2)).length yc4] 25)
  replace hX4 := hX4.al (.cells #[.bool false, .slice xa4 (sz1).length xc4, .slice ya4 (e2V f c1 (sz1) (rvG x sz1 dz1) c2 (sz1) (rvG x sz1 dz2)).length yc4] 25)
  replace hY4 := hY4.al (.cells #[.bool false, .slice xa4 (sz1).length xc4, .slice ya4 (e2V f c1 (sz1) (rvG x sz1 dz1) c2 (sz1) (rvG x sz1 dz2)).length yc4] 25)
  replace p1_0 := p1.c0
  replace p1_1 := p1.c1
  replace p1_2 := p1.c2
  replace p2_0 := p2.c0
  replace p2_1 := p2.c1
  replace p2_2 := p2.c2
  replace bc_0 := bc.c0
  replace bc_1 := bc.c1
  replace bc_2 := bc.c2
  replace bx_0 := bx.c0
  replace bx_1 := bx.c1
  replace bx_2 := bx.c2
  replace bw_0 := bw.c0
  replace bw_1 := bw.c1
  replace bw_2 := bw.c2
  replace bz_0 := bz.c0
  replace bz_1 := bz.c1
  replace bz_2 := bz.c2
  have bu := Abx.new v9 (.bool false) (.slice xa4 (sz1).length xc4) (.slice ya4 (e2V f c1 (sz1) (rvG x sz1 dz1) c2 (sz1) (rvG x sz1 dz2)).length yc4)
  have bu_0 := bu.c0
  have bu_1 := bu.c1
  have bu_2 := bu.c2
  go_wp2_with fail
  refine (alike_eq false xa4 xc4 (sz1) ya4 yc4 (e2V f c1 (sz1) (rvG x sz1 dz1) c2 (sz1) (rvG x sz1 dz2)) xa3 xc3 (sz1) ya3 yc3 (rvG x sz1 (e2V f c1 sz1 dz1 c2 sz1 dz2)) rfl ((tc_rv E.out F1.out).2.2.2).symm (tu_len (tc_c (tc_rv E.out F1.out).2.2.1).2.2.1).1 (tu_len (tc_c (tc_rv E.out F1.out).2.2.1).2.2.1).2 _ hX4.ints hY4.ints hX3.ints hY3.ints).mono ?_
  rintro e v10 ⟨rfl, hB⟩
  replace hb : Hid (Below w.heap.size w v10) := hb.out.trans (hB.mono hb.out.size)
  replace p1 := p1.go hB
  replace p2 := p2.go hB
  replace hXc := hXc.go hB
  replace hYc := hYc.go hB
  replace bc := bc.go hB
  replace hX1 := hX1.go hB
  replace hY1 := hY1.go hB
  replace bx := bx.go hB
  replace hX2 := hX2.go hB
  replace hY2 := hY2.go hB
  replace bw := bw.go hB
  replace hX3 := hX3.go hB
  replace hY3 := hY3.go hB
  replace bz := bz.go hB
  replace hX4 := hX4.go hB
  replace hY4 := hY4.go hB
  replace bu := bu.go hB
  replace p1_0 := p1.c0
  replace p1_1 := p1.c1
  replace p1_2 := p1.c2
  replace p2_0 := p2.c0
  replace p2_1 := p2.c1
  replace p2_2 := p2.c2
  replace bc_0 := bc.c0
  replace bc_1 := bc.c1
  replace bc_2 := bc.c2
  replace bx_0 := bx.c0
  replace bx_1 := bx.c1
  replace bx_2 := bx.c2
  replace bw_0 := bw.c0
  replace bw_1 := bw.c1
  replace bw_2 := bw.c2
  replace bz_0 := bz.c0
  replace bz_1 := bz.c1
  replace bz_2 := bz.c2
  replace bu_0 := bu.c0
  replace bu_1 := bu.c1
  replace bu_2 := bu.c2
  clear hB
  go_wp2_with fail
  have l5_p1 := p1.lt
  have l5_p2 := p2.lt
  have l5_bc := bc.lt
  have l5_bx := bx.lt
  have l5_bw := bw.lt
  have l5_bz := bz.lt
  have l5_bu := bu.lt
  refine (rt_ok c2 sa2 sc2 sz1 da2 dc2 dz2 _ x1 y2 ((HI.out.2.1.below hb.out).mono hb.out.size) ((HI.out.2.2.1.below hb.out).mono hb.out.size) HI.out.2.2.2 HT n x hn hx (tc_rv E.out F1.out).1).mono ?_
  rintro e v11 ⟨xa5, xc5, ya5, yc5, rfl, hX5, hY5, hB⟩
  replace hb : Hid (Below w.heap.size w v11) := hb.out.trans (hB.mono hb.out.size)
  replace p1 := p1.go hB
  replace p2 := p2.go hB
  replace hXc := hXc.go hB
  replace hYc := hYc.go hB
  replace bc := bc.go hB
  replace hX1 := hX1.go hB
  replace hY1 := hY1.go hB
  replace bx := bx.go hB
  replace hX2 := hX2.go hB
  replace hY2 := hY2.go hB
  replace bw := bw.go hB
  replace hX3 := hX3.go hB
  replace hY3 := hY3.go hB
  replace bz := bz.go hB
  replace hX4 := hX4.go hB
  replace hY4 := hY4.go hB
  replace bu := bu.go hB
  replace p1_0 := p1.c0
  replace p1_1 := p1.c1
  replace p1_2 := p1.c2
  replace p2_0 := p2.c0
  replace p2_1 := p2.c1
  replace p2_2 := p2.c2
  replace bc_0 := bc.c0
  replace bc_1 := bc.c1
  replace bc_2 := bc.c2
  replace bx_0 := bx.c0
  replace bx_1 := bx.c1
  replace bx_2 := bx.c2
  replace bw_0 := bw.c0
  replace bw_1 := bw.c1
  replace bw_2 := bw.c2
  replace bz_0 := bz.c0
  replace bz_1 := bz.c1
  replace bz_2 := bz.c2
  replace bu_0 := bu.c0
  replace bu_1 := bu.c1
  replace bu_2 := bu.c2
  clear hB
  have fz_0 := bw.fr 0
  have fz_1 := bw.fr 1
  have fz_2 := bw.fr 2
  have N_p1 := p1.ne3 (B := v7.heap.size) (by exact Nat.ne_of_lt o_p1_bw) (.bool c2) (.slice xa5 (sz1).length xc5) (.slice ya5 (rtG n x sz1 dz2).length yc5)
  have N_p2 := p2.ne3 (B := v7.heap.size) (by exact Nat.ne_of_lt o_p2_bw) (.bool c2) (.slice xa5 (sz1).length xc5) (.slice ya5 (rtG n x sz1 dz2).length yc5)
  have N_hXc := hXc.set3 (B := v7.heap.size) (Nat.le_of_lt o_bc_bw) (.bool c2) (.slice xa5 (sz1).length xc5) (.slice ya5 (rtG n x sz1 dz2).length yc5)
  have N_hYc := hYc.set3 (B := v7.heap.size) (Nat.le_of_lt o_bc_bw) (.bool c2) (.slice xa5 (sz1).length xc5) (.slice ya5 (rtG n x sz1 dz2).length yc5)
  have N_bc := bc.ne3 (B := v7.heap.size) (by exact Nat.ne_of_lt o_bc_bw) (.bool c2) (.slice xa5 (sz1).length xc5) (.slice ya5 (rtG n x sz1 dz2).length yc5)
  have N_bx := bx.ne3 (B := v7.heap.size) (by exact Nat.ne_of_lt o_bx_bw) (.bool c2) (.slice xa5 (sz1).length xc5) (.slice ya5 (rtG n x sz1 dz2).length yc5)
  have N_bw := bw.set3 (.bool c2) (.slice xa5 (sz1).length xc5) (.slice ya5 (rtG n x sz1 dz2).length yc5)
  have N_bz := bz.ne3 (B := v7.heap.size) (by exact Nat.ne_of_gt o_bw_bz) (.bool c2) (.slice xa5 (sz1).length xc5) (.slice ya5 (rtG n x sz1 dz2).length yc5)
  have N_bu := bu.ne3 (B := v7.heap.size) (by exact Nat.ne_of_gt o_bw_bu) (.bool c2) (.slice xa5 (sz1).length xc5) (.slice ya5 (rtG n x sz1 dz2).length yc5)
  have N_hX5 := hX5.set3 (b := v7.heap.size) l5_bw (.bool c2) (.slice xa5 (sz1).length xc5) (.slice ya5 (rtG n x sz1 dz2).length yc5)
  have N_hY5 := hY5.set3 (b := v7.heap.size) l5_bw (.bool c2) (.slice xa5 (sz1).length xc5) (.slice ya5 (rtG n x sz1 dz2).length yc5)
  have N_hb : Hid (Below w.heap.size w (((v11.setCell ⟨v7.heap.size, 0, none⟩ (.bool c2)).setCell ⟨v7.heap.size, 1, none⟩ (.slice xa5 (sz1).length xc5)).setCell ⟨v7.heap.size, 2, none⟩ (.slice ya5 (rtG n x sz1 dz2).length yc5))) := bel_set3 hb.out (Nat.le_of_lt o_p1_bw) (.bool c2) (.slice xa5 (sz1).length xc5) (.slice ya5 (rtG n x sz1 dz2).length yc5)
  have N_p1_0 := N_p1.c0
  have N_p1_1 := N_p1.c1
  have N_p1_2 := N_p1.c2
  have N_p2_0 := N_p2.c0
  have N_p2_1 := N_p2.c1
  have N_p2_2 := N_p2.c2
  have N_bc_0 := N_bc.c0
  have N_bc_1 := N_bc.c1
  have N_bc_2 := N_bc.c2
  have N_bx_0 := N_bx.c0
  have N_bx_1 := N_bx.c1
  have N_bx_2 := N_bx.c2
  have N_bw_0 := N_bw.c0
  have N_bw_1 := N_bw.c1
  have N_bw_2 := N_bw.c2
  have N_bz_0 := N_bz.c0
  have N_bz_1 := N_bz.c1
  have N_bz_2 := N_bz.c2
  have N_bu_0 := N_bu.c0
  have N_bu_1 := N_bu.c1
  have N_bu_2 := N_bu.c2
  go_wp2_with fail
  clear fz_0 fz_1 fz_2 hb p1 p2 hXc hYc bc hX1 hY1 bx hX2 hY2 bw hX3 hY3 bz hX4 hY4 bu hX5 hY5 p1_0 p1_1 p1_2 p2_0 p2_1 p2_2 bc_0 bc_1 bc_2 bx_0 bx_1 bx_2 bw_0 bw_1 bw_2 bz_0 bz_1 bz_2 bu_0 bu_1 bu_2
  have hb := N_hb
  have p1 := N_p1
  have p2 := N_p2
  have hXc := N_hXc
  have hYc := N_hYc
  have bc := N_bc
  have bx := N_bx
  have bw := N_bw
  have bz := N_bz
  have bu := N_bu
  have hX5 := N_hX5
  have hY5 := N_hY5
  have p1_0 := N_p1_0
  have p1_1 := N_p1_1
  have p1_2 := N_p1_2
  have p2_0 := N_p2_0
  have p2_1 := N_p2_1
  have p2_2 := N_p2_2
  have bc_0 := N_bc_0
  have bc_1 := N_bc_1
  have bc_2 := N_bc_2
  have bx_0 := N_bx_0
  have bx_1 := N_bx_1
  have bx_2 := N_bx_2
  have bw_0 := N_bw_0
  have bw_1 := N_bw_1
  have bw_2 := N_bw_2
  have bz_0 := N_bz_0
  have bz_1 := N_bz_1
  have bz_2 := N_bz_2
  have bu_0 := N_bu_0
  have bu_1 := N_bu_1
  have bu_2 := N_bu_2
  clear N_hb N_p1 N_p2 N_hXc N_hYc N_bc N_bx N_bw N_bz N_bu N_hX5 N_hY5 N_p1_0 N_p1_1 N_p1_2 N_p2_0 N_p2_1 N_p2_2 N_bc_0 N_bc_1 N_bc_2 N_bx_0 N_bx_1 N_bx_2 N_bw_0 N_bw_1 N_bw_2 N_bz_0 N_bz_1 N_bz_2 N_bu_0 N_bu_1 N_bu_2
  have l6_p1 := p1.lt
  have l6_p2 := p2.lt
  have l6_bc := bc.lt
  have l6_bx := bx.lt
  have l6_bw := bw.lt
  have l6_bz := bz.lt
  have l6_bu := bu.lt
  refine (rt_ok c1 sa1 sc1 sz1 da1 dc1 dz1 _ x1 x2 ((HI.out.1.1.below hb.out).mono hb.out.size) ((HI.out.1.2.1.below hb.out).mono hb.out.size) HI.out.1.2.2 HT n x hn hx F1.out).mono ?_
  rintro e v12 ⟨xa6, xc6, ya6, yc6, rfl, hX6, hY6, hB⟩
  replace hb : Hid (Below w.heap.size w v12) := hb.out.trans (hB.mono hb.out.size)
  replace p1 := p1.go hB
  replace p2 := p2.go hB
  replace hXc := hXc.go hB
  replace hYc := hYc.go hB
  replace bc := bc.go hB
  replace bx := bx.go hB
  replace bw := bw.go hB
  replace bz := bz.go hB
  replace bu := bu.go hB
  replace hX5 := hX5.go hB
  replace hY5 := hY5.go hB
  replace p1_0 := p1.c0
  replace p1_1 := p1.c1
  replace p1_2 := p1.c2
  replace p2_0 := p2.c0
  replace p2_1 := p2.c1
  replace p2_2 := p2.c2
  replace bc_0 := bc.c0
  replace bc_1 := bc.c1
  replace bc_2 := bc.c2
  replace bx_0 := bx.c0
  replace bx_1 := bx.c1
  replace bx_2 := bx.c2
  replace bw_0 := bw.c0
  replace bw_1 := bw.c1
  replace bw_2 := bw.c2
  replace bz_0 := bz.c0
  replace bz_1 := bz.c1
  replace bz_2 := bz.c2
  replace bu_0 := bu.c0
  replace bu_1 := bu.c1
  replace bu_2 := bu.c2
  clear hB
  have o_p1_bq := p1.lt
  have o_p2_bq := p2.lt
  have o_bc_bq := bc.lt
  have o_bx_bq := bx.lt
  have o_bw_bq := bw.lt
  have o_bz_bq := bz.lt
  have o_bu_bq := bu.lt
  replace hb : Hid (Below w.heap.size w (v12.alloc (.cells #[.bool c1, .slice xa6 (sz1).length xc6, .slice ya6 (rtG n x sz1 dz1).length yc6] 25))) := hb.out.alloc hb.out.size _
  replace p1 := p1.al (.cells #[.bool c1, .slice xa6 (sz1).length xc6, .slice ya6 (rtG n x sz1 dz1).length yc6] 25)
  replace p2 := p2.al (.cells #[.bool c1, .slice xa6 (sz1).length xc6, .slice ya6 (rtG n x sz1 dz1).length yc6] 25)
  replace hXc := hXc.al (.cells #[.bool c1, .slice xa6 (sz1).length xc6, .slice ya6 (rtG n x sz1 dz1).length yc6] 25)
  replace hYc := hYc.al (.cells #[.bool c1, .slice xa6 (sz1).length xc6, .slice ya6 (rtG n x sz1 dz1).length yc6] 25)
  replace bc := bc.al (.cells #[.bool c1, .slice xa6 (sz1).length xc6, .slice ya6 (rtG n x sz1 dz1).length yc6] 25)
  replace bx := bx.al (.cells #[.bool c1, .slice xa6 (sz1).length xc6, .slice ya6 (rtG n x sz1 dz1).length yc6] 25)
  replace bw := bw.al (.cells #[.bool c1, .slice xa6 (sz1).length xc6, .slice ya6 (rtG n x sz1 dz1).length yc6] 25)
  replace bz := bz.al (.cells #[.bool c1, .slice xa6 (sz1).length xc6, .slice ya6 (rtG n x sz1 dz1).length yc6] 25)
  replace bu := bu.al (.cells #[.bool c1, .slice xa6 (sz1).length xc6, .slice ya6 (rtG n x sz1 dz1).length yc6] 25)
  replace hX5 := hX5.al (.cells #[.bool c1, .slice xa6 (sz1).length xc6, .slice ya6 (rtG n x sz1 dz1).length yc6] 25)
  replace hY5 := hY5.al (.cells #[.bool c1, .slice xa6 (sz1).length xc6, .slice ya6 (rtG n x sz1 dz1).length yc6] 25)
  replace hX6 := hX6.al (.cells #[.bool c1, .slice xa6 (sz1).length xc6, .slice ya6 (rtG n x sz1 dz1).length yc6] 25)
  replace hY6 := hY6.al (.cells #[.bool c1, .slice xa6 (sz1).length xc6, .slice ya6 (rtG n x sz1 dz1).length yc6] 25)
  replace p1_0 := p1.c0
  replace p1_1 := p1.c1
  replace p1_2 := p1.c2
  replace p2_0 := p2.c0
  replace p2_1 := p2.c1
  replace p2_2 := p2.c2
  replace bc_0 := bc.c0
  replace bc_1 := bc.c1
  replace bc_2 := bc.c2
  replace bx_0 := bx.c0
  replace bx_1 := bx.c1
  replace bx_2 := bx.c2
  replace bw_0 := bw.c0
  replace bw_1 := bw.c1
  replace bw_2 := bw.c2
  replace bz_0 := bz.c0
  replace bz_1 := bz.c1
  replace bz_2 := bz.c2
  replace bu_0 := bu.c0
  replace bu_1 := bu.c1
  replace bu_2 := bu.c2
  have bq := Abx.new v12 (.bool c1) (.slice xa6 (sz1).length xc6) (.slice ya6 (rtG n x sz1 dz1).length yc6)
  have bq_0 := bq.c0
  have bq_1 := bq.c1
  have bq_2 := bq.c2
  go_wp2_with fail
  have l7_p1 := p1.lt
  have l7_p2 := p2.lt
  have l7_bc := bc.lt
  have l7_bx := bx.lt
  have l7_bw := bw.lt
  have l7_bz := bz.lt
  have l7_bu := bu.lt
  have l7_bq := bq.lt
  refine (rt_ok false xa0 xc0 sz1 ya0 yc0 (e2V f c1 sz1 dz1 c2 sz1 dz2) _ x1 (tu_len (tc_c E.out).2.2.1).2 hXc.ints hYc.ints (e2V_64 E.out HI.out.1.2.2 HI.out.2.2.2) HT n x hn hx (tc_rv E.out F1.out).2.1).mono ?_
  rintro e v13 ⟨xa7, xc7, ya7, yc7, rfl, hX7, hY7, hB⟩
  replace hb : Hid (Below w.heap.size w v13) := hb.out.trans (hB.mono hb.out.size)
  replace p1 := p1.go hB
  replace p2 := p2.go hB
  replace hXc := hXc.go hB
  replace hYc := hYc.go hB
  replace bc := bc.go hB
  replace bx := bx.go hB
  replace bw := bw.go hB
  replace bz := bz.go hB
  replace bu := bu.go hB
  replace hX5 := hX5.go hB
  replace hY5 := hY5.go hB
  replace hX6 := hX6.go hB
  replace hY6 := hY6.go hB
  replace bq := bq.go hB
  replace p1_0 := p1.c0
  replace p1_1 := p1.c1
  replace p1_2 := p1.c2
  replace p2_0 := p2.c0
  replace p2_1 := p2.c1
  replace p2_2 := p2.c2
  replace bc_0 := bc.c0
  replace bc_1 := bc.c1
  replace bc_2 := bc.c2
  replace bx_0 := bx.c0
  replace bx_1 := bx.c1
  replace bx_2 := bx.c2
  replace bw_0 := bw.c0
  replace bw_1 := bw.c1
  replace bw_2 := bw.c2
  replace bz_0 := bz.c0
  replace bz_1 := bz.c1
  replace bz_2 := bz.c2
  replace bu_0 := bu.c0
  replace bu_1 := bu.c1
  replace bu_2 := bu.c2
  replace bq_0 := bq.c0
  replace bq_1 := bq.c1
  replace bq_2 := bq.c2
  clear hB
  have fz_0 := bz.fr 0
  have fz_1 := bz.fr 1
  have fz_2 := bz.fr 2
  have N_p1 := p1.ne3 (B := v8.heap.size) (by exact Nat.ne_of_lt o_p1_bz) (.bool false) (.slice xa7 (sz1).length xc7) (.slice ya7 (rtG n x sz1 (e2V f c1 sz1 dz1 c2 sz1 dz2)).length yc7)
  have N_p2 := p2.ne3 (B := v8.heap.size) (by exact Nat.ne_of_lt o_p2_bz) (.bool false) (.slice xa7 (sz1).length xc7) (.slice ya7 (rtG n x sz1 (e2V f c1 sz1 dz1 c2 sz1 dz2)).length yc7)
  have N_hXc := hXc.set3 (B := v8.heap.size) (Nat.le_of_lt o_bc_bz) (.bool false) (.slice xa7 (sz1).length xc7) (.slice ya7 (rtG n x sz1 (e2V f c1 sz1 dz1 c2 sz1 dz2)).length yc7)
  have N_hYc := hYc.set3 (B := v8.heap.size) (Nat.le_of_lt o_bc_bz) (.bool false) (.slice xa7 (sz1).length xc7) (.slice ya7 (rtG n x sz1 (e2V f c1 sz1 dz1 c2 sz1 dz2)).length yc7)
  have N_bc := bc.ne3 (B := v8.heap.size) (by exact Nat.ne_of_lt o_bc_bz) (.bool false) (.slice xa7 (sz1).length xc7) (.slice ya7 (rtG n x sz1 (e2V f c1 sz1 dz1 c2 sz1 dz2)).length yc7)
  have N_bx := bx.ne3 (B := v8.heap.size) (by exact Nat.ne_of_lt o_bx_bz) (.bool false) (.slice xa7 (sz1).length xc7) (.slice ya7 (rtG n x sz1 (e2V f c1 sz1 dz1 c2 sz1 dz2)).length yc7)
  have N_bw := bw.ne3 (B := v8.heap.size) (by exact Nat.ne_of_lt o_bw_bz) (.bool false) (.slice xa7 (sz1).length xc7) (.slice ya7 (rtG n x sz1 (e2V f c1 sz1 dz1 c2 sz1 dz2)).length yc7)
  have N_bz := bz.set3 (.bool false) (.slice xa7 (sz1).length xc7) (.slice ya7 (rtG n x sz1 (e2V f c1 sz1 dz1 c2 sz1 dz2)).length yc7)
  have N_bu := bu.ne3 (B := v8.heap.size) (by exact Nat.ne_of_gt o_bz_bu) (.bool false) (.slice xa7 (sz1).length xc7) (.slice ya7 (rtG n x sz1 (e2V f c1 sz1 dz1 c2 sz1 dz2)).length yc7)
  have N_hX5 := hX5.set3 (b := v8.heap.size) l5_bz (.bool false) (.slice xa7 (sz1).length xc7) (.slice ya7 (rtG n x sz1 (e2V f c1 sz1 dz1 c2 sz1 dz2)).length yc7)
  have N_hY5 := hY5.set3 (b := v8.heap.size) l5_bz (.bool false) (.slice xa7 (sz1).length xc7) (.slice ya7 (rtG n x sz1 (e2V f c1 sz1 dz1 c2 sz1 dz2)).length yc7)
  have N_hX6 := hX6.set3 (b := v8.heap.size) l6_bz (.bool false) (.slice xa7 (sz1).length xc7) (.slice ya7 (rtG n x sz1 (e2V f c1 sz1 dz1 c2 sz1 dz2)).length yc7)
  have N_hY6 := hY6.set3 (b := v8.heap.size) l6_bz (.bool false) (.slice xa7 (sz1).length xc7) (.slice ya7 (rtG n x sz1 (e2V f c1 sz1 dz1 c2 sz1 dz2)).length yc7)
  have N_bq := bq.ne3 (B := v8.heap.size) (by exact Nat.ne_of_gt o_bz_bq) (.bool false) (.slice xa7 (sz1).length xc7) (.slice ya7 (rtG n x sz1 (e2V f c1 sz1 dz1 c2 sz1 dz2)).length yc7)
  have N_hX7 := hX7.set3 (b := v8.heap.size) l7_bz (.bool false) (.slice xa7 (sz1).length xc7) (.slice ya7 (rtG n x sz1 (e2V f c1 sz1 dz1 c2 sz1 dz2)).length yc7)
  have N_hY7 := hY7.set3 (b := v8.heap.size) l7_bz (.bool false) (.slice xa7 (sz1).length xc7) (.slice ya7 (rtG n x sz1 (e2V f c1 sz1 dz1 c2 sz1 dz2)).length yc7)
  have N_hb : Hid (Below w.heap.size w (((v13.setCell ⟨v8.heap.size, 0, none⟩ (.bool false)).setCell ⟨v8.heap.size, 1, none⟩ (.slice xa7 (sz1).length xc7)).setCell ⟨v8.heap.size, 2, none⟩ (.slice ya7 (rtG n x sz1 (e2V f c1 sz1 dz1 c2 sz1 dz2)).length yc7))) := bel_set3 hb.out (Nat.le_of_lt o_p1_bz) (.bool false) (.slice xa7 (sz1).length xc7) (.slice ya7 (rtG n x sz1 (e2V f c1 sz1 dz1 c2 sz1 dz2)).length yc7)
  have N_p1_0 := N_p1.c0
  have N_p1_1 := N_p1.c1
  have N_p1_2 := N_p1.c2
  have N_p2_0 := N_p2.c0
  have N_p2_1 := N_p2.c1
  have N_p2_2 := N_p2.c2
  have N_bc_0 := N_bc.c0
  have N_bc_1 := N_bc.c1
  have N_bc_2 := N_bc.c2
  have N_bx_0 := N_bx.c0
  have N_bx_1 := N_bx.c1
  have N_bx_2 := N_bx.c2
  have N_bw_0 := N_bw.c0
  have N_bw_1 := N_bw.c1
  have N_bw_2 := N_bw.c2
  have N_bz_0 := N_bz.c0
  have N_bz_1 := N_bz.c1
  have N_bz_2 := N_bz.c2
  have N_bu_0 := N_bu.c0
  have N_bu_1 := N_bu.c1
  have N_bu_2 := N_bu.c2
  have N_bq_0 := N_bq.c0
  have N_bq_1 := N_bq.c1
  have N_bq_2 := N_bq.c2
  go_wp2_with fail
  clear fz_0 fz_1 fz_2 hb p1 p2 hXc hYc bc bx bw bz bu hX5 hY5 hX6 hY6 bq hX7 hY7 p1_0 p1_1 p1_2 p2_0 p2_1 p2_2 bc_0 bc_1 bc_2 bx_0 bx_1 bx_2 bw_0 bw_1 bw_2 bz_0 bz_1 bz_2 bu_0 bu_1 bu_2 bq_0 bq_1 bq_2
  have hb := N_hb
  have p1 := N_p1
  have p2 := N_p2
  have hXc := N_hXc
  have hYc := N_hYc
  have bc := N_bc
  have bx := N_bx
  have bw := N_bw
  have bz := N_bz
  have bu := N_bu
  have hX5 := N_hX5
  have hY5 := N_hY5
  have hX6 := N_hX6
  have hY6 := N_hY6
  have bq := N_bq
  have hX7 := N_hX7
  have hY7 := N_hY7
  have p1_0 := N_p1_0
  have p1_1 := N_p1_1
  have p1_2 := N_p1_2
  have p2_0 := N_p2_0
  have p2_1 := N_p2_1
  have p2_2 := N_p2_2
  have bc_0 := N_bc_0
  have bc_1 := N_bc_1
  have bc_2 := N_bc_2
  have bx_0 := N_bx_0
  have bx_1 := N_bx_1
  have bx_2 := N_bx_2
  have bw_0 := N_bw_0
  have bw_1 := N_bw_1
  have bw_2 := N_bw_2
  have bz_0 := N_bz_0
  have bz_1 := N_bz_1
  have bz_2 := N_bz_2
  have bu_0 := N_bu_0
  have bu_1 := N_bu_1
  have bu_2 := N_bu_2
  have bq_0 := N_bq_0
  have bq_1 := N_bq_1
  have bq_2 := N_bq_2
  clear N_hb N_p1 N_p2 N_hXc N_hYc N_bc N_bx N_bw N_bz N_bu N_hX5 N_hY5 N_hX6 N_hY6 N_bq N_hX7 N_hY7 N_p1_0 N_p1_1 N_p1_2 N_p2_0 N_p2_1 N_p2_2 N_bc_0 N_bc_1 N_bc_2 N_bx_0 N_bx_1 N_bx_2 N_bw_0 N_bw_1 N_bw_2 N_bz_0 N_bz_1 N_bz_2 N_bu_0 N_bu_1 N_bu_2 N_bq_0 N_bq_1 N_bq_2
  have l8_p1 := p1.lt
  have l8_p2 := p2.lt
  have l8_bc := bc.lt
  have l8_bx := bx.lt
  have l8_bw := bw.lt
  have l8_bz := bz.lt
  have l8_bu := bu.lt
  have l8_bq := bq.lt
  refine (tc_two2 H2 f c1 xa6 xc6 (sz1) ya6 yc6 (rtG n x sz1 dz1) c2 xa5 xc5 ya5 yc5 (rtG n x sz1 dz2) _ hf (tu_len (rt_flaw (n := n) F1.out)).1 (tu_len (rt_flaw (n := n) F1.out)).2 (tu_len (rt_flaw (n := n) (tc_rv E.out F1.out).1)).2 hX6.ints hY6.ints hX5.ints hY5.ints (GA_64 HI.out.1.2.2) (GA_64 HI.out.2.2.2) (tc_rt (n := n) E.out F1.out).1).mono ?_
  rintro e v14 ⟨xa8, xc8, ya8, yc8, rfl, hX8, hY8, hB⟩
  replace hb : Hid (Below w.heap.size w v14) := hb.out.trans (hB.mono hb.out.size)
  replace p1 := p1.go hB
  replace p2 := p2.go hB
  replace hXc := hXc.go hB
  replace hYc := hYc.go hB
  replace bc := bc.go hB
  replace bx := bx.go hB
  replace bw := bw.go hB
  replace bz := bz.go hB
  replace bu := bu.go hB
  replace hX5 := hX5.go hB
  replace hY5 := hY5.go hB
  replace hX6 := hX6.go hB
  replace hY6 := hY6.go hB
  replace bq := bq.go hB
  replace hX7 := hX7.go hB
  replace hY7 := hY7.go hB
  replace p1_0 := p1.c0
  replace p1_1 := p1.c1
  replace p1_2 := p1.c2
  replace p2_0 := p2.c0
  replace p2_1 := p2.c1
  replace p2_2 := p2.c2
  replace bc_0 := bc.c0
  replace bc_1 := bc.c1
  replace bc_2 := bc.c2
  replace bx_0 := bx.c0
  replace bx_1 := bx.c1
  replace bx_2 := bx.c2
  replace bw_0 := bw.c0
  replace bw_1 := bw.c1
  replace bw_2 := bw.c2
  replace bz_0 := bz.c0
  replace bz_1 := bz.c1
  replace bz_2 := bz.c2
  replace bu_0 := bu.c0
  replace bu_1 := bu.c1
  replace bu_2 := bu.c2
  replace bq_0 := bq.c0
  replace bq_1 := bq.c1
  replace bq_2 := bq.c2
  clear hB
  have fz_0 := bu.fr 0
  have fz_1 := bu.fr 1
  have fz_2 := bu.fr 2
  have N_p1 := p1.ne3 (B := v9.heap.size) (by exact Nat.ne_of_lt o_p1_bu) (.bool false) (.slice xa8 (sz1).length xc8) (.slice ya8 (e2V f c1 (sz1) (rtG n x sz1 dz1) c2 (sz1) (rtG n x sz1 dz2)).length yc8)
  have N_p2 := p2.ne3 (B := v9.heap.size) (by exact Nat.ne_of_lt o_p2_bu) (.bool false) (.slice xa8 (sz1).length xc8) (.slice ya8 (e2V f c1 (sz1) (rtG n x sz1 dz1) c2 (sz1) (rtG n x sz1 dz2)).length yc8)
  have N_hXc := hXc.set3 (B := v9.heap.size) (Nat.le_of_lt o_bc_bu) (.bool false) (.slice xa8 (sz1).length xc8) (.slice ya8 (e2V f c1 (sz1) (rtG n x sz1 dz1) c2 (sz1) (rtG n x sz1 dz2)).length yc8)
  have N_hYc := hYc.set3 (B := v9.heap.size) (Nat.le_of_lt o_bc_bu) (.bool false) (.slice xa8 (sz1).length xc8) (.slice ya8 (e2V f c1 (sz1) (rtG n x sz1 dz1) c2 (sz1) (rtG n x sz1 dz2)).length yc8)
  have N_bc := bc.ne3 (B := v9.heap.size) (by exact Nat.ne_of_lt o_bc_bu) (.bool false) (.slice xa8 (sz1).length xc8) (.slice ya8 (e2V f c1 (sz1) (rtG n x sz1 dz1) c2 (sz1) (rtG n x sz1 dz2)).length yc8)
  have N_bx := bx.ne3 (B := v9.heap.size) (by exact Nat.ne_of_lt o_bx_bu) (.bool false) (.slice xa8 (sz1).length xc8) (.slice ya8 (e2V f c1 (sz1) (rtG n x sz1 dz1) c2 (sz1) (rtG n x sz1 dz2)).length yc8)
  have N_bw := bw.ne3 (B := v9.heap.size) (by exact Nat.ne_of_lt o_bw_bu) (.bool false) (.slice xa8 (sz1).length xc8) (.slice ya8 (e2V f c1 (sz1) (rtG n x sz1 dz1) c2 (sz1) (rtG n x sz1 dz2)).length yc8)
  have N_bz := bz.ne3 (B := v9.heap.size) (by exact Nat.ne_of_lt o_bz_bu) (.bool false) (.slice xa8 (sz1).length xc8) (.slice ya8 (e2V f c1 (sz1) (rtG n x sz1 dz1) c2 (sz1) (rtG n x sz1 dz2)).length yc8)
  have N_bu := bu.set3 (.bool false) (.slice xa8 (sz1).length xc8) (.slice ya8 (e2V f c1 (sz1) (rtG n x sz1 dz1) c2 (sz1) (rtG n x sz1 dz2)).length yc8)
  have N_bq := bq.ne3 (B := v9.heap.size) (by exact Nat.ne_of_gt o_bu_bq) (.bool false) (.slice xa8 (sz1).length xc8) (.slice ya8 (e2V f c1 (sz1) (rtG n x sz1 dz1) c2 (sz1) (rtG n x sz1 dz2)).length yc8)
  have N_hX7 := hX7.set3 (b := v9.heap.size) l7_bu (.bool false) (.slice xa8 (sz1).length xc8) (.slice ya8 (e2V f c1 (sz1) (rtG n x sz1 dz1) c2 (sz1) (rtG n x sz1 dz2)).length yc8)
  have N_hY7 := hY7.set3 (b := v9.heap.size) l7_bu (.bool false) (.slice xa8 (sz1).length xc8) (.slice ya8 (e2V f c1 (sz1) (rtG n x sz1 dz1) c2 (sz1) (rtG n x sz1 dz2)).length yc8)
  have N_hX8 := hX8.set3 (b := v9.heap.size) l8_bu (.bool false) (.slice xa8 (sz1).length xc8) (.slice ya8 (e2V f c1 (sz1) (rtG n x sz1 dz1) c2 (sz1) (rtG n x sz1 dz2)).length yc8)
  have N_hY8 := hY8.set3 (b := v9.heap.size) l8_bu (.bool false) (.slice xa8 (sz1).length xc8) (.slice ya8 (e2V f c1 (sz1) (rtG n x sz1 dz1) c2 (sz1) (rtG n x sz1 dz2)).length yc8)
  have N_hb : Hid (Below w.heap.size w (((v14.setCell ⟨v9.heap.size, 0, none⟩ (.bool false)).setCell ⟨v9.heap.size, 1, none⟩ (.slice xa8 (sz1).length xc8)).setCell ⟨v9.heap.size, 2, none⟩ (.slice ya8 (e2V f c1 (sz1) (rtG n x sz1 dz1) c2 (sz1) (rtG n x sz1 dz2)).length yc8))) := bel_set3 hb.out (Nat.le_of_lt o_p1_bu) (.bool false) (.slice xa8 (sz1).length xc8) (.slice ya8 (e2V f c1 (sz1) (rtG n x sz1 dz1) c2 (sz1) (rtG n x sz1 dz2)).length yc8)
  have N_p1_0 := N_p1.c0
  have N_p1_1 := N_p1.c1
  have N_p1_2 := N_p1.c2
  have N_p2_0 := N_p2.c0
  have N_p2_1 := N_p2.c1
  have N_p2_2 := N_p2.c2
  have N_bc_0 := N_bc.c0
  have N_bc_1 := N_bc.c1
  have N_bc_2 := N_bc.c2
  have N_bx_0 := N_bx.c0
  have N_bx_1 := N_bx.c1
  have N_bx_2 := N_bx.c2
  have N_bw_0 := N_bw.c0
  have N_bw_1 := N_bw.c1
  have N_bw_2 := N_bw.c2
  have N_bz_0 := N_bz.c0
  have N_bz_1 := N_bz.c1
  have N_bz_2 := N_bz.c2
  have N_bu_0 := N_bu.c0
  have N_bu_1 := N_bu.c1
  have N_bu_2 := N_bu.c2
  have N_bq_0 := N_bq.c0
  have N_bq_1 := N_bq.c1
  have N_bq_2 := N_bq.c2
  go_wp2_with fail
  clear fz_0 fz_1 fz_2 hb p1 p2 hXc hYc bc bx bw bz bu hX5 hY5 hX6 hY6 bq hX7 hY7 hX8 hY8 p1_0 p1_1 p1_2 p2_0 p2_1 p2_2 bc_0 bc_1 bc_2 bx_0 bx_1 bx_2 bw_0 bw_1 bw_2 bz_0 bz_1 bz_2 bu_0 bu_1 bu_2 bq_0 bq_1 bq_2
  have hb := N_hb
  have p1 := N_p1
  have p2 := N_p2
  have hXc := N_hXc
  have hYc := N_hYc
  have bc := N_bc
  have bx := N_bx
  have bw := N_bw
  have bz := N_bz
  have bu := N_bu
  have bq := N_bq
  have hX7 := N_hX7
  have hY7 := N_hY7
  have hX8 := N_hX8
  have hY8 := N_hY8
  have p1_0 := N_p1_0
  have p1_1 := N_p1_1
  have p1_2 := N_p1_2
  have p2_0 := N_p2_0
  have p2_1 := N_p2_1
  have p2_2 := N_p2_2
  have bc_0 := N_bc_0
  have bc_1 := N_bc_1
  have bc_2 := N_bc_2
  have bx_0 := N_bx_0
  have bx_1 := N_bx_1
  have bx_2 := N_bx_2
  have bw_0 := N_bw_0
  have bw_1 := N_bw_1
  have bw_2 := N_bw_2
  have bz_0 := N_bz_0
  have bz_1 := N_bz_1
  have bz_2 := N_bz_2
  have bu_0 := N_bu_0
  have bu_1 := N_bu_1
  have bu_2 := N_bu_2
  have bq_0 := N_bq_0
  have bq_1 := N_bq_1
  have bq_2 := N_bq_2
  clear N_hb N_p1 N_p2 N_hXc N_hYc N_bc N_bx N_bw N_bz N_bu N_bq N_hX7 N_hY7 N_hX8 N_hY8 N_p1_0 N_p1_1 N_p1_2 N_p2_0 N_p2_1 N_p2_2 N_bc_0 N_bc_1 N_bc_2 N_bx_0 N_bx_1 N_bx_2 N_bw_0 N_bw_1 N_bw_2 N_bz_0 N_bz_1 N_bz_2 N_bu_0 N_bu_1 N_bu_2 N_bq_0 N_bq_1 N_bq_2
  refine (alike_eq false xa8 xc8 (sz1) ya8 yc8 (e2V f c1 (sz1) (rtG n x sz1 dz1) c2 (sz1) (rtG n x sz1 dz2)) xa7 xc7 (sz1) ya7 yc7 (rtG n x sz1 (e2V f c1 sz1 dz1 c2 sz1 dz2)) rfl ((tc_rt (n := n) E.out F1.out).2).symm (tu_len (tc_c (tc_rt (n := n) E.out F1.out).1).2.2.1).1 (tu_len (tc_c (tc_rt (n := n) E.out F1.out).1).2.2.1).2 _ hX8.ints hY8.ints hX7.ints hY7.ints).mono ?_
  rintro e v15 ⟨rfl, hB⟩
  replace hb : Hid (Below w.heap.size w v15) := hb.out.trans (hB.mono hb.out.size)
  replace p1 := p1.go hB
  replace p2 := p2.go hB
  replace hXc := hXc.go hB
  replace hYc := hYc.go hB
  replace bc := bc.go hB
  replace bx := bx.go hB
  replace bw := bw.go hB
  replace bz := bz.go hB
  replace bu := bu.go hB
  replace bq := bq.go hB
  replace hX7 := hX7.go hB
  replace hY7 := hY7.go hB
  replace hX8 := hX8.go hB
  replace hY8 := hY8.go hB
  replace p1_0 := p1.c0
  replace p1_1 := p1.c1
  replace p1_2 := p1.c2
  replace p2_0 := p2.c0
  replace p2_1 := p2.c1
  replace p2_2 := p2.c2
  replace bc_0 := bc.c0
  replace bc_1 := bc.c1
  replace bc_2 := bc.c2
  replace bx_0 := bx.c0
  replace bx_1 := bx.c1
  replace bx_2 := bx.c2
  replace bw_0 := bw.c0
  replace bw_1 := bw.c1
  replace bw_2 := bw.c2
  replace bz_0 := bz.c0
  replace bz_1 := bz.c1
  replace bz_2 := bz.c2
  replace bu_0 := bu.c0
  replace bu_1 := bu.c1
  replace bu_2 := bu.c2
  replace bq_0 := bq.c0
  replace bq_1 := bq.c1
  replace bq_2 := bq.c2
  clear hB
  go_wp2_with fail
  have l9_p1 := p1.lt
  have l9_p2 := p2.lt
  have l9_bc := bc.lt
  have l9_bx := bx.lt
  have l9_bw := bw.lt
  have l9_bz := bz.lt
  have l9_bu := bu.lt
  have l9_bq := bq.lt
  refine (fl_ok c1 sa1 sc1 sz1 da1 dc1 dz1 _ x1 x2 ((HI.out.1.1.below hb.out).mono hb.out.size) ((HI.out.1.2.1.below hb.out).mono hb.out.size) HI.out.1.2.2 HF pa pc p hpl ((HP.out.below hb.out).mono hb.out.size) F2.out).mono ?_
  rintro e v16 ⟨xa9, xc9, ya9, yc9, rfl, hX9, hY9, hB⟩
  replace hb : Hid (Below w.heap.size w v16) := hb.out.trans (hB.mono hb.out.size)
  replace p1 := p1.go hB
  replace p2 := p2.go hB
  replace hXc := hXc.go hB
  replace hYc := hYc.go hB
  replace bc := bc.go hB
  replace bx := bx.go hB
  replace bw := bw.go hB
  replace bz := bz.go hB
  replace bu := bu.go hB
  replace bq := bq.go hB
  replace hX7 := hX7.go hB
  replace hY7 := hY7.go hB
  replace hX8 := hX8.go hB
  replace hY8 := hY8.go hB
  replace p1_0 := p1.c0
  replace p1_1 := p1.c1
  replace p1_2 := p1.c2
  replace p2_0 := p2.c0
  replace p2_1 := p2.c1
  replace p2_2 := p2.c2
  replace bc_0 := bc.c0
  replace bc_1 := bc.c1
  replace bc_2 := bc.c2
  replace bx_0 := bx.c0
  replace bx_1 := bx.c1
  replace bx_2 := bx.c2
  replace bw_0 := bw.c0
  replace bw_1 := bw.c1
  replace bw_2 := bw.c2
  replace bz_0 := bz.c0
  replace bz_1 := bz.c1
  replace bz_2 := bz.c2
  replace bu_0 := bu.c0
  replace bu_1 := bu.c1
  replace bu_2 := bu.c2
  replace bq_0 := bq.c0
  replace bq_1 := bq.c1
  replace bq_2 := bq.c2
  clear hB
  have fz_0 := bx.fr 0
  have fz_1 := bx.fr 1
  have fz_2 := bx.fr 2
  have N_p1 := p1.ne3 (B := v6.heap.size) (by exact Nat.ne_of_lt o_p1_bx) (.bool c1) (.slice xa9 (axVal sz1 p).length xc9) (.slice ya9 (flG p sz1 dz1).length yc9)
  have N_p2 := p2.ne3 (B := v6.heap.size) (by exact Nat.ne_of_lt o_p2_bx) (.bool c1) (.slice xa9 (axVal sz1 p).length xc9) (.slice ya9 (flG p sz1 dz1).length yc9)
  have N_hXc := hXc.set3 (B := v6.heap.size) (Nat.le_of_lt o_bc_bx) (.bool c1) (.slice xa9 (axVal sz1 p).length xc9) (.slice ya9 (flG p sz1 dz1).length yc9)
  have N_hYc := hYc.set3 (B := v6.heap.size) (Nat.le_of_lt o_bc_bx) (.bool c1) (.slice xa9 (axVal sz1 p).length xc9) (.slice ya9 (flG p sz1 dz1).length yc9)
  have N_bc := bc.ne3 (B := v6.heap.size) (by exact Nat.ne_of_lt o_bc_bx) (.bool c1) (.slice xa9 (axVal sz1 p).length xc9) (.slice ya9 (flG p sz1 dz1).length yc9)
  have N_bx := bx.set3 (.bool c1) (.slice xa9 (axVal sz1 p).length xc9) (.slice ya9 (flG p sz1 dz1).length yc9)
  have N_bw := bw.ne3 (B := v6.heap.size) (by exact Nat.ne_of_gt o_bx_bw) (.bool c1) (.slice xa9 (axVal sz1 p).length xc9) (.slice ya9 (flG p sz1 dz1).length yc9)
  have N_bz := bz.ne3 (B := v6.heap.size) (by exact Nat.ne_of_gt o_bx_bz) (.bool c1) (.slice xa9 (axVal sz1 p).length xc9) (.slice ya9 (flG p sz1 dz1).length yc9)
  have N_bu := bu.ne3 (B := v6.heap.size) (by exact Nat.ne_of_gt o_bx_bu) (.bool c1) (.slice xa9 (axVal sz1 p).length xc9) (.slice ya9 (flG p sz1 dz1).length yc9)
  have N_bq := bq.ne3 (B := v6.heap.size) (by exact Nat.ne_of_gt o_bx_bq) (.bool c1) (.slice xa9 (axVal sz1 p).length xc9) (.slice ya9 (flG p sz1 dz1).length yc9)
  have N_hX9 := hX9.set3 (b := v6.heap.size) l9_bx (.bool c1) (.slice xa9 (axVal sz1 p).length xc9) (.slice ya9 (flG p sz1 dz1).length yc9)
  have N_hY9 := hY9.set3 (b := v6.heap.size) l9_bx (.bool c1) (.slice xa9 (axVal sz1 p).length xc9) (.slice ya9 (flG p sz1 dz1).length yc9)
  have N_hb : Hid (Below w.heap.size w (((v16.setCell ⟨v6.heap.size, 0, none⟩ (.bool c1)).setCell ⟨v6.heap.size, 1, none⟩ (.slice xa9 (axVal sz1 p).length xc9)).setCell ⟨v6.heap.size, 2, none⟩ (.slice ya9 (flG p sz1 dz1).length yc9))) := bel_set3 hb.out (Nat.le_of_lt o_p1_bx) (.bool c1) (.slice xa9 (axVal sz1 p).length xc9) (.slice ya9 (flG p sz1 dz1).length yc9)
  have N_p1_0 := N_p1.c0
  have N_p1_1 := N_p1.c1
  have N_p1_2 := N_p1.c2
  have N_p2_0 := N_p2.c0
  have N_p2_1 := N_p2.c1
  have N_p2_2 := N_p2.c2
  have N_bc_0 := N_bc.c0
  have N_bc_1 := N_bc.c1
  have N_bc_2 := N_bc.c2
  have N_bx_0 := N_bx.c0
  have N_bx_1 := N_bx.c1
  have N_bx_2 := N_bx.c2
  have N_bw_0 := N_bw.c0
  have N_bw_1 := N_bw.c1
  have N_bw_2 := N_bw.c2
  have N_bz_0 := N_bz.c0
  have N_bz_1 := N_bz.c1
  have N_bz_2 := N_bz.c2
  have N_bu_0 := N_bu.c0
  have N_bu_1 := N_bu.c1
  have N_bu_2 := N_bu.c2
  have N_bq_0 := N_bq.c0
  have N_bq_1 := N_bq.c1
  have N_bq_2 := N_bq.c2
  go_wp2_with fail
  clear fz_0 fz_1 fz_2 hb p1 p2 hXc hYc bc bx bw bz bu bq hX7 hY7 hX8 hY8 hX9 hY9 p1_0 p1_1 p1_2 p2_0 p2_1 p2_2 bc_0 bc_1 bc_2 bx_0 bx_1 bx_2 bw_0 bw_1 bw_2 bz_0 bz_1 bz_2 bu_0 bu_1 bu_2 bq_0 bq_1 bq_2
  have hb := N_hb
  have p1 := N_p1
  have p2 := N_p2
  have hXc := N_hXc
  have hYc := N_hYc
  have bc := N_bc
  have bx := N_bx
  have bw := N_bw
  have bz := N_bz
  have bu := N_bu
  have bq := N_bq
  have hX9 := N_hX9
  have hY9 := N_hY9
  have p1_0 := N_p1_0
  have p1_1 := N_p1_1
  have p1_2 := N_p1_2
  have p2_0 := N_p2_0
  have p2_1 := N_p2_1
  have p2_2 := N_p2_2
  have bc_0 := N_bc_0
  have bc_1 := N_bc_1
  have bc_2 := N_bc_2
  have bx_0 := N_bx_0
  have bx_1 := N_bx_1
  have bx_2 := N_bx_2
  have bw_0 := N_bw_0
  have bw_1 := N_bw_1
  have bw_2 := N_bw_2
  have bz_0 := N_bz_0
  have bz_1 := N_bz_1
  have bz_2 := N_bz_2
  have bu_0 := N_bu_0
  have bu_1 := N_bu_1
  have bu_2 := N_bu_2
  have bq_0 := N_bq_0
  have bq_1 := N_bq_1
  have bq_2 := N_bq_2
  clear N_hb N_p1 N_p2 N_hXc N_hYc N_bc N_bx N_bw N_bz N_bu N_bq N_hX9 N_hY9 N_p1_0 N_p1_1 N_p1_2 N_p2_0 N_p2_1 N_p2_2 N_bc_0 N_bc_1 N_bc_2 N_bx_0 N_bx_1 N_bx_2 N_bw_0 N_bw_1 N_bw_2 N_bz_0 N_bz_1 N_bz_2 N_bu_0 N_bu_1 N_bu_2 N_bq_0 N_bq_1 N_bq_2
  have l10_p1 := p1.lt
  have l10_p2 := p2.lt
  have l10_bc := bc.lt
  have l10_bx := bx.lt
  have l10_bw := bw.lt
  have l10_bz := bz.lt
  have l10_bu := bu.lt
  have l10_bq := bq.lt
  refine (fl_ok c2 sa2 sc2 sz1 da2 dc2 dz2 _ x1 y2 ((HI.out.2.1.below hb.out).mono hb.out.size) ((HI.out.2.2.1.below hb.out).mono hb.out.size) HI.out.2.2.2 HF pa pc p hpl ((HP.out.below hb.out).mono hb.out.size) (tc_fl E.out F2.out).1).mono ?_
  rintro e v17 ⟨xa10, xc10, ya10, yc10, rfl, hX10, hY10, hB⟩
  replace hb : Hid (Below w.heap.size w v17) := hb.out.trans (hB.mono hb.out.size)
  replace p1 := p1.go hB
  replace p2 := p2.go hB
  replace hXc := hXc.go hB
  replace hYc := hYc.go hB
  replace bc := bc.go hB
  replace bx := bx.go hB
  replace bw := bw.go hB
  replace bz := bz.go hB
  replace bu := bu.go hB
  replace bq := bq.go hB
  replace hX9 := hX9.go hB
  replace hY9 := hY9.go hB
  replace p1_0 := p1.c0
  replace p1_1 := p1.c1
  replace p1_2 := p1.c2
  replace p2_0 := p2.c0
  replace p2_1 := p2.c1
  replace p2_2 := p2.c2
  replace bc_0 := bc.c0
  replace bc_1 := bc.c1
  replace bc_2 := bc.c2
  replace bx_0 := bx.c0
  replace bx_1 := bx.c1
  replace bx_2 := bx.c2
  replace bw_0 := bw.c0
  replace bw_1 := bw.c1
  replace bw_2 := bw.c2
  replace bz_0 := bz.c0
  replace bz_1 := bz.c1
  replace bz_2 := bz.c2
  replace bu_0 := bu.c0
  replace bu_1 := bu.c1
  replace bu_2 := bu.c2
  replace bq_0 := bq.c0
  replace bq_1 := bq.c1
  replace bq_2 := bq.c2
  clear hB
  have o_p1_bm := p1.lt
  have o_p2_bm := p2.lt
  have o_bc_bm := bc.lt
  have o_bx_bm := bx.lt
  have o_bw_bm := bw.lt
  have o_bz_bm := bz.lt
  have o_bu_bm := bu.lt
  have o_bq_bm := bq.lt
  replace hb : Hid (Below w.heap.size w (v17.alloc (.cells #[.bool c2, .slice xa10 (axVal sz1 p).length xc10, .slice ya10 (flG p sz1 dz2).length yc10] 25))) := hb.out.alloc hb.out.size _
  replace p1 := p1.al (.cells #[.bool c2, .slice xa10 (axVal sz1 p).length xc10, .slice ya10 (flG p sz1 dz2).length yc10] 25)
  replace p2 := p2.al (.cells #[.bool c2, .slice xa10 (axVal sz1 p).length xc10, .slice ya10 (flG p sz1 dz2).length yc10] 25)
  replace hXc := hXc.al (.cells #[.bool c2, .slice xa10 (axVal sz1 p).length xc10, .slice ya10 (flG p sz1 dz2).length yc10] 25)
  replace hYc := hYc.al (.cells #[.bool c2, .slice xa10 (axVal sz1 p).length xc10, .slice ya10 (flG p sz1 dz2).length yc10] 25)
  replace bc := bc.al (.cells #[.bool c2, .slice xa10 (axVal sz1 p).length xc10, .slice ya10 (flG p sz1 dz2).length yc10] 25)
  replace bx := bx.al (.cells #[.bool c2, .slice xa10 (axVal sz1 p).length xc10, .slice ya10 (flG p sz1 dz2).length yc10] 25)
  replace bw := bw.al (.cells #[.bool c2, .slice xa10 (axVal sz1 p).length xc10, .slice ya10 (flG p sz1 dz2).length yc10] 25)
  replace bz := bz.al (.cells #[.bool c2, .slice xa10 (axVal sz1 p).length xc10, .slice ya10 (flG p sz1 dz2).length yc10] 25)
  replace bu := bu.al (.cells #[.bool c2, .slice xa10 (axVal sz1 p).length xc10, .slice ya10 (flG p sz1 dz2).length yc10] 25)
  replace bq := bq.al (.cells #[.bool c2, .slice xa10 (axVal sz1 p).length xc10, .slice ya10 (flG p sz1 dz2).length yc10] 25)
  replace hX9 := hX9.al (.cells #[.bool c2, .slice xa10 (axVal sz1 p).length xc10, .slice ya10 (flG p sz1 dz2).length yc10] 25)
  replace hY9 := hY9.al (.cells #[.bool c2, .slice xa10 (axVal sz1 p).length xc10, .slice ya10 (flG p sz1 dz2).length yc10] 25)
  replace hX10 := hX10.al (.cells #[.bool c2, .slice xa10 (axVal sz1 p).length xc10, .slice ya10 (flG p sz1 dz2).length yc10] 25)
  replace hY10 := hY10.al (.cells #[.bool c2, .slice xa10 (axVal sz1 p).length xc10, .slice ya10 (flG p sz1 dz2).length yc10] 25)
  replace p1_0 := p1.c0
  replace p1_1 := p1.c1
  replace p1_2 := p1.c2
  replace p2_0 := p2.c0
  replace p2_1 := p2.c1
  replace p2_2 := p2.c2
  replace bc_0 := bc.c0
  replace bc_1 := bc.c1
  replace bc_2 := bc.c2
  replace bx_0 := bx.c0
  replace bx_1 := bx.c1
  replace bx_2 := bx.c2
  replace bw_0 := bw.c0
  replace bw_1 := bw.c1
  replace bw_2 := bw.c2
  replace bz_0 := bz.c0
  replace bz_1 := bz.c1
  replace bz_2 := bz.c2
  replace bu_0 := bu.c0
  replace bu_1 := bu.c1
  replace bu_2 := bu.c2
  replace bq_0 := bq.c0
  replace bq_1 := bq.c1
  replace bq_2 := bq.c2
  have bm := Abx.new v17 (.bool c2) (.slice xa10 (axVal sz1 p).length xc10) (.slice ya10 (flG p sz1 dz2).length yc10)
  have bm_0 := bm.c0
  have bm_1 := bm.c1
  have bm_2 := bm.c2
  go_wp2_with fail
  have l11_p1 := p1.lt
  have l11_p2 := p2.lt
  have l11_bc := bc.lt
  have l11_bx := bx.lt
  have l11_bw := bw.lt
  have l11_bz := bz.lt
  have l11_bu := bu.lt
  have l11_bq := bq.lt
  have l11_bm := bm.lt
  refine (fl_ok false xa0 xc0 sz1 ya0 yc0 (e2V f c1 sz1 dz1 c2 sz1 dz2) _ x1 (tu_len (tc_c E.out).2.2.1).2 hXc.ints hYc.ints (e2V_64 E.out HI.out.1.2.2 HI.out.2.2.2) HF pa pc p hpl ((HP.out.below hb.out).mono hb.out.size) (tc_fl E.out F2.out).2.1).mono ?_
  rintro e v18 ⟨xa11, xc11, ya11, yc11, rfl, hX11, hY11, hB⟩
  replace hb : Hid (Below w.heap.size w v18) := hb.out.trans (hB.mono hb.out.size)
  replace p1 := p1.go hB
  replace p2 := p2.go hB
  replace hXc := hXc.go hB
  replace hYc := hYc.go hB
  replace bc := bc.go hB
  replace bx := bx.go hB
  replace bw := bw.go hB
  replace bz := bz.go hB
  replace bu := bu.go hB
  replace bq := bq.go hB
  replace hX9 := hX9.go hB
  replace hY9 := hY9.go hB
  replace hX10 := hX10.go hB
  replace hY10 := hY10.go hB
  replace bm := bm.go hB
  replace p1_0 := p1.c0
  replace p1_1 := p1.c1
  replace p1_2 := p1.c2
  replace p2_0 := p2.c0
  replace p2_1 := p2.c1
  replace p2_2 := p2.c2
  replace bc_0 := bc.c0
  replace bc_1 := bc.c1
  replace bc_2 := bc.c2
  replace bx_0 := bx.c0
  replace bx_1 := bx.c1
  replace bx_2 := bx.c2
  replace bw_0 := bw.c0
  replace bw_1 := bw.c1
  replace bw_2 := bw.c2
  replace bz_0 := bz.c0
  replace bz_1 := bz.c1
  replace bz_2 := bz.c2
  replace bu_0 := bu.c0
  replace bu_1 := bu.c1
  replace bu_2 := bu.c2
  replace bq_0 := bq.c0
  replace bq_1 := bq.c1
  replace bq_2 := bq.c2
  replace bm_0 := bm.c0
  replace bm_1 := bm.c1
  replace bm_2 := bm.c2
  clear hB
  have o_p1_bn := p1.lt
  have o_p2_bn := p2.lt
  have o_bc_bn := bc.lt
  have o_bx_bn := bx.lt
  have o_bw_bn := bw.lt
  have o_bz_bn := bz.lt
  have o_bu_bn := bu.lt
  have o_bq_bn := bq.lt
  have o_bm_bn := bm.lt
  replace hb : Hid (Below w.heap.size w (v18.alloc (.cells #[.bool false, .slice xa11 (axVal sz1 p).length xc11, .slice ya11 (flG p sz1 (e2V f c1 sz1 dz1 c2 sz1 dz2)).length yc11] 25))) := hb.out.alloc hb.out.size _
  replace p1 := p1.al (.cells #[.bool false, .slice xa11 (axVal sz1 p).length xc11, .slice ya11 (flG p sz1 (e2V f c1 sz1 dz1 c2 sz1 dz2)).length yc11] 25)
  replace p2 := p2.al (.cells #[.bool false, .slice xa11 (axVal sz1 p).length xc11, .slice ya11 (flG p sz1 (e2V f c1 sz1 dz1 c2 sz1 dz2)).length yc11] 25)
  replace hXc := hXc.al (.cells #[.bool false, .slice xa11 (axVal sz1 p).length xc11, .slice ya11 (flG p sz1 (e2V f c1 sz1 dz1 c2 sz1 dz2)).length yc11] 25)
  replace hYc := hYc.al (.cells #[.bool false, .slice xa11 (axVal sz1 p).length xc11, .slice ya11 (flG p sz1 (e2V f c1 sz1 dz1 c2 sz1 dz2)).length yc11] 25)
  replace bc := bc.al (.cells #[.bool false, .slice xa11 (axVal sz1 p).length xc11, .slice ya11 (flG p sz1 (e2V f c1 sz1 dz1 c2 sz1 dz2)).length yc11] 25)
  replace bx := bx.al (.cells #[.bool false, .slice xa11 (axVal sz1 p).length xc11, .slice ya11 (flG p sz1 (e2V f c1 sz1 dz1 c2 sz1 dz2)).length yc11] 25)
  replace bw := bw.al (.cells #[.bool false, .slice xa11 (axVal sz1 p).length xc11, .slice ya11 (flG p sz1 (e2V f c1 sz1 dz1 c2 sz1 dz2)).length yc11] 25)
  replace bz := bz.al (.cells #[.bool false, .slice xa11 (axVal sz1 p).length xc11, .slice ya11 (flG p sz1 (e2V f c1 sz1 dz1 c2 sz1 dz2)).length yc11] 25)
  replace bu := bu.al (.cells #[.bool false, .slice xa11 (axVal sz1 p).length xc11, .slice ya11 (flG p sz1 (e2V f c1 sz1 dz1 c2 sz1 dz2)).length yc11] 25)
  replace bq := bq.al (.cells #[.bool false, .slice xa11 (axVal sz1 p).length xc11, .slice ya11 (flG p sz1 (e2V f c1 sz1 dz1 c2 sz1 dz2)).length yc11] 25)
  replace hX9 := hX9.al (.cells #[.bool false, .slice xa11 (axVal sz1 p).length xc11, .slice ya11 (flG p sz1 (e2V f c1 sz1 dz1 c2 sz1 dz2)).length yc11] 25)
  replace hY9 := hY9.al (.cells #[.bool false, .slice xa11 (axVal sz1 p).length xc11, .slice ya11 (flG p sz1 (e2V f c1 sz1 dz1 c2 sz1 dz2)).length yc11] 25)
  replace hX10 := hX10.al (.cells #[.bool false, .slice xa11 (axVal sz1 p).length xc11, .slice ya11 (flG p sz1 (e2V f c1 sz1 dz1 c2 sz1 dz2)).length yc11] 25)
  replace hY10 := hY10.al (.cells #[.bool false, .slice xa11 (axVal sz1 p).length xc11, .slice ya11 (flG p sz1 (e2V f c1 sz1 dz1 c2 sz1 dz2)).length yc11] 25)
  replace bm := bm.al (.cells #[.bool false, .slice xa11 (axVal sz1 p).length xc11, .slice ya11 (flG p sz1 (e2V f c1 sz1 dz1 c2 sz1 dz2)).length yc11] 25)
  replace hX11 := hX11.al (.cells #[.bool false, .slice xa11 (axVal sz1 p).length xc11, .slice ya11 (flG p sz1 (e2V f c1 sz1 dz1 c2 sz1 dz2)).length yc11] 25)
  replace hY11 := hY11.al (.cells #[.bool false, .slice xa11 (axVal sz1 p).length xc11, .slice ya11 (flG p sz1 (e2V f c1 sz1 dz1 c2 sz1 dz2)).length yc11] 25)
  replace p1_0 := p1.c0
  replace p1_1 := p1.c1
  replace p1_2 := p1.c2
  replace p2_0 := p2.c0
  replace p2_1 := p2.c1
  replace p2_2 := p2.c2
  replace bc_0 := bc.c0
  replace bc_1 := bc.c1
  replace bc_2 := bc.c2
  replace bx_0 := bx.c0
  replace bx_1 := bx.c1
  replace bx_2 := bx.c2
  replace bw_0 := bw.c0
  replace bw_1 := bw.c1
  replace bw_2 := bw.c2
  replace bz_0 := bz.c0
  replace bz_1 := bz.c1
  replace bz_2 := bz.c2
  replace bu_0 := bu.c0
  replace bu_1 := bu.c1
  replace bu_2 := bu.c2
  replace bq_0 := bq.c0
  replace bq_1 := bq.c1
  replace bq_2 := bq.c2
  replace bm_0 := bm.c0
  replace bm_1 := bm.c1
  replace bm_2 := bm.c2
  have bn := Abx.new v18 (.bool false) (.slice xa11 (axVal sz1 p).length xc11) (.slice ya11 (flG p sz1 (e2V f c1 sz1 dz1 c2 sz1 dz2)).length yc11)
  have bn_0 := bn.c0
  have bn_1 := bn.c1
  have bn_2 := bn.c2
  go_wp2_with fail
  have l12_p1 := p1.lt
  have l12_p2 := p2.lt
  have l12_bc := bc.lt
  have l12_bx := bx.lt
  have l12_bw := bw.lt
  have l12_bz := bz.lt
  have l12_bu := bu.lt
  have l12_bq := bq.lt
  have l12_bm := bm.lt
  have l12_bn := bn.lt
  refine (tc_two2 H2 f c1 xa9 xc9 (axVal sz1 p) ya9 yc9 (flG p sz1 dz1) c2 xa10 xc10 ya10 yc10 (flG p sz1 dz2) _ hf (tu_len (fl_flaw F2.out)).1 (tu_len (fl_flaw F2.out)).2 (tu_len (fl_flaw (tc_fl E.out F2.out).1)).2 hX9.ints hY9.ints hX10.ints hY10.ints (GA_64 HI.out.1.2.2) (GA_64 HI.out.2.2.2) (tc_fl E.out F2.out).2.2.1).mono ?_
  rintro e v19 ⟨xa12, xc12, ya12, yc12, rfl, hX12, hY12, hB⟩
  replace hb : Hid (Below w.heap.size w v19) := hb.out.trans (hB.mono hb.out.size)
  replace p1 := p1.go hB
  replace p2 := p2.go hB
  replace hXc := hXc.go hB
  replace hYc := hYc.go hB
  replace bc := bc.go hB
  replace bx := bx.go hB
  replace bw := bw.go hB
  replace bz := bz.go hB
  replace bu := bu.go hB
  replace bq := bq.go hB
  replace hX9 := hX9.go hB
  replace hY9 := hY9.go hB
  replace hX10 := hX10.go hB
  replace hY10 := hY10.go hB
  replace bm := bm.go hB
  replace hX11 := hX11.go hB
  replace hY11 := hY11.go hB
  replace bn := bn.go hB
  replace p1_0 := p1.c0
  replace p1_1 := p1.c1
  replace p1_2 := p1.c2
  replace p2_0 := p2.c0
  replace p2_1 := p2.c1
  replace p2_2 := p2.c2
  replace bc_0 := bc.c0
  replace bc_1 := bc.c1
  replace bc_2 := bc.c2
  replace bx_0 := bx.c0
  replace bx_1 := bx.c1
  replace bx_2 := bx.c2
  replace bw_0 := bw.c0
  replace bw_1 := bw.c1
  replace bw_2 := bw.c2
  replace bz_0 := bz.c0
  replace bz_1 := bz.c1
  replace bz_2 := bz.c2
  replace bu_0 := bu.c0
  replace bu_1 := bu.c1
  replace bu_2 := bu.c2
  replace bq_0 := bq.c0
  replace bq_1 := bq.c1
  replace bq_2 := bq.c2
  replace bm_0 := bm.c0
  replace bm_1 := bm.c1
  replace bm_2 := bm.c2
  replace bn_0 := bn.c0
  replace bn_1 := bn.c1
  replace bn_2 := bn.c2
  clear hB
  have o_p1_bo := p1.lt
  have o_p2_bo := p2.lt
  have o_bc_bo := bc.lt
  have o_bx_bo := bx.lt
  have o_bw_bo := bw.lt
  have o_bz_bo := bz.lt
  have o_bu_bo := bu.lt
  have o_bq_bo := bq.lt
  have o_bm_bo := bm.lt
  have o_bn_bo := bn.lt
  replace hb : Hid (Below w.heap.size w (v19.alloc (.cells #[.bool false, .slice xa12 (axVal sz1 p).length xc12, .slice ya12 (e2V f c1 (axVal sz1 p) (flG p sz1 dz1) c2 (axVal sz1 p) (flG p sz1 dz2)).length yc12] 25))) := hb.out.alloc hb.out.size _
  replace p1 := p1.al (.cells #[.bool false, .slice xa12 (axVal sz1 p).length xc12, .slice ya12 (e2V f c1 (axVal sz1 p) (flG p sz1 dz1) c2 (axVal sz1 p) (flG p sz1 dz2)).length yc12] 25)
  replace p2 := p2.al (.cells #[.bool false, .slice xa12 (axVal sz1 p).length xc12, .slice ya12 (e2V f c1 (axVal sz1 p) (flG p sz1 dz1) c2 (axVal sz1 p) (flG p sz1 dz2)).length yc12] 25)
  replace hXc := hXc.al (.cells #[.bool false, .slice xa12 (axVal sz1 p).length xc12, .slice ya12 (e2V f c1 (axVal sz1 p) (flG p sz1 dz1) c2 (axVal sz1 p) (flG p sz1 dz2)).length yc12] 25)
  replace hYc := hYc.al (.cells #[.bool false, .slice xa12 (axVal sz1 p).length xc12, .slice ya12 (e2V f c1 (axVal sz1 p) (flG p sz1 dz1) c2 (axVal sz1 p) (flG p sz1 dz2)).length yc12] 25)
  replace bc := bc.al (.cells #[.bool false, .slice xa12 (axVal sz1 p).length xc12, .slice ya12 (e2V f c1 (axVal sz1 p) (flG p sz1 dz1) c2 (axVal sz1 p) (flG p sz1 dz2)).length yc12] 25)
  replace bx := bx.al (.cells #[.bool false, .slice xa12 (axVal sz1 p).length xc12, .slice ya12 (e2V f c1 (axVal sz1 p) (flG p sz1 dz1) c2 (axVal sz1 p) (flG p sz1 dz2)).length yc12] 25)
  replace bw := bw.al (.cells #[.bool false, .slice xa12 (axVal sz1 p).length xc12, .slice ya12 (e2V f c1 (axVal sz1 p) (flG p sz1 dz1) c2 (axVal sz1 p) (flG p sz1 dz2)).length yc12] 25)
  replace bz := bz.al (.cells #[.bool false, .slice xa12 (axVal sz1 p).length xc12, .slice ya12 (e2V f c1 (axVal sz1 p) (flG p sz1 dz1) c2 (axVal sz1 p) (flG p sz1 dz2)).length yc12] 25)
  replace bu := bu.al (.cells #[.bool false, .slice xa12 (axVal sz1 p).length xc12, .slice ya12 (e2V f c1 (axVal sz1 p) (flG p sz1 dz1) c2 (axVal sz1 p) (flG p sz1 dz2)).length yc12] 25)
  replace bq := bq.al (.cells #[.bool false, .slice xa12 (axVal sz1 p).length xc12, .slice ya12 (e2V f c1 (axVal sz1 p) (flG p sz1 dz1) c2 (axVal sz1 p) (flG p sz1 dz2)).length yc12] 25)
  replace hX9 := hX9.al (.cells #[.bool false, .slice xa12 (axVal sz1 p).length xc12, .slice ya12 (e2V f c1 (axVal sz1 p) (flG p sz1 dz1) c2 (axVal sz1 p) (flG p sz1 dz2)).length yc12] 25)
  replace hY9 := hY9.al (.cells #[.bool false, .slice xa12 (axVal sz1 p).length xc12, .slice ya12 (e2V f c1 (axVal sz1 p) (flG p sz1 dz1) c2 (axVal sz1 p) (flG p sz1 dz2)).length yc12] 25)
  replace hX10 := hX10.al (.cells #[.bool false, .slice xa12 (axVal sz1 p).length xc12, .slice ya12 (e2V f c1 (axVal sz1 p) (flG p sz1 dz1) c2 (axVal sz1 p) (flG p sz1 dz2)).length yc12] 25)
  replace hY10 := hY10.al (.cells #[.bool false, .slice xa12 (axVal sz1 p).length xc12, .slice ya12 (e2V f c1 (axVal sz1 p) (flG p sz1 dz1) c2 (axVal sz1 p) (flG p sz1 dz2)).length yc12] 25)
  replace bm := bm.al (.cells #[.bool false, .slice xa12 (axVal sz1 p).length xc12, .slice ya12 (e2V f c1 (axVal sz1 p) (flG p sz1 dz1) c2 (axVal sz1 p) (flG p sz1 dz2)).length yc12] 25)
  replace hX11 := hX11.al (.cells #[.bool false, .slice xa12 (axVal sz1 p).length xc12, .slice ya12 (e2V f c1 (axVal sz1 p) (flG p sz1 dz1) c2 (axVal sz1 p) (flG p sz1 dz2)).length yc12] 25)
  replace hY11 := hY11.al (.cells #[.bool false, .slice xa12 (axVal sz1 p).length xc12, .slice ya12 (e2V f c1 (axVal sz1 p) (flG p sz1 dz1) c2 (axVal sz1 p) (flG p sz1 dz2)).length yc12] 25)
  replace bn := bn.al (.cells #[.bool false, .slice xa12 (axVal sz1 p).length xc12, .slice ya12 (e2V f c1 (axVal sz1 p) (flG p sz1 dz1) c2 (axVal sz1 p) (flG p sz1 dz2)).length yc12] 25)
  replace hX12 := hX12.al (.cells #[.bool false, .slice xa12 (axVal sz1 p).length xc12, .slice ya12 (e2V f c1 (axVal sz1 p) (flG p sz1 dz1) c2 (axVal sz1 p) (flG p sz1 dz2)).length yc12] 25)
  replace hY12 := hY12.al (.cells #[.bool false, .slice xa12 (axVal sz1 p).length xc12, .slice ya12 (e2V f c1 (axVal sz1 p) (flG p sz1 dz1) c2 (axVal sz1 p) (flG p sz1 dz2)).length yc12] 25)
  replace p1_0 := p1.c0
  replace p1_1 := p1.c1
  replace p1_2 := p1.c2
  replace p2_0 := p2.c0
  replace p2_1 := p2.c1
  replace p2_2 := p2.c2
  replace bc_0 := bc.c0
  replace bc_1 := bc.c1
  replace bc_2 := bc.c2
  replace bx_0 := bx.c0
  replace bx_1 := bx.c1
  replace bx_2 := bx.c2
  replace bw_0 := bw.c0
  replace bw_1 := bw.c1
  replace bw_2 := bw.c2
  replace bz_0 := bz.c0
  replace bz_1 := bz.c1
  replace bz_2 := bz.c2
  replace bu_0 := bu.c0
  replace bu_1 := bu.c1
  replace bu_2 := bu.c2
  replace bq_0 := bq.c0
  replace bq_1 := bq.c1
  replace bq_2 := bq.c2
  replace bm_0 := bm.c0
  replace bm_1 := bm.c1
  replace bm_2 := bm.c2
  replace bn_0 := bn.c0
  replace bn_1 := bn.c1
  replace bn_2 := bn.c2
  have bo := Abx.new v19 (.bool false) (.slice xa12 (axVal sz1 p).length xc12) (.slice ya12 (e2V f c1 (axVal sz1 p) (flG p sz1 dz1) c2 (axVal sz1 p) (flG p sz1 dz2)).length yc12)
  have bo_0 := bo.c0
  have bo_1 := bo.c1
  have bo_2 := bo.c2
  go_wp2_with fail
  refine (alike_eq false xa12 xc12 (axVal sz1 p) ya12 yc12 (e2V f c1 (axVal sz1 p) (flG p sz1 dz1) c2 (axVal sz1 p) (flG p sz1 dz2)) xa11 xc11 (axVal sz1 p) ya11 yc11 (flG p sz1 (e2V f c1 sz1 dz1 c2 sz1 dz2)) rfl ((tc_fl E.out F2.out).2.2.2).symm (tu_len (tc_c (tc_fl E.out F2.out).2.2.1).2.2.1).1 (tu_len (tc_c (tc_fl E.out F2.out).2.2.1).2.2.1).2 _ hX12.ints hY12.ints hX11.ints hY11.ints).mono ?_
  rintro e v20 ⟨rfl, hB⟩
  replace hb : Hid (Below w.heap.size w v20) := hb.out.trans (hB.mono hb.out.size)
  replace p1 := p1.go hB
  replace p2 := p2.go hB
  replace hXc := hXc.go hB
  replace hYc := hYc.go hB
  replace bc := bc.go hB
  replace bx := bx.go hB
  replace bw := bw.go hB
  replace bz := bz.go hB
  replace bu := bu.go hB
  replace bq := bq.go hB
  replace hX9 := hX9.go hB
  replace hY9 := hY9.go hB
  replace hX10 := hX10.go hB
  replace hY10 := hY10.go hB
  replace bm := bm.go hB
  replace hX11 := hX11.go hB
  replace hY11 := hY11.go hB
  replace bn := bn.go hB
  replace hX12 := hX12.go hB
  replace hY12 := hY12.go hB
  replace bo := bo.go hB
  replace p1_0 := p1.c0
  replace p1_1 := p1.c1
  replace p1_2 := p1.c2
  replace p2_0 := p2.c0
  replace p2_1 := p2.c1
  replace p2_2 := p2.c2
  replace bc_0 := bc.c0
  replace bc_1 := bc.c1
  replace bc_2 := bc.c2
  replace bx_0 := bx.c0
  replace bx_1 := bx.c1
  replace bx_2 := bx.c2
  replace bw_0 := bw.c0
  replace bw_1 := bw.c1
  replace bw_2 := bw.c2
  replace bz_0 := bz.c0
  replace bz_1 := bz.c1
  replace bz_2 := bz.c2
  replace bu_0 := bu.c0
  replace bu_1 := bu.c1
  replace bu_2 := bu.c2
  replace bq_0 := bq.c0
  replace bq_1 := bq.c1
  replace bq_2 := bq.c2
  replace bm_0 := bm.c0
  replace bm_1 := bm.c1
  replace bm_2 := bm.c2
  replace bn_0 := bn.c0
  replace bn_1 := bn.c1
  replace bn_2 := bn.c2
  replace bo_0 := bo.c0
  replace bo_1 := bo.c1
  replace bo_2 := bo.c2
  clear hB
  go_wp2_with fail
  go_ret
  exact ⟨rfl, hb.out⟩
theorem tcells_walk (HR : CRv) (HT : CRt) (HF : CFl) (H2 : C2c) (f n x : Int) (hf : In64 f) (hn : In64 n) (hx : In64 x) (pa : Option Addr) (pc : Nat) (p : List Int) (hpl : p.length ≤ 9223372036854775807) (c1 : Bool) (sa1 : Option Addr) (sc1 : Nat) (sz1 : List Int) (da1 : Option Addr) (dc1 : Nat) (dz1 : List Int) (c2 : Bool) (sa2 : Option Addr) (sc2 : Nat) (sz2 : List Int) (da2 : Option Addr) (dc2 : Nat) (dz2 : List Int) (w : World) (hp : IsInts w.heap.size w pa p) (w9 : IsArrC w sa1 sz1 sc1 da1 dz1) (w8 : IsArrC w sa2 sz2 sc2 da2 dz2) :
    Calls Try.prog 3 #[.int .i64 f, .int .i64 n, .int .i64 x, .slice pa p.length pc, .agg #[.bool c1, .slice sa1 sz1.length sc1, .slice da1 dz1.length dc1], .agg #[.bool c2, .slice sa2 sz2.length sc2, .slice da2 dz2.length dc2]] w fun e w' => e = .returned (.bool true) ∧ Below w.heap.size w w' := by
  by_cases e : e2E f c1 sz1 dz1 c2 sz2 dz2 = 0
  · by_cases s : sz1 = sz2
    · subst s
      by_cases f1 : axE x c1 sz1 dz1 = 0
      · by_cases f2 : flE p c1 sz1 dz1 = 0
        · exact cells_oo HR HT HF H2 f n x hf hn hx pa pc p hpl c1 sa1 sc1 sz1 da1 dc1 dz1 c2 sa2 sc2 da2 dc2 dz2 w hp w9 w8 e f1 f2
        · exact cells_on HR HT HF H2 f n x hf hn hx pa pc p hpl c1 sa1 sc1 sz1 da1 dc1 dz1 c2 sa2 sc2 da2 dc2 dz2 w hp w9 w8 e f1 f2
      · by_cases f2 : flE p c1 sz1 dz1 = 0
        · exact cells_no3 HR HT HF H2 f n x hf hn hx pa pc p hpl c1 sa1 sc1 sz1 da1 dc1 dz1 c2 sa2 sc2 da2 dc2 dz2 w hp w9 w8 e f1 f2
        · exact cells_nn HR HT HF H2 f n x hf hn hx pa pc p hpl c1 sa1 sc1 sz1 da1 dc1 dz1 c2 sa2 sc2 da2 dc2 dz2 w hp w9 w8 e f1 f2
    · exact cells_other HR HT HF H2 f n x hf hn hx pa pc p hpl c1 sa1 sc1 sz1 da1 dc1 dz1 c2 sa2 sc2 sz2 da2 dc2 dz2 w hp w9 w8 e s
  · exact cells_no HR HT HF H2 f n x hf hn hx pa pc p hpl c1 sa1 sc1 sz1 da1 dc1 dz1 c2 sa2 sc2 sz2 da2 dc2 dz2 w hp w9 w8 e
end Go.Proofs.Ytnfdcdoelhanlaa
