/-
  The walk of the statement that less this way is greater that way, given what the program tells cell by cell.
-/
import Derived.Test.YtmbgomljofngnaaBase
import Derived.Test.YtmbgomljofngnaaEachq
namespace Go.Proofs.Ytmbgomljofngnaa
open Go.RowKit
set_option linter.unusedVariables false

section
variable {f g : Int} {c : Bool} {sz dz : List Int} {c' : Bool} {sz' dz' : List Int}
theorem e2F_sym (hf : ¬ (f < 1 ∨ 16 < f)) (hg : ¬ (g < 1 ∨ 16 < g)) (h89 : (f ≠ 8 ∧ f ≠ 9) ↔ (g ≠ 8 ∧ g ≠ 9)) (h : e2F f c sz dz c' sz' dz' = 0) : e2F g c' sz' dz' c sz dz = 0 := by
  obtain ⟨_, h1, h2, h3, h4⟩ := e2F_zero.1 h
  refine e2F_zero.2 ⟨hg, h2, h1, ?_, fun q => h4 ⟨q.1.symm, h89.2 q.2⟩⟩
  rcases h3 with q | q | q
  · exact .inr (.inl q)
  · exact .inl q
  · exact .inr (.inr q.symm)
theorem beq_swap (a b : Bool) : (a == b) = (b == a) := by cases a <;> cases b <;> rfl
theorem e2E_sym (hf : ¬ (f < 1 ∨ 16 < f)) (hg : ¬ (g < 1 ∨ 16 < g)) (h89 : (f ≠ 8 ∧ f ≠ 9) ↔ (g ≠ 8 ∧ g ≠ 9)) (he : ∀ t a b, tcE g t a b = 0) (h : e2E f c sz dz c' sz' dz' = 0) : e2E g c' sz' dz' c sz dz = 0 :=
  e2E_mk (e2F_sym hf hg h89 (e2E_sub h).1) (fun i _ => he _ _ _)
theorem e2N_swap (h : e2F f c sz dz c' sz' dz' = 0) : e2N sz' sz = e2N sz sz' := by unfold e2N; rw [shp_swap h]
theorem e2V_sym (h : e2F f c sz dz c' sz' dz' = 0) (hv : ∀ t a b, tcV f t a b = tcV g t b a) : e2V g c' sz' dz' c sz dz = e2V f c sz dz c' sz' dz' := by
  unfold e2V
  rw [e2N_swap h]
  refine List.map_congr_left fun i _ => ?_
  rw [hv, beq_swap c c']
end
theorem tcE_cmp {f : Int} (h1 : 1 ≤ f) (h2 : f ≤ 16) (h3 : f ≠ 4) (h4 : f ≠ 16) (t : Bool) (a b : Int) : tcE f t a b = 0 := by
  unfold tcE
  split
  · exact te0 h1 h2 (fun q => absurd q h3) (fun q => absurd q h4)
  · rfl
theorem tc_lt (t : Bool) (a b : Int) : tcV 10 t a b = tcV 13 t b a := by
  unfold tcV
  split
  · rw [tv10, tv13]
  · rfl
theorem tc_ne (t : Bool) (a b : Int) : oneV 17 (tcV 9 t b a) = tcV 8 t a b ∧ (tcV 9 t b a = 0 ∨ tcV 9 t b a = 1) := by
  unfold tcV
  split
  · rw [tv9, tv8]
    by_cases h : a = b
    · subst h; simp [ifV, oneV]
    · have h' : ¬ b = a := fun q => h q.symm
      simp [ifV, oneV, h, h']
  · exact ⟨rfl, .inr rfl⟩
section
variable {c : Bool} {sz dz : List Int} {c' : Bool} {sz' dz' : List Int}
theorem not_ne (h : e2E 8 c sz dz c' sz' dz' = 0) : e1V 17 (e2V 9 c' sz' dz' c sz dz) = e2V 8 c sz dz c' sz' dz' := by
  unfold e1V e2V
  rw [e2N_swap (e2E_sub h).1, List.map_map]
  refine List.map_congr_left fun i _ => ?_
  show oneV 17 (tcV 9 (c' == c) (e2C dz' i) (e2C dz i)) = _
  rw [beq_swap c' c]
  exact (tc_ne _ _ _).1
theorem not_ok (h : e2E 9 c' sz' dz' c sz dz = 0) : e1E 17 false (shp sz' sz) (e2V 9 c' sz' dz' c sz dz) = 0 := by
  unfold e1E
  rw [if_neg (by decide), if_neg (by rw [e2_flaw h]; decide), if_neg (by decide), if_pos]
  rw [List.all_eq_true]
  intro x hx
  unfold e2V at hx
  obtain ⟨i, _, rfl⟩ := List.mem_map.1 hx
  rcases (tc_ne (c' == c) (e2C dz i) (e2C dz' i)).2 with q | q
  · rw [q]; rfl
  · rw [q]; rfl
end
theorem In64.e2 {f : Int} {c : Bool} {sz dz : List Int} {c' : Bool} {sz' dz' : List Int} (T : ∀ j, In64 (nth dz j)) (T' : ∀ j, In64 (nth dz' j)) (j : Nat) : In64 (nth (e2D f c sz dz c' sz' dz') j) := by
  unfold e2D
  have z : In64 0 := by unfold In64; decide
  split
  · rename_i h
    by_cases hj : j < e2N sz sz'
    · rw [e2V_nth _ _ _ _ _ _ _ hj]
      have hs := e2_some (e2E_sub h).1 hj
      unfold tcV
      split
      · exact (In64.cyA T hs.1 0 j).two (In64.cyA T' hs.2 0 j)
      · generalize decide (f = 9) = t; cases t <;> (unfold In64; decide)
    · have : nth (e2V f c sz dz c' sz' dz') j = 0 := by simp [nth, List.getElem?_eq_none (show (e2V f c sz dz c' sz' dz').length ≤ j by rw [e2V_length]; omega)]
      rw [this]; exact z
  · rw [nth_nil]; exact z
theorem lit_in (x : Int) (h : -9223372036854775808 ≤ x ∧ x ≤ 9223372036854775807) : ∀ j, In64 (nth [x] j) := fun j => by
  cases j with
  | zero => exact h
  | succ j => rw [nth_succ, nth_nil]; unfold In64; decide
set_option maxRecDepth 100000 in
set_option maxHeartbeats 8000000 in
theorem swaps_no0 (H1 : C1) (H2 : C2) (c0 : Bool) (sa0 : Option Addr) (sc0 : Nat) (sz0 : List Int) (da0 : Option Addr) (dc0 : Nat) (dz0 : List Int) (c1 : Bool) (sa1 : Option Addr) (sc1 : Nat) (sz1 : List Int) (da1 : Option Addr) (dc1 : Nat) (dz1 : List Int) (w : World) (w0 : IsArr w sa0 sz0 da0 dz0) (w1 : IsArr w sa1 sz1 da1 dz1) (F0 : Hid (flawE c0 sz0 dz0 ≠ 0)) :
    Calls Try.prog 6 #[.agg #[.bool c0, .slice sa0 sz0.length sc0, .slice da0 dz0.length dc0], .agg #[.bool c1, .slice sa1 sz1.length sc1, .slice da1 dz1.length dc1]] w fun e w' => e = .returned (.bool true) ∧ Below w.heap.size w w' := by
  obtain ⟨x1, x2, x3, x4, _, T0⟩ := w0
  obtain ⟨y1, y2, y3, y4, _, T1⟩ := w1
  have HI : Hid ((IsInts w.heap.size w sa0 sz0 ∧ IsInts w.heap.size w da0 dz0 ∧ ∀ j, In64 (nth dz0 j)) ∧ (IsInts w.heap.size w sa1 sz1 ∧ IsInts w.heap.size w da1 dz1 ∧ ∀ j, In64 (nth dz1 j))) := ⟨⟨x3, x4, T0⟩, y3, y4, T1⟩
  clear x3 x4 y3 y4 T0 T1
  have p0 : Abx ((w.alloc (.cells #[.bool c0, .slice sa0 sz0.length sc0, .slice da0 dz0.length dc0] 25)).alloc (.cells #[.bool c1, .slice sa1 sz1.length sc1, .slice da1 dz1.length dc1] 25)) w.heap.size (.bool c0) (.slice sa0 sz0.length sc0) (.slice da0 dz0.length dc0) := (Abx.new w _ _ _).al _
  have p1 : Abx ((w.alloc (.cells #[.bool c0, .slice sa0 sz0.length sc0, .slice da0 dz0.length dc0] 25)).alloc (.cells #[.bool c1, .slice sa1 sz1.length sc1, .slice da1 dz1.length dc1] 25)) (w.heap.size + 1) (.bool c1) (.slice sa1 sz1.length sc1) (.slice da1 dz1.length dc1) := Abx.new1 w _ _ _ _
  have hs : ((w.alloc (.cells #[.bool c0, .slice sa0 sz0.length sc0, .slice da0 dz0.length dc0] 25)).alloc (.cells #[.bool c1, .slice sa1 sz1.length sc1, .slice da1 dz1.length dc1] 25)).heap.size = w.heap.size + 1 + 1 := by simp
  have hb : Hid (Below w.heap.size w ((w.alloc (.cells #[.bool c0, .slice sa0 sz0.length sc0, .slice da0 dz0.length dc0] 25)).alloc (.cells #[.bool c1, .slice sa1 sz1.length sc1, .slice da1 dz1.length dc1] 25))) := ((Below.refl _ w).alloc (Nat.le_refl _) _).alloc (by simp) _
  obtain ⟨u, hu⟩ : ∃ u, u = ((w.alloc (.cells #[.bool c0, .slice sa0 sz0.length sc0, .slice da0 dz0.length dc0] 25)).alloc (.cells #[.bool c1, .slice sa1 sz1.length sc1, .slice da1 dz1.length dc1] 25)) := ⟨_, rfl⟩
  rw [← hu] at p0 p1 hs hb
  have n1 : NewInts u.heap.size ((u.alloc (.cells #[.int .i64 3] 3)).alloc (.cells #[.int .i64 4] 3)) (some ⟨u.heap.size, 0, none⟩) [3] := (new_lit u 3 [3]).al _
  have n2 : NewInts (u.alloc (.cells #[.int .i64 3] 3)).heap.size ((u.alloc (.cells #[.int .i64 3] 3)).alloc (.cells #[.int .i64 4] 3)) (some ⟨(u.alloc (.cells #[.int .i64 3] 3)).heap.size, 0, none⟩) [4] := new_lit (u.alloc (.cells #[.int .i64 3] 3)) 3 [4]
  simp only [World.size_alloc, hs] at n1 n2
  have HN : Hid (IsInts ((u.alloc (.cells #[.int .i64 3] 3)).alloc (.cells #[.int .i64 4] 3)).heap.size ((u.alloc (.cells #[.int .i64 3] 3)).alloc (.cells #[.int .i64 4] 3)) (some ⟨w.heap.size + 1 + 1, 0, none⟩) [3] ∧ IsInts ((u.alloc (.cells #[.int .i64 3] 3)).alloc (.cells #[.int .i64 4] 3)).heap.size ((u.alloc (.cells #[.int .i64 3] 3)).alloc (.cells #[.int .i64 4] 3)) (some ⟨w.heap.size + 1 + 1 + 1, 0, none⟩) [4]) := ⟨n1.ints, n2.ints⟩
  replace hb : Hid (Below w.heap.size w ((u.alloc (.cells #[.int .i64 3] 3)).alloc (.cells #[.int .i64 4] 3))) := (hb.out.alloc (by omega) _).alloc (by simp; omega) _
  replace p0 := (p0.al (.cells #[.int .i64 3] 3)).al (.cells #[.int .i64 4] 3)
  replace p1 := (p1.al (.cells #[.int .i64 3] 3)).al (.cells #[.int .i64 4] 3)
  clear n1 n2 hs
  subst hu
  go_enter Try.func6, Try.ntmps6
  go_wp2_with fail
  refine (c2_ok H2 10 false none 0 [] (some ⟨w.heap.size + 1 + 1, 0, none⟩) 1 [3] false none 0 [] (some ⟨w.heap.size + 1 + 1 + 1, 0, none⟩) 1 [4] _ (by unfold In64; decide) (by simp) (by simp) (by simp) (by simp) (.inl rfl) HN.out.1 (.inl rfl) HN.out.2 (lit_in 3 (by decide)) (lit_in 4 (by decide)) (by decide)).mono ?_
  rintro e v1 ⟨f1, g1, f2, g2, he, _, hY, hB⟩
  replace hb : Hid (Below w.heap.size w v1) := hb.out.trans (hB.mono hb.out.size)
  replace p0 := p0.go hB
  replace p1 := p1.go hB
  clear hB
  clear HN
  rw [show e2V 10 false [] [3] false [] [4] = [1] by decide, show shp [] [] = [] by decide] at he
  rw [show e2V 10 false [] [3] false [] [4] = [1] by decide] at hY
  subst he
  obtain ⟨b, off, rfl, _, hcell⟩ := hY.ints.at (q := 0) (by simp)
  have hc := hcell 0 (by simp)
  rw [Nat.add_zero, nth_zero] at hc
  have hlb := World.block_lt_of_cell? _ _ hc
  clear hcell hY
  have p0_0 := p0.c0
  have p0_1 := p0.c1
  have p0_2 := p0.c2
  have p1_0 := p1.c0
  have p1_1 := p1.c1
  have p1_2 := p1.c2
  replace hb : Hid (Below w.heap.size w (v1.alloc (.cells #[.bool false, .slice f1 0 g1, .slice (some ⟨b, off, none⟩) 1 g2] 25))) := hb.out.alloc hb.out.size _
  replace p0 := p0.al (.cells #[.bool false, .slice f1 0 g1, .slice (some ⟨b, off, none⟩) 1 g2] 25)
  replace p1 := p1.al (.cells #[.bool false, .slice f1 0 g1, .slice (some ⟨b, off, none⟩) 1 g2] 25)
  replace p0_0 := p0.c0
  replace p0_1 := p0.c1
  replace p0_2 := p0.c2
  replace p1_0 := p1.c0
  replace p1_1 := p1.c1
  replace p1_2 := p1.c2
  replace hc : (v1.alloc (.cells #[.bool false, .slice f1 0 g1, .slice (some ⟨b, off, none⟩) 1 g2] 25)).cell? ⟨b, off, none⟩ = some (.int .i64 1) := (World.cell?_alloc_lt _ _ ⟨b, off, none⟩ hlb).trans hc
  go_wp2_with fail
  clear hc hlb
  refine (check_no c0 sa0 sc0 sz0 da0 dc0 dz0 x1 x2 _ ((HI.out.1.1.below hb.out).mono hb.out.size) ((HI.out.1.2.1.below hb.out).mono hb.out.size) F0.out).mono ?_
  rintro e v2 ⟨rfl, hB⟩
  replace hb : Hid (Below w.heap.size w v2) := hb.out.trans (hB.mono hb.out.size)
  replace p0 := p0.go hB
  replace p1 := p1.go hB
  replace p0_0 := p0.c0
  replace p0_1 := p0.c1
  replace p0_2 := p0.c2
  replace p1_0 := p1.c0
  replace p1_1 := p1.c1
  replace p1_2 := p1.c2
  clear hB
  go_wp2_with fail
  go_ret
  exact ⟨rfl, hb.out⟩
set_option maxRecDepth 100000 in
set_option maxHeartbeats 8000000 in
theorem swaps_no1 (H1 : C1) (H2 : C2) (c0 : Bool) (sa0 : Option Addr) (sc0 : Nat) (sz0 : List Int) (da0 : Option Addr) (dc0 : Nat) (dz0 : List Int) (c1 : Bool) (sa1 : Option Addr) (sc1 : Nat) (sz1 : List Int) (da1 : Option Addr) (dc1 : Nat) (dz1 : List Int) (w : World) (w0 : IsArr w sa0 sz0 da0 dz0) (w1 : IsArr w sa1 sz1 da1 dz1) (F0 : Hid (flawE c0 sz0 dz0 = 0)) (F1 : Hid (flawE c1 sz1 dz1 ≠ 0)) :
    Calls Try.prog 6 #[.agg #[.bool c0, .slice sa0 sz0.length sc0, .slice da0 dz0.length dc0], .agg #[.bool c1, .slice sa1 sz1.length sc1, .slice da1 dz1.length dc1]] w fun e w' => e = .returned (.bool true) ∧ Below w.heap.size w w' := by
  obtain ⟨x1, x2, x3, x4, _, T0⟩ := w0
  obtain ⟨y1, y2, y3, y4, _, T1⟩ := w1
  have HI : Hid ((IsInts w.heap.size w sa0 sz0 ∧ IsInts w.heap.size w da0 dz0 ∧ ∀ j, In64 (nth dz0 j)) ∧ (IsInts w.heap.size w sa1 sz1 ∧ IsInts w.heap.size w da1 dz1 ∧ ∀ j, In64 (nth dz1 j))) := ⟨⟨x3, x4, T0⟩, y3, y4, T1⟩
  clear x3 x4 y3 y4 T0 T1
  have p0 : Abx ((w.alloc (.cells #[.bool c0, .slice sa0 sz0.length sc0, .slice da0 dz0.length dc0] 25)).alloc (.cells #[.bool c1, .slice sa1 sz1.length sc1, .slice da1 dz1.length dc1] 25)) w.heap.size (.bool c0) (.slice sa0 sz0.length sc0) (.slice da0 dz0.length dc0) := (Abx.new w _ _ _).al _
  have p1 : Abx ((w.alloc (.cells #[.bool c0, .slice sa0 sz0.length sc0, .slice da0 dz0.length dc0] 25)).alloc (.cells #[.bool c1, .slice sa1 sz1.length sc1, .slice da1 dz1.length dc1] 25)) (w.heap.size + 1) (.bool c1) (.slice sa1 sz1.length sc1) (.slice da1 dz1.length dc1) := Abx.new1 w _ _ _ _
  have hs : ((w.alloc (.cells #[.bool c0, .slice sa0 sz0.length sc0, .slice da0 dz0.length dc0] 25)).alloc (.cells #[.bool c1, .slice sa1 sz1.length sc1, .slice da1 dz1.length dc1] 25)).heap.size = w.heap.size + 1 + 1 := by simp
  have hb : Hid (Below w.heap.size w ((w.alloc (.cells #[.bool c0, .slice sa0 sz0.length sc0, .slice da0 dz0.length dc0] 25)).alloc (.cells #[.bool c1, .slice sa1 sz1.length sc1, .slice da1 dz1.length dc1] 25))) := ((Below.refl _ w).alloc (Nat.le_refl _) _).alloc (by simp) _
  obtain ⟨u, hu⟩ : ∃ u, u = ((w.alloc (.cells #[.bool c0, .slice sa0 sz0.length sc0, .slice da0 dz0.length dc0] 25)).alloc (.cells #[.bool c1, .slice sa1 sz1.length sc1, .slice da1 dz1.length dc1] 25)) := ⟨_, rfl⟩
  rw [← hu] at p0 p1 hs hb
  have n1 : NewInts u.heap.size ((u.alloc (.cells #[.int .i64 3] 3)).alloc (.cells #[.int .i64 4] 3)) (some ⟨u.heap.size, 0, none⟩) [3] := (new_lit u 3 [3]).al _
  have n2 : NewInts (u.alloc (.cells #[.int .i64 3] 3)).heap.size ((u.alloc (.cells #[.int .i64 3] 3)).alloc (.cells #[.int .i64 4] 3)) (some ⟨(u.alloc (.cells #[.int .i64 3] 3)).heap.size, 0, none⟩) [4] := new_lit (u.alloc (.cells #[.int .i64 3] 3)) 3 [4]
  simp only [World.size_alloc, hs] at n1 n2
  have HN : Hid (IsInts ((u.alloc (.cells #[.int .i64 3] 3)).alloc (.cells #[.int .i64 4] 3)).heap.size ((u.alloc (.cells #[.int .i64 3] 3)).alloc (.cells #[.int .i64 4] 3)) (some ⟨w.heap.size + 1 + 1, 0, none⟩) [3] ∧ IsInts ((u.alloc (.cells #[.int .i64 3] 3)).alloc (.cells #[.int .i64 4] 3)).heap.size ((u.alloc (.cells #[.int .i64 3] 3)).alloc (.cells #[.int .i64 4] 3)) (some ⟨w.heap.size + 1 + 1 + 1, 0, none⟩) [4]) := ⟨n1.ints, n2.ints⟩
  replace hb : Hid (Below w.heap.size w ((u.alloc (.cells #[.int .i64 3] 3)).alloc (.cells #[.int .i64 4] 3))) := (hb.out.alloc (by omega) _).alloc (by simp; omega) _
  replace p0 := (p0.al (.cells #[.int .i64 3] 3)).al (.cells #[.int .i64 4] 3)
  replace p1 := (p1.al (.cells #[.int .i64 3] 3)).al (.cells #[.int .i64 4] 3)
  clear n1 n2 hs
  subst hu
  go_enter Try.func6, Try.ntmps6
  go_wp2_with fail
  refine (c2_ok H2 10 false none 0 [] (some ⟨w.heap.size + 1 + 1, 0, none⟩) 1 [3] false none 0 [] (some ⟨w.heap.size + 1 + 1 + 1, 0, none⟩) 1 [4] _ (by unfold In64; decide) (by simp) (by simp) (by simp) (by simp) (.inl rfl) HN.out.1 (.inl rfl) HN.out.2 (lit_in 3 (by decide)) (lit_in 4 (by decide)) (by decide)).mono ?_
  rintro e v1 ⟨f1, g1, f2, g2, he, _, hY, hB⟩
  replace hb : Hid (Below w.heap.size w v1) := hb.out.trans (hB.mono hb.out.size)
  replace p0 := p0.go hB
  replace p1 := p1.go hB
  clear hB
  clear HN
  rw [show e2V 10 false [] [3] false [] [4] = [1] by decide, show shp [] [] = [] by decide] at he
  rw [show e2V 10 false [] [3] false [] [4] = [1] by decide] at hY
  subst he
  obtain ⟨b, off, rfl, _, hcell⟩ := hY.ints.at (q := 0) (by simp)
  have hc := hcell 0 (by simp)
  rw [Nat.add_zero, nth_zero] at hc
  have hlb := World.block_lt_of_cell? _ _ hc
  clear hcell hY
  have p0_0 := p0.c0
  have p0_1 := p0.c1
  have p0_2 := p0.c2
  have p1_0 := p1.c0
  have p1_1 := p1.c1
  have p1_2 := p1.c2
  replace hb : Hid (Below w.heap.size w (v1.alloc (.cells #[.bool false, .slice f1 0 g1, .slice (some ⟨b, off, none⟩) 1 g2] 25))) := hb.out.alloc hb.out.size _
  replace p0 := p0.al (.cells #[.bool false, .slice f1 0 g1, .slice (some ⟨b, off, none⟩) 1 g2] 25)
  replace p1 := p1.al (.cells #[.bool false, .slice f1 0 g1, .slice (some ⟨b, off, none⟩) 1 g2] 25)
  replace p0_0 := p0.c0
  replace p0_1 := p0.c1
  replace p0_2 := p0.c2
  replace p1_0 := p1.c0
  replace p1_1 := p1.c1
  replace p1_2 := p1.c2
  replace hc : (v1.alloc (.cells #[.bool false, .slice f1 0 g1, .slice (some ⟨b, off, none⟩) 1 g2] 25)).cell? ⟨b, off, none⟩ = some (.int .i64 1) := (World.cell?_alloc_lt _ _ ⟨b, off, none⟩ hlb).trans hc
  go_wp2_with fail
  clear hc hlb
  refine (check_ok c0 sa0 sc0 sz0 da0 dc0 dz0 x1 x2 _ ((HI.out.1.1.below hb.out).mono hb.out.size) ((HI.out.1.2.1.below hb.out).mono hb.out.size) F0.out).mono ?_
  rintro e v2 ⟨rfl, hB⟩
  replace hb : Hid (Below w.heap.size w v2) := hb.out.trans (hB.mono hb.out.size)
  replace p0 := p0.go hB
  replace p1 := p1.go hB
  replace p0_0 := p0.c0
  replace p0_1 := p0.c1
  replace p0_2 := p0.c2
  replace p1_0 := p1.c0
  replace p1_1 := p1.c1
  replace p1_2 := p1.c2
  clear hB
  go_wp2_with fail
  refine (check_no c1 sa1 sc1 sz1 da1 dc1 dz1 y1 y2 _ ((HI.out.2.1.below hb.out).mono hb.out.size) ((HI.out.2.2.1.below hb.out).mono hb.out.size) F1.out).mono ?_
  rintro e v3 ⟨rfl, hB⟩
  replace hb : Hid (Below w.heap.size w v3) := hb.out.trans (hB.mono hb.out.size)
  replace p0 := p0.go hB
  replace p1 := p1.go hB
  replace p0_0 := p0.c0
  replace p0_1 := p0.c1
  replace p0_2 := p0.c2
  replace p1_0 := p1.c0
  replace p1_1 := p1.c1
  replace p1_2 := p1.c2
  clear hB
  go_wp2_with fail
  go_ret
  exact ⟨rfl, hb.out⟩
section
variable {c : Bool} {sz dz : List Int} {c' : Bool} {sz' dz' : List Int}
theorem swap_lt (c : Bool) (sz dz : List Int) (c' : Bool) (sz' dz' : List Int) : alB false (e2S 10 c sz dz c' sz' dz') (e2D 10 c sz dz c' sz' dz') (e2E 10 c sz dz c' sz' dz') false (e2S 13 c' sz' dz' c sz dz) (e2D 13 c' sz' dz' c sz dz) (e2E 13 c' sz' dz' c sz dz) = true := by
  have he : e2E 10 c sz dz c' sz' dz' = 0 ↔ e2E 13 c' sz' dz' c sz dz = 0 := ⟨e2E_sym (by decide) (by decide) (by decide) (tcE_cmp (by decide) (by decide) (by decide) (by decide)), e2E_sym (by decide) (by decide) (by decide) (tcE_cmp (by decide) (by decide) (by decide) (by decide))⟩
  by_cases h : e2E 10 c sz dz c' sz' dz' = 0
  · have h' := he.1 h
    have h0 := (e2E_sub h).1
    unfold e2S e2D
    rw [if_pos h, if_pos h, if_pos h', if_pos h', shp_swap h0, e2V_sym h0 tc_lt]
    exact al_ok he (fun _ => e2_flaw h)
  · have h' : ¬ e2E 13 c' sz' dz' c sz dz = 0 := fun q => h (he.2 q)
    unfold alB
    rw [if_neg (fun q => h q.1), decide_eq_true ⟨h, h'⟩]
theorem swap_e (c : Bool) (sz dz : List Int) (c' : Bool) (sz' dz' : List Int) : e2E 8 c sz dz c' sz' dz' = 0 ↔ e2E 9 c' sz' dz' c sz dz = 0 := ⟨e2E_sym (by decide) (by decide) (by decide) (tcE_cmp (by decide) (by decide) (by decide) (by decide)), e2E_sym (by decide) (by decide) (by decide) (tcE_cmp (by decide) (by decide) (by decide) (by decide))⟩
theorem swap_1 (h : e2E 9 c' sz' dz' c sz dz = 0) : e1E 17 false (e2S 9 c' sz' dz' c sz dz) (e2D 9 c' sz' dz' c sz dz) = 0 := by
  unfold e2S e2D; rw [if_pos h, if_pos h]; exact not_ok h
theorem swap_sh (h : e2E 9 c' sz' dz' c sz dz = 0) : (e1S 17 false (e2S 9 c' sz' dz' c sz dz) (e2D 9 c' sz' dz' c sz dz)).length ≤ 6 := by
  unfold e1S; rw [if_pos (swap_1 h)]; exact e2_short.1
theorem swap_dh (h : e2E 9 c' sz' dz' c sz dz = 0) : (e1D 17 false (e2S 9 c' sz' dz' c sz dz) (e2D 9 c' sz' dz' c sz dz)).length ≤ 4096 := by
  unfold e1D; rw [if_pos (swap_1 h), e1V_length]; exact e2_short.2
theorem swap_ne (h : e2E 8 c sz dz c' sz' dz' = 0) (h' : e2E 9 c' sz' dz' c sz dz = 0) :
    alB false (e1S 17 false (e2S 9 c' sz' dz' c sz dz) (e2D 9 c' sz' dz' c sz dz)) (e1D 17 false (e2S 9 c' sz' dz' c sz dz) (e2D 9 c' sz' dz' c sz dz)) (e1E 17 false (e2S 9 c' sz' dz' c sz dz) (e2D 9 c' sz' dz' c sz dz)) false (e2S 8 c sz dz c' sz' dz') (e2D 8 c sz dz c' sz' dz') 0 = true := by
  have h1 := swap_1 h'
  unfold e1S e1D
  rw [if_pos h1, if_pos h1, h1]
  unfold e2S e2D
  rw [if_pos h, if_pos h, if_pos h', if_pos h', not_ne h, shp_swap (e2E_sub h).1]
  exact al_ok Iff.rfl (fun _ => e2_flaw h)
end
set_option maxRecDepth 100000 in
set_option maxHeartbeats 8000000 in
theorem swaps_err (H1 : C1) (H2 : C2) (c0 : Bool) (sa0 : Option Addr) (sc0 : Nat) (sz0 : List Int) (da0 : Option Addr) (dc0 : Nat) (dz0 : List Int) (c1 : Bool) (sa1 : Option Addr) (sc1 : Nat) (sz1 : List Int) (da1 : Option Addr) (dc1 : Nat) (dz1 : List Int) (w : World) (w0 : IsArr w sa0 sz0 da0 dz0) (w1 : IsArr w sa1 sz1 da1 dz1) (F0 : Hid (flawE c0 sz0 dz0 = 0)) (F1 : Hid (flawE c1 sz1 dz1 = 0)) (E8 : Hid (e2E 8 c0 sz0 dz0 c1 sz1 dz1 ≠ 0)) (E9 : Hid (e2E 9 c1 sz1 dz1 c0 sz0 dz0 ≠ 0)) :
    Calls Try.prog 6 #[.agg #[.bool c0, .slice sa0 sz0.length sc0, .slice da0 dz0.length dc0], .agg #[.bool c1, .slice sa1 sz1.length sc1, .slice da1 dz1.length dc1]] w fun e w' => e = .returned (.bool true) ∧ Below w.heap.size w w' := by
  obtain ⟨x1, x2, x3, x4, _, T0⟩ := w0
  obtain ⟨y1, y2, y3, y4, _, T1⟩ := w1
  have HI : Hid ((IsInts w.heap.size w sa0 sz0 ∧ IsInts w.heap.size w da0 dz0 ∧ ∀ j, In64 (nth dz0 j)) ∧ (IsInts w.heap.size w sa1 sz1 ∧ IsInts w.heap.size w da1 dz1 ∧ ∀ j, In64 (nth dz1 j))) := ⟨⟨x3, x4, T0⟩, y3, y4, T1⟩
  clear x3 x4 y3 y4 T0 T1
  have p0 : Abx ((w.alloc (.cells #[.bool c0, .slice sa0 sz0.length sc0, .slice da0 dz0.length dc0] 25)).alloc (.cells #[.bool c1, .slice sa1 sz1.length sc1, .slice da1 dz1.length dc1] 25)) w.heap.size (.bool c0) (.slice sa0 sz0.length sc0) (.slice da0 dz0.length dc0) := (Abx.new w _ _ _).al _
  have p1 : Abx ((w.alloc (.cells #[.bool c0, .slice sa0 sz0.length sc0, .slice da0 dz0.length dc0] 25)).alloc (.cells #[.bool c1, .slice sa1 sz1.length sc1, .slice da1 dz1.length dc1] 25)) (w.heap.size + 1) (.bool c1) (.slice sa1 sz1.length sc1) (.slice da1 dz1.length dc1) := Abx.new1 w _ _ _ _
  have hs : ((w.alloc (.cells #[.bool c0, .slice sa0 sz0.length sc0, .slice da0 dz0.length dc0] 25)).alloc (.cells #[.bool c1, .slice sa1 sz1.length sc1, .slice da1 dz1.length dc1] 25)).heap.size = w.heap.size + 1 + 1 := by simp
  have hb : Hid (Below w.heap.size w ((w.alloc (.cells #[.bool c0, .slice sa0 sz0.length sc0, .slice da0 dz0.length dc0] 25)).alloc (.cells #[.bool c1, .slice sa1 sz1.length sc1, .slice da1 dz1.length dc1] 25))) := ((Below.refl _ w).alloc (Nat.le_refl _) _).alloc (by simp) _
  obtain ⟨u, hu⟩ : ∃ u, u = ((w.alloc (.cells #[.bool c0, .slice sa0 sz0.length sc0, .slice da0 dz0.length dc0] 25)).alloc (.cells #[.bool c1, .slice sa1 sz1.length sc1, .slice da1 dz1.length dc1] 25)) := ⟨_, rfl⟩
  rw [← hu] at p0 p1 hs hb
  have n1 : NewInts u.heap.size ((u.alloc (.cells #[.int .i64 3] 3)).alloc (.cells #[.int .i64 4] 3)) (some ⟨u.heap.size, 0, none⟩) [3] := (new_lit u 3 [3]).al _
  have n2 : NewInts (u.alloc (.cells #[.int .i64 3] 3)).heap.size ((u.alloc (.cells #[.int .i64 3] 3)).alloc (.cells #[.int .i64 4] 3)) (some ⟨(u.alloc (.cells #[.int .i64 3] 3)).heap.size, 0, none⟩) [4] := new_lit (u.alloc (.cells #[.int .i64 3] 3)) 3 [4]
  simp only [World.size_alloc, hs] at n1 n2
  have HN : Hid (IsInts ((u.alloc (.cells #[.int .i64 3] 3)).alloc (.cells #[.int .i64 4] 3)).heap.size ((u.alloc (.cells #[.int .i64 3] 3)).alloc (.cells #[.int .i64 4] 3)) (some ⟨w.heap.size + 1 + 1, 0, none⟩) [3] ∧ IsInts ((u.alloc (.cells #[.int .i64 3] 3)).alloc (.cells #[.int .i64 4] 3)).heap.size ((u.alloc (.cells #[.int .i64 3] 3)).alloc (.cells #[.int .i64 4] 3)) (some ⟨w.heap.size + 1 + 1 + 1, 0, none⟩) [4]) := ⟨n1.ints, n2.ints⟩
  replace hb : Hid (Below w.heap.size w ((u.alloc (.cells #[.int .i64 3] 3)).alloc (.cells #[.int .i64 4] 3))) := (hb.out.alloc (by omega) _).alloc (by simp; omega) _
  replace p0 := (p0.al (.cells #[.int .i64 3] 3)).al (.cells #[.int .i64 4] 3)
  replace p1 := (p1.al (.cells #[.int .i64 3] 3)).al (.cells #[.int .i64 4] 3)
  clear n1 n2 hs
  subst hu
  go_enter Try.func6, Try.ntmps6
  go_wp2_with fail
  refine (c2_ok H2 10 false none 0 [] (some ⟨w.heap.size + 1 + 1, 0, none⟩) 1 [3] false none 0 [] (some ⟨w.heap.size + 1 + 1 + 1, 0, none⟩) 1 [4] _ (by unfold In64; decide) (by simp) (by simp) (by simp) (by simp) (.inl rfl) HN.out.1 (.inl rfl) HN.out.2 (lit_in 3 (by decide)) (lit_in 4 (by decide)) (by decide)).mono ?_
  rintro e v1 ⟨f1, g1, f2, g2, he, _, hY, hB⟩
  replace hb : Hid (Below w.heap.size w v1) := hb.out.trans (hB.mono hb.out.size)
  replace p0 := p0.go hB
  replace p1 := p1.go hB
  clear hB
  clear HN
  rw [show e2V 10 false [] [3] false [] [4] = [1] by decide, show shp [] [] = [] by decide] at he
  rw [show e2V 10 false [] [3] false [] [4] = [1] by decide] at hY
  subst he
  obtain ⟨b, off, rfl, _, hcell⟩ := hY.ints.at (q := 0) (by simp)
  have hc := hcell 0 (by simp)
  rw [Nat.add_zero, nth_zero] at hc
  have hlb := World.block_lt_of_cell? _ _ hc
  clear hcell hY
  have p0_0 := p0.c0
  have p0_1 := p0.c1
  have p0_2 := p0.c2
  have p1_0 := p1.c0
  have p1_1 := p1.c1
  have p1_2 := p1.c2
  replace hb : Hid (Below w.heap.size w (v1.alloc (.cells #[.bool false, .slice f1 0 g1, .slice (some ⟨b, off, none⟩) 1 g2] 25))) := hb.out.alloc hb.out.size _
  replace p0 := p0.al (.cells #[.bool false, .slice f1 0 g1, .slice (some ⟨b, off, none⟩) 1 g2] 25)
  replace p1 := p1.al (.cells #[.bool false, .slice f1 0 g1, .slice (some ⟨b, off, none⟩) 1 g2] 25)
  replace p0_0 := p0.c0
  replace p0_1 := p0.c1
  replace p0_2 := p0.c2
  replace p1_0 := p1.c0
  replace p1_1 := p1.c1
  replace p1_2 := p1.c2
  replace hc : (v1.alloc (.cells #[.bool false, .slice f1 0 g1, .slice (some ⟨b, off, none⟩) 1 g2] 25)).cell? ⟨b, off, none⟩ = some (.int .i64 1) := (World.cell?_alloc_lt _ _ ⟨b, off, none⟩ hlb).trans hc
  go_wp2_with fail
  clear hc hlb
  refine (check_ok c0 sa0 sc0 sz0 da0 dc0 dz0 x1 x2 _ ((HI.out.1.1.below hb.out).mono hb.out.size) ((HI.out.1.2.1.below hb.out).mono hb.out.size) F0.out).mono ?_
  rintro e v2 ⟨rfl, hB⟩
  replace hb : Hid (Below w.heap.size w v2) := hb.out.trans (hB.mono hb.out.size)
  replace p0 := p0.go hB
  replace p1 := p1.go hB
  replace p0_0 := p0.c0
  replace p0_1 := p0.c1
  replace p0_2 := p0.c2
  replace p1_0 := p1.c0
  replace p1_1 := p1.c1
  replace p1_2 := p1.c2
  clear hB
  go_wp2_with fail
  refine (check_ok c1 sa1 sc1 sz1 da1 dc1 dz1 y1 y2 _ ((HI.out.2.1.below hb.out).mono hb.out.size) ((HI.out.2.2.1.below hb.out).mono hb.out.size) F1.out).mono ?_
  rintro e v3 ⟨rfl, hB⟩
  replace hb : Hid (Below w.heap.size w v3) := hb.out.trans (hB.mono hb.out.size)
  replace p0 := p0.go hB
  replace p1 := p1.go hB
  replace p0_0 := p0.c0
  replace p0_1 := p0.c1
  replace p0_2 := p0.c2
  replace p1_0 := p1.c0
  replace p1_1 := p1.c1
  replace p1_2 := p1.c2
  clear hB
  go_wp2_with fail
  refine (c2_uni H2 10 c0 sa0 sc0 sz0 da0 dc0 dz0 c1 sa1 sc1 sz1 da1 dc1 dz1 _ (by unfold In64; decide) x1 x2 y1 y2 ((HI.out.1.1.below hb.out).mono hb.out.size) ((HI.out.1.2.1.below hb.out).mono hb.out.size) ((HI.out.2.1.below hb.out).mono hb.out.size) ((HI.out.2.2.1.below hb.out).mono hb.out.size) HI.out.1.2.2 HI.out.2.2.2).mono ?_
  rintro e v4 ⟨xa1, xc1, ya1, yc1, rfl, hX1, hY1, hB⟩
  replace hb : Hid (Below w.heap.size w v4) := hb.out.trans (hB.mono hb.out.size)
  replace p0 := p0.go hB
  replace p1 := p1.go hB
  replace p0_0 := p0.c0
  replace p0_1 := p0.c1
  replace p0_2 := p0.c2
  replace p1_0 := p1.c0
  replace p1_1 := p1.c1
  replace p1_2 := p1.c2
  clear hB
  replace hb : Hid (Below w.heap.size w (v4.alloc (.cells #[.bool false, .slice xa1 (e2S 10 c0 sz0 dz0 c1 sz1 dz1).length xc1, .slice ya1 (e2D 10 c0 sz0 dz0 c1 sz1 dz1).length yc1] 25))) := hb.out.alloc hb.out.size _
  replace p0 := p0.al (.cells #[.bool false, .slice xa1 (e2S 10 c0 sz0 dz0 c1 sz1 dz1).length xc1, .slice ya1 (e2D 10 c0 sz0 dz0 c1 sz1 dz1).length yc1] 25)
  replace p1 := p1.al (.cells #[.bool false, .slice xa1 (e2S 10 c0 sz0 dz0 c1 sz1 dz1).length xc1, .slice ya1 (e2D 10 c0 sz0 dz0 c1 sz1 dz1).length yc1] 25)
  replace hX1 := hX1.al (.cells #[.bool false, .slice xa1 (e2S 10 c0 sz0 dz0 c1 sz1 dz1).length xc1, .slice ya1 (e2D 10 c0 sz0 dz0 c1 sz1 dz1).length yc1] 25)
  replace hY1 := hY1.al (.cells #[.bool false, .slice xa1 (e2S 10 c0 sz0 dz0 c1 sz1 dz1).length xc1, .slice ya1 (e2D 10 c0 sz0 dz0 c1 sz1 dz1).length yc1] 25)
  replace p0_0 := p0.c0
  replace p0_1 := p0.c1
  replace p0_2 := p0.c2
  replace p1_0 := p1.c0
  replace p1_1 := p1.c1
  replace p1_2 := p1.c2
  have b1 := Abx.new v4 (.bool false) (.slice xa1 (e2S 10 c0 sz0 dz0 c1 sz1 dz1).length xc1) (.slice ya1 (e2D 10 c0 sz0 dz0 c1 sz1 dz1).length yc1)
  have b1_0 := b1.c0
  have b1_1 := b1.c1
  have b1_2 := b1.c2
  go_wp2_with fail
  refine (c2_uni H2 13 c1 sa1 sc1 sz1 da1 dc1 dz1 c0 sa0 sc0 sz0 da0 dc0 dz0 _ (by unfold In64; decide) y1 y2 x1 x2 ((HI.out.2.1.below hb.out).mono hb.out.size) ((HI.out.2.2.1.below hb.out).mono hb.out.size) ((HI.out.1.1.below hb.out).mono hb.out.size) ((HI.out.1.2.1.below hb.out).mono hb.out.size) HI.out.2.2.2 HI.out.1.2.2).mono ?_
  rintro e v5 ⟨xa2, xc2, ya2, yc2, rfl, hX2, hY2, hB⟩
  replace hb : Hid (Below w.heap.size w v5) := hb.out.trans (hB.mono hb.out.size)
  replace p0 := p0.go hB
  replace p1 := p1.go hB
  replace hX1 := hX1.go hB
  replace hY1 := hY1.go hB
  replace b1 := b1.go hB
  replace p0_0 := p0.c0
  replace p0_1 := p0.c1
  replace p0_2 := p0.c2
  replace p1_0 := p1.c0
  replace p1_1 := p1.c1
  replace p1_2 := p1.c2
  replace b1_0 := b1.c0
  replace b1_1 := b1.c1
  replace b1_2 := b1.c2
  clear hB
  replace hb : Hid (Below w.heap.size w (v5.alloc (.cells #[.bool false, .slice xa2 (e2S 13 c1 sz1 dz1 c0 sz0 dz0).length xc2, .slice ya2 (e2D 13 c1 sz1 dz1 c0 sz0 dz0).length yc2] 25))) := hb.out.alloc hb.out.size _
  replace p0 := p0.al (.cells #[.bool false, .slice xa2 (e2S 13 c1 sz1 dz1 c0 sz0 dz0).length xc2, .slice ya2 (e2D 13 c1 sz1 dz1 c0 sz0 dz0).length yc2] 25)
  replace p1 := p1.al (.cells #[.bool false, .slice xa2 (e2S 13 c1 sz1 dz1 c0 sz0 dz0).length xc2, .slice ya2 (e2D 13 c1 sz1 dz1 c0 sz0 dz0).length yc2] 25)
  replace hX1 := hX1.al (.cells #[.bool false, .slice xa2 (e2S 13 c1 sz1 dz1 c0 sz0 dz0).length xc2, .slice ya2 (e2D 13 c1 sz1 dz1 c0 sz0 dz0).length yc2] 25)
  replace hY1 := hY1.al (.cells #[.bool false, .slice xa2 (e2S 13 c1 sz1 dz1 c0 sz0 dz0).length xc2, .slice ya2 (e2D 13 c1 sz1 dz1 c0 sz0 dz0).length yc2] 25)
  replace b1 := b1.al (.cells #[.bool false, .slice xa2 (e2S 13 c1 sz1 dz1 c0 sz0 dz0).length xc2, .slice ya2 (e2D 13 c1 sz1 dz1 c0 sz0 dz0).length yc2] 25)
  replace hX2 := hX2.al (.cells #[.bool false, .slice xa2 (e2S 13 c1 sz1 dz1 c0 sz0 dz0).length xc2, .slice ya2 (e2D 13 c1 sz1 dz1 c0 sz0 dz0).length yc2] 25)
  replace hY2 := hY2.al (.cells #[.bool false, .slice xa2 (e2S 13 c1 sz1 dz1 c0 sz0 dz0).length xc2, .slice ya2 (e2D 13 c1 sz1 dz1 c0 sz0 dz0).length yc2] 25)
  replace p0_0 := p0.c0
  replace p0_1 := p0.c1
  replace p0_2 := p0.c2
  replace p1_0 := p1.c0
  replace p1_1 := p1.c1
  replace p1_2 := p1.c2
  replace b1_0 := b1.c0
  replace b1_1 := b1.c1
  replace b1_2 := b1.c2
  have b2 := Abx.new v5 (.bool false) (.slice xa2 (e2S 13 c1 sz1 dz1 c0 sz0 dz0).length xc2) (.slice ya2 (e2D 13 c1 sz1 dz1 c0 sz0 dz0).length yc2)
  have b2_0 := b2.c0
  have b2_1 := b2.c1
  have b2_2 := b2.c2
  go_wp2_with fail
  refine (c2_uni H2 8 c0 sa0 sc0 sz0 da0 dc0 dz0 c1 sa1 sc1 sz1 da1 dc1 dz1 _ (by unfold In64; decide) x1 x2 y1 y2 ((HI.out.1.1.below hb.out).mono hb.out.size) ((HI.out.1.2.1.below hb.out).mono hb.out.size) ((HI.out.2.1.below hb.out).mono hb.out.size) ((HI.out.2.2.1.below hb.out).mono hb.out.size) HI.out.1.2.2 HI.out.2.2.2).mono ?_
  rintro e v6 ⟨xa3, xc3, ya3, yc3, rfl, hX3, hY3, hB⟩
  replace hb : Hid (Below w.heap.size w v6) := hb.out.trans (hB.mono hb.out.size)
  replace p0 := p0.go hB
  replace p1 := p1.go hB
  replace hX1 := hX1.go hB
  replace hY1 := hY1.go hB
  replace b1 := b1.go hB
  replace hX2 := hX2.go hB
  replace hY2 := hY2.go hB
  replace b2 := b2.go hB
  replace p0_0 := p0.c0
  replace p0_1 := p0.c1
  replace p0_2 := p0.c2
  replace p1_0 := p1.c0
  replace p1_1 := p1.c1
  replace p1_2 := p1.c2
  replace b1_0 := b1.c0
  replace b1_1 := b1.c1
  replace b1_2 := b1.c2
  replace b2_0 := b2.c0
  replace b2_1 := b2.c1
  replace b2_2 := b2.c2
  clear hB
  replace hb : Hid (Below w.heap.size w (v6.alloc (.cells #[.bool false, .slice xa3 (e2S 8 c0 sz0 dz0 c1 sz1 dz1).length xc3, .slice ya3 (e2D 8 c0 sz0 dz0 c1 sz1 dz1).length yc3] 25))) := hb.out.alloc hb.out.size _
  replace p0 := p0.al (.cells #[.bool false, .slice xa3 (e2S 8 c0 sz0 dz0 c1 sz1 dz1).length xc3, .slice ya3 (e2D 8 c0 sz0 dz0 c1 sz1 dz1).length yc3] 25)
  replace p1 := p1.al (.cells #[.bool false, .slice xa3 (e2S 8 c0 sz0 dz0 c1 sz1 dz1).length xc3, .slice ya3 (e2D 8 c0 sz0 dz0 c1 sz1 dz1).length yc3] 25)
  replace hX1 := hX1.al (.cells #[.bool false, .slice xa3 (e2S 8 c0 sz0 dz0 c1 sz1 dz1).length xc3, .slice ya3 (e2D 8 c0 sz0 dz0 c1 sz1 dz1).length yc3] 25)
  replace hY1 := hY1.al (.cells #[.bool false, .slice xa3 (e2S 8 c0 sz0 dz0 c1 sz1 dz1).length xc3, .slice ya3 (e2D 8 c0 sz0 dz0 c1 sz1 dz1).length yc3] 25)
  replace b1 := b1.al (.cells #[.bool false, .slice xa3 (e2S 8 c0 sz0 dz0 c1 sz1 dz1).length xc3, .slice ya3 (e2D 8 c0 sz0 dz0 c1 sz1 dz1).length yc3] 25)
  replace hX2 := hX2.al (.cells #[.bool false, .slice xa3 (e2S 8 c0 sz0 dz0 c1 sz1 dz1).length xc3, .slice ya3 (e2D 8 c0 sz0 dz0 c1 sz1 dz1).length yc3] 25)
  replace hY2 := hY2.al (.cells #[.bool false, .slice xa3 (e2S 8 c0 sz0 dz0 c1 sz1 dz1).length xc3, .slice ya3 (e2D 8 c0 sz0 dz0 c1 sz1 dz1).length yc3] 25)
  replace b2 := b2.al (.cells #[.bool false, .slice xa3 (e2S 8 c0 sz0 dz0 c1 sz1 dz1).length xc3, .slice ya3 (e2D 8 c0 sz0 dz0 c1 sz1 dz1).length yc3] 25)
  replace hX3 := hX3.al (.cells #[.bool false, .slice xa3 (e2S 8 c0 sz0 dz0 c1 sz1 dz1).length xc3, .slice ya3 (e2D 8 c0 sz0 dz0 c1 sz1 dz1).length yc3] 25)
  replace hY3 := hY3.al (.cells #[.bool false, .slice xa3 (e2S 8 c0 sz0 dz0 c1 sz1 dz1).length xc3, .slice ya3 (e2D 8 c0 sz0 dz0 c1 sz1 dz1).length yc3] 25)
  replace p0_0 := p0.c0
  replace p0_1 := p0.c1
  replace p0_2 := p0.c2
  replace p1_0 := p1.c0
  replace p1_1 := p1.c1
  replace p1_2 := p1.c2
  replace b1_0 := b1.c0
  replace b1_1 := b1.c1
  replace b1_2 := b1.c2
  replace b2_0 := b2.c0
  replace b2_1 := b2.c1
  replace b2_2 := b2.c2
  have b3 := Abx.new v6 (.bool false) (.slice xa3 (e2S 8 c0 sz0 dz0 c1 sz1 dz1).length xc3) (.slice ya3 (e2D 8 c0 sz0 dz0 c1 sz1 dz1).length yc3)
  have b3_0 := b3.c0
  have b3_1 := b3.c1
  have b3_2 := b3.c2
  go_wp2_with fail
  refine (c2_uni H2 9 c1 sa1 sc1 sz1 da1 dc1 dz1 c0 sa0 sc0 sz0 da0 dc0 dz0 _ (by unfold In64; decide) y1 y2 x1 x2 ((HI.out.2.1.below hb.out).mono hb.out.size) ((HI.out.2.2.1.below hb.out).mono hb.out.size) ((HI.out.1.1.below hb.out).mono hb.out.size) ((HI.out.1.2.1.below hb.out).mono hb.out.size) HI.out.2.2.2 HI.out.1.2.2).mono ?_
  rintro e v7 ⟨xa4, xc4, ya4, yc4, rfl, hX4, hY4, hB⟩
  replace hb : Hid (Below w.heap.size w v7) := hb.out.trans (hB.mono hb.out.size)
  replace p0 := p0.go hB
  replace p1 := p1.go hB
  replace hX1 := hX1.go hB
  replace hY1 := hY1.go hB
  replace b1 := b1.go hB
  replace hX2 := hX2.go hB
  replace hY2 := hY2.go hB
  replace b2 := b2.go hB
  replace hX3 := hX3.go hB
  replace hY3 := hY3.go hB
  replace b3 := b3.go hB
  replace p0_0 := p0.c0
  replace p0_1 := p0.c1
  replace p0_2 := p0.c2
  replace p1_0 := p1.c0
  replace p1_1 := p1.c1
  replace p1_2 := p1.c2
  replace b1_0 := b1.c0
  replace b1_1 := b1.c1
  replace b1_2 := b1.c2
  replace b2_0 := b2.c0
  replace b2_1 := b2.c1
  replace b2_2 := b2.c2
  replace b3_0 := b3.c0
  replace b3_1 := b3.c1
  replace b3_2 := b3.c2
  clear hB
  replace hb : Hid (Below w.heap.size w (v7.alloc (.cells #[.bool false, .slice xa4 (e2S 9 c1 sz1 dz1 c0 sz0 dz0).length xc4, .slice ya4 (e2D 9 c1 sz1 dz1 c0 sz0 dz0).length yc4] 25))) := hb.out.alloc hb.out.size _
  replace p0 := p0.al (.cells #[.bool false, .slice xa4 (e2S 9 c1 sz1 dz1 c0 sz0 dz0).length xc4, .slice ya4 (e2D 9 c1 sz1 dz1 c0 sz0 dz0).length yc4] 25)
  replace p1 := p1.al (.cells #[.bool false, .slice xa4 (e2S 9 c1 sz1 dz1 c0 sz0 dz0).length xc4, .slice ya4 (e2D 9 c1 sz1 dz1 c0 sz0 dz0).length yc4] 25)
  replace hX1 := hX1.al (.cells #[.bool false, .slice xa4 (e2S 9 c1 sz1 dz1 c0 sz0 dz0).length xc4, .slice ya4 (e2D 9 c1 sz1 dz1 c0 sz0 dz0).length yc4] 25)
  replace hY1 := hY1.al (.cells #[.bool false, .slice xa4 (e2S 9 c1 sz1 dz1 c0 sz0 dz0).length xc4, .slice ya4 (e2D 9 c1 sz1 dz1 c0 sz0 dz0).length yc4] 25)
  replace b1 := b1.al (.cells #[.bool false, .slice xa4 (e2S 9 c1 sz1 dz1 c0 sz0 dz0).length xc4, .slice ya4 (e2D 9 c1 sz1 dz1 c0 sz0 dz0).length yc4] 25)
  replace hX2 := hX2.al (.cells #[.bool false, .slice xa4 (e2S 9 c1 sz1 dz1 c0 sz0 dz0).length xc4, .slice ya4 (e2D 9 c1 sz1 dz1 c0 sz0 dz0).length yc4] 25)
  replace hY2 := hY2.al (.cells #[.bool false, .slice xa4 (e2S 9 c1 sz1 dz1 c0 sz0 dz0).length xc4, .slice ya4 (e2D 9 c1 sz1 dz1 c0 sz0 dz0).length yc4] 25)
  replace b2 := b2.al (.cells #[.bool false, .slice xa4 (e2S 9 c1 sz1 dz1 c0 sz0 dz0).length xc4, .slice ya4 (e2D 9 c1 sz1 dz1 c0 sz0 dz0).length yc4] 25)
  replace hX3 := hX3.al (.cells #[.bool false, .slice xa4 (e2S 9 c1 sz1 dz1 c0 sz0 dz0).length xc4, .slice ya4 (e2D 9 c1 sz1 dz1 c0 sz0 dz0).length yc4] 25)
  replace hY3 := hY3.al (.cells #[.bool false, .slice xa4 (e2S 9 c1 sz1 dz1 c0 sz0 dz0).length xc4, .slice ya4 (e2D 9 c1 sz1 dz1 c0 sz0 dz0).length yc4] 25)
  replace b3 := b3.al (.cells #[.bool false, .slice xa4 (e2S 9 c1 sz1 dz1 c0 sz0 dz0).length xc4, .slice ya4 (e2D 9 c1 sz1 dz1 c0 sz0 dz0).length yc4] 25)
  replace hX4 := hX4.al (.cells #[.bool false, .slice xa4 (e2S 9 c1 sz1 dz1 c0 sz0 dz0).length xc4, .slice ya4 (e2D 9 c1 sz1 dz1 c0 sz0 dz0).length yc4] 25)
  replace hY4 := hY4.al (.cells #[.bool false, .slice xa4 (e2S 9 c1 sz1 dz1 c0 sz0 dz0).length xc4, .slice ya4 (e2D 9 c1 sz1 dz1 c0 sz0 dz0).length yc4] 25)
  replace p0_0 := p0.c0
  replace p0_1 := p0.c1
  replace p0_2 := p0.c2
  replace p1_0 := p1.c0
  replace p1_1 := p1.c1
  replace p1_2 := p1.c2
  replace b1_0 := b1.c0
  replace b1_1 := b1.c1
  replace b1_2 := b1.c2
  replace b2_0 := b2.c0
  replace b2_1 := b2.c1
  replace b2_2 := b2.c2
  replace b3_0 := b3.c0
  replace b3_1 := b3.c1
  replace b3_2 := b3.c2
  have b4 := Abx.new v7 (.bool false) (.slice xa4 (e2S 9 c1 sz1 dz1 c0 sz0 dz0).length xc4) (.slice ya4 (e2D 9 c1 sz1 dz1 c0 sz0 dz0).length yc4)
  have b4_0 := b4.c0
  have b4_1 := b4.c1
  have b4_2 := b4.c2
  go_wp2_with fail
  refine (matches_any false false xa1 xc1 (e2S 10 c0 sz0 dz0 c1 sz1 dz1) ya1 yc1 (e2D 10 c0 sz0 dz0 c1 sz1 dz1) (e2E 10 c0 sz0 dz0 c1 sz1 dz1) xa2 xc2 (e2S 13 c1 sz1 dz1 c0 sz0 dz0) ya2 yc2 (e2D 13 c1 sz1 dz1 c0 sz0 dz0) (e2E 13 c1 sz1 dz1 c0 sz0 dz0) (Nat.le_trans e2_short.1 (by decide)) (Nat.le_trans e2_short.2 (by decide)) (Nat.le_trans e2_short.1 (by decide)) (Nat.le_trans e2_short.2 (by decide)) _ hX1.ints hY1.ints hX2.ints hY2.ints).mono ?_
  rintro e v8 ⟨rfl, hB⟩
  replace hb : Hid (Below w.heap.size w v8) := hb.out.trans (hB.mono hb.out.size)
  replace p0 := p0.go hB
  replace p1 := p1.go hB
  replace hX1 := hX1.go hB
  replace hY1 := hY1.go hB
  replace b1 := b1.go hB
  replace hX2 := hX2.go hB
  replace hY2 := hY2.go hB
  replace b2 := b2.go hB
  replace hX3 := hX3.go hB
  replace hY3 := hY3.go hB
  replace b3 := b3.go hB
  replace hX4 := hX4.go hB
  replace hY4 := hY4.go hB
  replace b4 := b4.go hB
  replace p0_0 := p0.c0
  replace p0_1 := p0.c1
  replace p0_2 := p0.c2
  replace p1_0 := p1.c0
  replace p1_1 := p1.c1
  replace p1_2 := p1.c2
  replace b1_0 := b1.c0
  replace b1_1 := b1.c1
  replace b1_2 := b1.c2
  replace b2_0 := b2.c0
  replace b2_1 := b2.c1
  replace b2_2 := b2.c2
  replace b3_0 := b3.c0
  replace b3_1 := b3.c1
  replace b3_2 := b3.c2
  replace b4_0 := b4.c0
  replace b4_1 := b4.c1
  replace b4_2 := b4.c2
  clear hB
  rw [swap_lt c0 sz0 dz0 c1 sz1 dz1]
  rw [errV_pos E8.out, errV_pos E9.out]
  go_wp2_with fail
  go_ret
  exact ⟨rfl, hb.out⟩
set_option maxRecDepth 100000 in
set_option maxHeartbeats 8000000 in
theorem swaps_ok (H1 : C1) (H2 : C2) (c0 : Bool) (sa0 : Option Addr) (sc0 : Nat) (sz0 : List Int) (da0 : Option Addr) (dc0 : Nat) (dz0 : List Int) (c1 : Bool) (sa1 : Option Addr) (sc1 : Nat) (sz1 : List Int) (da1 : Option Addr) (dc1 : Nat) (dz1 : List Int) (w : World) (w0 : IsArr w sa0 sz0 da0 dz0) (w1 : IsArr w sa1 sz1 da1 dz1) (F0 : Hid (flawE c0 sz0 dz0 = 0)) (F1 : Hid (flawE c1 sz1 dz1 = 0)) (E8 : Hid (e2E 8 c0 sz0 dz0 c1 sz1 dz1 = 0)) (E9 : Hid (e2E 9 c1 sz1 dz1 c0 sz0 dz0 = 0)) :
    Calls Try.prog 6 #[.agg #[.bool c0, .slice sa0 sz0.length sc0, .slice da0 dz0.length dc0], .agg #[.bool c1, .slice sa1 sz1.length sc1, .slice da1 dz1.length dc1]] w fun e w' => e = .returned (.bool true) ∧ Below w.heap.size w w' := by
  obtain ⟨x1, x2, x3, x4, _, T0⟩ := w0
  obtain ⟨y1, y2, y3, y4, _, T1⟩ := w1
  have HI : Hid ((IsInts w.heap.size w sa0 sz0 ∧ IsInts w.heap.size w da0 dz0 ∧ ∀ j, In64 (nth dz0 j)) ∧ (IsInts w.heap.size w sa1 sz1 ∧ IsInts w.heap.size w da1 dz1 ∧ ∀ j, In64 (nth dz1 j))) := ⟨⟨x3, x4, T0⟩, y3, y4, T1⟩
  clear x3 x4 y3 y4 T0 T1
  have p0 : Abx ((w.alloc (.cells #[.bool c0, .slice sa0 sz0.length sc0, .slice da0 dz0.length dc0] 25)).alloc (.cells #[.bool c1, .slice sa1 sz1.length sc1, .slice da1 dz1.length dc1] 25)) w.heap.size (.bool c0) (.slice sa0 sz0.length sc0) (.slice da0 dz0.length dc0) := (Abx.new w _ _ _).al _
  have p1 : Abx ((w.alloc (.cells #[.bool c0, .slice sa0 sz0.length sc0, .slice da0 dz0.length dc0] 25)).alloc (.cells #[.bool c1, .slice sa1 sz1.length sc1, .slice da1 dz1.length dc1] 25)) (w.heap.size + 1) (.bool c1) (.slice sa1 sz1.length sc1) (.slice da1 dz1.length dc1) := Abx.new1 w _ _ _ _
  have hs : ((w.alloc (.cells #[.bool c0, .slice sa0 sz0.length sc0, .slice da0 dz0.length dc0] 25)).alloc (.cells #[.bool c1, .slice sa1 sz1.length sc1, .slice da1 dz1.length dc1] 25)).heap.size = w.heap.size + 1 + 1 := by simp
  have hb : Hid (Below w.heap.size w ((w.alloc (.cells #[.bool c0, .slice sa0 sz0.length sc0, .slice da0 dz0.length dc0] 25)).alloc (.cells #[.bool c1, .slice sa1 sz1.length sc1, .slice da1 dz1.length dc1] 25))) := ((Below.refl _ w).alloc (Nat.le_refl _) _).alloc (by simp) _
  obtain ⟨u, hu⟩ : ∃ u, u = ((w.alloc (.cells #[.bool c0, .slice sa0 sz0.length sc0, .slice da0 dz0.length dc0] 25)).alloc (.cells #[.bool c1, .slice sa1 sz1.length sc1, .slice da1 dz1.length dc1] 25)) := ⟨_, rfl⟩
  rw [← hu] at p0 p1 hs hb
  have n1 : NewInts u.heap.size ((u.alloc (.cells #[.int .i64 3] 3)).alloc (.cells #[.int .i64 4] 3)) (some ⟨u.heap.size, 0, none⟩) [3] := (new_lit u 3 [3]).al _
  have n2 : NewInts (u.alloc (.cells #[.int .i64 3] 3)).heap.size ((u.alloc (.cells #[.int .i64 3] 3)).alloc (.cells #[.int .i64 4] 3)) (some ⟨(u.alloc (.cells #[.int .i64 3] 3)).heap.size, 0, none⟩) [4] := new_lit (u.alloc (.cells #[.int .i64 3] 3)) 3 [4]
  simp only [World.size_alloc, hs] at n1 n2
  have HN : Hid (IsInts ((u.alloc (.cells #[.int .i64 3] 3)).alloc (.cells #[.int .i64 4] 3)).heap.size ((u.alloc (.cells #[.int .i64 3] 3)).alloc (.cells #[.int .i64 4] 3)) (some ⟨w.heap.size + 1 + 1, 0, none⟩) [3] ∧ IsInts ((u.alloc (.cells #[.int .i64 3] 3)).alloc (.cells #[.int .i64 4] 3)).heap.size ((u.alloc (.cells #[.int .i64 3] 3)).alloc (.cells #[.int .i64 4] 3)) (some ⟨w.heap.size + 1 + 1 + 1, 0, none⟩) [4]) := ⟨n1.ints, n2.ints⟩
  replace hb : Hid (Below w.heap.size w ((u.alloc (.cells #[.int .i64 3] 3)).alloc (.cells #[.int .i64 4] 3))) := (hb.out.alloc (by omega) _).alloc (by simp; omega) _
  replace p0 := (p0.al (.cells #[.int .i64 3] 3)).al (.cells #[.int .i64 4] 3)
  replace p1 := (p1.al (.cells #[.int .i64 3] 3)).al (.cells #[.int .i64 4] 3)
  clear n1 n2 hs
  subst hu
  go_enter Try.func6, Try.ntmps6
  go_wp2_with fail
  refine (c2_ok H2 10 false none 0 [] (some ⟨w.heap.size + 1 + 1, 0, none⟩) 1 [3] false none 0 [] (some ⟨w.heap.size + 1 + 1 + 1, 0, none⟩) 1 [4] _ (by unfold In64; decide) (by simp) (by simp) (by simp) (by simp) (.inl rfl) HN.out.1 (.inl rfl) HN.out.2 (lit_in 3 (by decide)) (lit_in 4 (by decide)) (by decide)).mono ?_
  rintro e v1 ⟨f1, g1, f2, g2, he, _, hY, hB⟩
  replace hb : Hid (Below w.heap.size w v1) := hb.out.trans (hB.mono hb.out.size)
  replace p0 := p0.go hB
  replace p1 := p1.go hB
  clear hB
  clear HN
  rw [show e2V 10 false [] [3] false [] [4] = [1] by decide, show shp [] [] = [] by decide] at he
  rw [show e2V 10 false [] [3] false [] [4] = [1] by decide] at hY
  subst he
  obtain ⟨b, off, rfl, _, hcell⟩ := hY.ints.at (q := 0) (by simp)
  have hc := hcell 0 (by simp)
  rw [Nat.add_zero, nth_zero] at hc
  have hlb := World.block_lt_of_cell? _ _ hc
  clear hcell hY
  have p0_0 := p0.c0
  have p0_1 := p0.c1
  have p0_2 := p0.c2
  have p1_0 := p1.c0
  have p1_1 := p1.c1
  have p1_2 := p1.c2
  replace hb : Hid (Below w.heap.size w (v1.alloc (.cells #[.bool false, .slice f1 0 g1, .slice (some ⟨b, off, none⟩) 1 g2] 25))) := hb.out.alloc hb.out.size _
  replace p0 := p0.al (.cells #[.bool false, .slice f1 0 g1, .slice (some ⟨b, off, none⟩) 1 g2] 25)
  replace p1 := p1.al (.cells #[.bool false, .slice f1 0 g1, .slice (some ⟨b, off, none⟩) 1 g2] 25)
  replace p0_0 := p0.c0
  replace p0_1 := p0.c1
  replace p0_2 := p0.c2
  replace p1_0 := p1.c0
  replace p1_1 := p1.c1
  replace p1_2 := p1.c2
  replace hc : (v1.alloc (.cells #[.bool false, .slice f1 0 g1, .slice (some ⟨b, off, none⟩) 1 g2] 25)).cell? ⟨b, off, none⟩ = some (.int .i64 1) := (World.cell?_alloc_lt _ _ ⟨b, off, none⟩ hlb).trans hc
  go_wp2_with fail
  clear hc hlb
  refine (check_ok c0 sa0 sc0 sz0 da0 dc0 dz0 x1 x2 _ ((HI.out.1.1.below hb.out).mono hb.out.size) ((HI.out.1.2.1.below hb.out).mono hb.out.size) F0.out).mono ?_
  rintro e v2 ⟨rfl, hB⟩
  replace hb : Hid (Below w.heap.size w v2) := hb.out.trans (hB.mono hb.out.size)
  replace p0 := p0.go hB
  replace p1 := p1.go hB
  replace p0_0 := p0.c0
  replace p0_1 := p0.c1
  replace p0_2 := p0.c2
  replace p1_0 := p1.c0
  replace p1_1 := p1.c1
  replace p1_2 := p1.c2
  clear hB
  go_wp2_with fail
  refine (check_ok c1 sa1 sc1 sz1 da1 dc1 dz1 y1 y2 _ ((HI.out.2.1.below hb.out).mono hb.out.size) ((HI.out.2.2.1.below hb.out).mono hb.out.size) F1.out).mono ?_
  rintro e v3 ⟨rfl, hB⟩
  replace hb : Hid (Below w.heap.size w v3) := hb.out.trans (hB.mono hb.out.size)
  replace p0 := p0.go hB
  replace p1 := p1.go hB
  replace p0_0 := p0.c0
  replace p0_1 := p0.c1
  replace p0_2 := p0.c2
  replace p1_0 := p1.c0
  replace p1_1 := p1.c1
  replace p1_2 := p1.c2
  clear hB
  go_wp2_with fail
  refine (c2_uni H2 10 c0 sa0 sc0 sz0 da0 dc0 dz0 c1 sa1 sc1 sz1 da1 dc1 dz1 _ (by unfold In64; decide) x1 x2 y1 y2 ((HI.out.1.1.below hb.out).mono hb.out.size) ((HI.out.1.2.1.below hb.out).mono hb.out.size) ((HI.out.2.1.below hb.out).mono hb.out.size) ((HI.out.2.2.1.below hb.out).mono hb.out.size) HI.out.1.2.2 HI.out.2.2.2).mono ?_
  rintro e v4 ⟨xa1, xc1, ya1, yc1, rfl, hX1, hY1, hB⟩
  replace hb : Hid (Below w.heap.size w v4) := hb.out.trans (hB.mono hb.out.size)
  replace p0 := p0.go hB
  replace p1 := p1.go hB
  replace p0_0 := p0.c0
  replace p0_1 := p0.c1
  replace p0_2 := p0.c2
  replace p1_0 := p1.c0
  replace p1_1 := p1.c1
  replace p1_2 := p1.c2
  clear hB
  replace hb : Hid (Below w.heap.size w (v4.alloc (.cells #[.bool false, .slice xa1 (e2S 10 c0 sz0 dz0 c1 sz1 dz1).length xc1, .slice ya1 (e2D 10 c0 sz0 dz0 c1 sz1 dz1).length yc1] 25))) := hb.out.alloc hb.out.size _
  replace p0 := p0.al (.cells #[.bool false, .slice xa1 (e2S 10 c0 sz0 dz0 c1 sz1 dz1).length xc1, .slice ya1 (e2D 10 c0 sz0 dz0 c1 sz1 dz1).length yc1] 25)
  replace p1 := p1.al (.cells #[.bool false, .slice xa1 (e2S 10 c0 sz0 dz0 c1 sz1 dz1).length xc1, .slice ya1 (e2D 10 c0 sz0 dz0 c1 sz1 dz1).length yc1] 25)
  replace hX1 := hX1.al (.cells #[.bool false, .slice xa1 (e2S 10 c0 sz0 dz0 c1 sz1 dz1).length xc1, .slice ya1 (e2D 10 c0 sz0 dz0 c1 sz1 dz1).length yc1] 25)
  replace hY1 := hY1.al (.cells #[.bool false, .slice xa1 (e2S 10 c0 sz0 dz0 c1 sz1 dz1).length xc1, .slice ya1 (e2D 10 c0 sz0 dz0 c1 sz1 dz1).length yc1] 25)
  replace p0_0 := p0.c0
  replace p0_1 := p0.c1
  replace p0_2 := p0.c2
  replace p1_0 := p1.c0
  replace p1_1 := p1.c1
  replace p1_2 := p1.c2
  have b1 := Abx.new v4 (.bool false) (.slice xa1 (e2S 10 c0 sz0 dz0 c1 sz1 dz1).length xc1) (.slice ya1 (e2D 10 c0 sz0 dz0 c1 sz1 dz1).length yc1)
  have b1_0 := b1.c0
  have b1_1 := b1.c1
  have b1_2 := b1.c2
  go_wp2_with fail
  refine (c2_uni H2 13 c1 sa1 sc1 sz1 da1 dc1 dz1 c0 sa0 sc0 sz0 da0 dc0 dz0 _ (by unfold In64; decide) y1 y2 x1 x2 ((HI.out.2.1.below hb.out).mono hb.out.size) ((HI.out.2.2.1.below hb.out).mono hb.out.size) ((HI.out.1.1.below hb.out).mono hb.out.size) ((HI.out.1.2.1.below hb.out).mono hb.out.size) HI.out.2.2.2 HI.out.1.2.2).mono ?_
  rintro e v5 ⟨xa2, xc2, ya2, yc2, rfl, hX2, hY2, hB⟩
  replace hb : Hid (Below w.heap.size w v5) := hb.out.trans (hB.mono hb.out.size)
  replace p0 := p0.go hB
  replace p1 := p1.go hB
  replace hX1 := hX1.go hB
  replace hY1 := hY1.go hB
  replace b1 := b1.go hB
  replace p0_0 := p0.c0
  replace p0_1 := p0.c1
  replace p0_2 := p0.c2
  replace p1_0 := p1.c0
  replace p1_1 := p1.c1
  replace p1_2 := p1.c2
  replace b1_0 := b1.c0
  replace b1_1 := b1.c1
  replace b1_2 := b1.c2
  clear hB
  replace hb : Hid (Below w.heap.size w (v5.alloc (.cells #[.bool false, .slice xa2 (e2S 13 c1 sz1 dz1 c0 sz0 dz0).length xc2, .slice ya2 (e2D 13 c1 sz1 dz1 c0 sz0 dz0).length yc2] 25))) := hb.out.alloc hb.out.size _
  replace p0 := p0.al (.cells #[.bool false, .slice xa2 (e2S 13 c1 sz1 dz1 c0 sz0 dz0).length xc2, .slice ya2 (e2D 13 c1 sz1 dz1 c0 sz0 dz0).length yc2] 25)
  replace p1 := p1.al (.cells #[.bool false, .slice xa2 (e2S 13 c1 sz1 dz1 c0 sz0 dz0).length xc2, .slice ya2 (e2D 13 c1 sz1 dz1 c0 sz0 dz0).length yc2] 25)
  replace hX1 := hX1.al (.cells #[.bool false, .slice xa2 (e2S 13 c1 sz1 dz1 c0 sz0 dz0).length xc2, .slice ya2 (e2D 13 c1 sz1 dz1 c0 sz0 dz0).length yc2] 25)
  replace hY1 := hY1.al (.cells #[.bool false, .slice xa2 (e2S 13 c1 sz1 dz1 c0 sz0 dz0).length xc2, .slice ya2 (e2D 13 c1 sz1 dz1 c0 sz0 dz0).length yc2] 25)
  replace b1 := b1.al (.cells #[.bool false, .slice xa2 (e2S 13 c1 sz1 dz1 c0 sz0 dz0).length xc2, .slice ya2 (e2D 13 c1 sz1 dz1 c0 sz0 dz0).length yc2] 25)
  replace hX2 := hX2.al (.cells #[.bool false, .slice xa2 (e2S 13 c1 sz1 dz1 c0 sz0 dz0).length xc2, .slice ya2 (e2D 13 c1 sz1 dz1 c0 sz0 dz0).length yc2] 25)
  replace hY2 := hY2.al (.cells #[.bool false, .slice xa2 (e2S 13 c1 sz1 dz1 c0 sz0 dz0).length xc2, .slice ya2 (e2D 13 c1 sz1 dz1 c0 sz0 dz0).length yc2] 25)
  replace p0_0 := p0.c0
  replace p0_1 := p0.c1
  replace p0_2 := p0.c2
  replace p1_0 := p1.c0
  replace p1_1 := p1.c1
  replace p1_2 := p1.c2
  replace b1_0 := b1.c0
  replace b1_1 := b1.c1
  replace b1_2 := b1.c2
  have b2 := Abx.new v5 (.bool false) (.slice xa2 (e2S 13 c1 sz1 dz1 c0 sz0 dz0).length xc2) (.slice ya2 (e2D 13 c1 sz1 dz1 c0 sz0 dz0).length yc2)
  have b2_0 := b2.c0
  have b2_1 := b2.c1
  have b2_2 := b2.c2
  go_wp2_with fail
  refine (c2_uni H2 8 c0 sa0 sc0 sz0 da0 dc0 dz0 c1 sa1 sc1 sz1 da1 dc1 dz1 _ (by unfold In64; decide) x1 x2 y1 y2 ((HI.out.1.1.below hb.out).mono hb.out.size) ((HI.out.1.2.1.below hb.out).mono hb.out.size) ((HI.out.2.1.below hb.out).mono hb.out.size) ((HI.out.2.2.1.below hb.out).mono hb.out.size) HI.out.1.2.2 HI.out.2.2.2).mono ?_
  rintro e v6 ⟨xa3, xc3, ya3, yc3, rfl, hX3, hY3, hB⟩
  replace hb : Hid (Below w.heap.size w v6) := hb.out.trans (hB.mono hb.out.size)
  replace p0 := p0.go hB
  replace p1 := p1.go hB
  replace hX1 := hX1.go hB
  replace hY1 := hY1.go hB
  replace b1 := b1.go hB
  replace hX2 := hX2.go hB
  replace hY2 := hY2.go hB
  replace b2 := b2.go hB
  replace p0_0 := p0.c0
  replace p0_1 := p0.c1
  replace p0_2 := p0.c2
  replace p1_0 := p1.c0
  replace p1_1 := p1.c1
  replace p1_2 := p1.c2
  replace b1_0 := b1.c0
  replace b1_1 := b1.c1
  replace b1_2 := b1.c2
  replace b2_0 := b2.c0
  replace b2_1 := b2.c1
  replace b2_2 := b2.c2
  clear hB
  replace hb : Hid (Below w.heap.size w (v6.alloc (.cells #[.bool false, .slice xa3 (e2S 8 c0 sz0 dz0 c1 sz1 dz1).length xc3, .slice ya3 (e2D 8 c0 sz0 dz0 c1 sz1 dz1).length yc3] 25))) := hb.out.alloc hb.out.size _
  replace p0 := p0.al (.cells #[.bool false, .slice xa3 (e2S 8 c0 sz0 dz0 c1 sz1 dz1).length xc3, .slice ya3 (e2D 8 c0 sz0 dz0 c1 sz1 dz1).length yc3] 25)
  replace p1 := p1.al (.cells #[.bool false, .slice xa3 (e2S 8 c0 sz0 dz0 c1 sz1 dz1).length xc3, .slice ya3 (e2D 8 c0 sz0 dz0 c1 sz1 dz1).length yc3] 25)
  replace hX1 := hX1.al (.cells #[.bool false, .slice xa3 (e2S 8 c0 sz0 dz0 c1 sz1 dz1).length xc3, .slice ya3 (e2D 8 c0 sz0 dz0 c1 sz1 dz1).length yc3] 25)
  replace hY1 := hY1.al (.cells #[.bool false, .slice xa3 (e2S 8 c0 sz0 dz0 c1 sz1 dz1).length xc3, .slice ya3 (e2D 8 c0 sz0 dz0 c1 sz1 dz1).length yc3] 25)
  replace b1 := b1.al (.cells #[.bool false, .slice xa3 (e2S 8 c0 sz0 dz0 c1 sz1 dz1).length xc3, .slice ya3 (e2D 8 c0 sz0 dz0 c1 sz1 dz1).length yc3] 25)
  replace hX2 := hX2.al (.cells #[.bool false, .slice xa3 (e2S 8 c0 sz0 dz0 c1 sz1 dz1).length xc3, .slice ya3 (e2D 8 c0 sz0 dz0 c1 sz1 dz1).length yc3] 25)
  replace hY2 := hY2.al (.cells #[.bool false, .slice xa3 (e2S 8 c0 sz0 dz0 c1 sz1 dz1).length xc3, .slice ya3 (e2D 8 c0 sz0 dz0 c1 sz1 dz1).length yc3] 25)
  replace b2 := b2.al (.cells #[.bool false, .slice xa3 (e2S 8 c0 sz0 dz0 c1 sz1 dz1).length xc3, .slice ya3 (e2D 8 c0 sz0 dz0 c1 sz1 dz1).length yc3] 25)
  replace hX3 := hX3.al (.cells #[.bool false, .slice xa3 (e2S 8 c0 sz0 dz0 c1 sz1 dz1).length xc3, .slice ya3 (e2D 8 c0 sz0 dz0 c1 sz1 dz1).length yc3] 25)
  replace hY3 := hY3.al (.cells #[.bool false, .slice xa3 (e2S 8 c0 sz0 dz0 c1 sz1 dz1).length xc3, .slice ya3 (e2D 8 c0 sz0 dz0 c1 sz1 dz1).length yc3] 25)
  replace p0_0 := p0.c0
  replace p0_1 := p0.c1
  replace p0_2 := p0.c2
  replace p1_0 := p1.c0
  replace p1_1 := p1.c1
  replace p1_2 := p1.c2
  replace b1_0 := b1.c0
  replace b1_1 := b1.c1
  replace b1_2 := b1.c2
  replace b2_0 := b2.c0
  replace b2_1 := b2.c1
  replace b2_2 := b2.c2
  have b3 := Abx.new v6 (.bool false) (.slice xa3 (e2S 8 c0 sz0 dz0 c1 sz1 dz1).length xc3) (.slice ya3 (e2D 8 c0 sz0 dz0 c1 sz1 dz1).length yc3)
  have b3_0 := b3.c0
  have b3_1 := b3.c1
  have b3_2 := b3.c2
  go_wp2_with fail
  refine (c2_uni H2 9 c1 sa1 sc1 sz1 da1 dc1 dz1 c0 sa0 sc0 sz0 da0 dc0 dz0 _ (by unfold In64; decide) y1 y2 x1 x2 ((HI.out.2.1.below hb.out).mono hb.out.size) ((HI.out.2.2.1.below hb.out).mono hb.out.size) ((HI.out.1.1.below hb.out).mono hb.out.size) ((HI.out.1.2.1.below hb.out).mono hb.out.size) HI.out.2.2.2 HI.out.1.2.2).mono ?_
  rintro e v7 ⟨xa4, xc4, ya4, yc4, rfl, hX4, hY4, hB⟩
  replace hb : Hid (Below w.heap.size w v7) := hb.out.trans (hB.mono hb.out.size)
  replace p0 := p0.go hB
  replace p1 := p1.go hB
  replace hX1 := hX1.go hB
  replace hY1 := hY1.go hB
  replace b1 := b1.go hB
  replace hX2 := hX2.go hB
  replace hY2 := hY2.go hB
  replace b2 := b2.go hB
  replace hX3 := hX3.go hB
  replace hY3 := hY3.go hB
  replace b3 := b3.go hB
  replace p0_0 := p0.c0
  replace p0_1 := p0.c1
  replace p0_2 := p0.c2
  replace p1_0 := p1.c0
  replace p1_1 := p1.c1
  replace p1_2 := p1.c2
  replace b1_0 := b1.c0
  replace b1_1 := b1.c1
  replace b1_2 := b1.c2
  replace b2_0 := b2.c0
  replace b2_1 := b2.c1
  replace b2_2 := b2.c2
  replace b3_0 := b3.c0
  replace b3_1 := b3.c1
  replace b3_2 := b3.c2
  clear hB
  replace hb : Hid (Below w.heap.size w (v7.alloc (.cells #[.bool false, .slice xa4 (e2S 9 c1 sz1 dz1 c0 sz0 dz0).length xc4, .slice ya4 (e2D 9 c1 sz1 dz1 c0 sz0 dz0).length yc4] 25))) := hb.out.alloc hb.out.size _
  replace p0 := p0.al (.cells #[.bool false, .slice xa4 (e2S 9 c1 sz1 dz1 c0 sz0 dz0).length xc4, .slice ya4 (e2D 9 c1 sz1 dz1 c0 sz0 dz0).length yc4] 25)
  replace p1 := p1.al (.cells #[.bool false, .slice xa4 (e2S 9 c1 sz1 dz1 c0 sz0 dz0).length xc4, .slice ya4 (e2D 9 c1 sz1 dz1 c0 sz0 dz0).length yc4] 25)
  replace hX1 := hX1.al (.cells #[.bool false, .slice xa4 (e2S 9 c1 sz1 dz1 c0 sz0 dz0).length xc4, .slice ya4 (e2D 9 c1 sz1 dz1 c0 sz0 dz0).length yc4] 25)
  replace hY1 := hY1.al (.cells #[.bool false, .slice xa4 (e2S 9 c1 sz1 dz1 c0 sz0 dz0).length xc4, .slice ya4 (e2D 9 c1 sz1 dz1 c0 sz0 dz0).length yc4] 25)
  replace b1 := b1.al (.cells #[.bool false, .slice xa4 (e2S 9 c1 sz1 dz1 c0 sz0 dz0).length xc4, .slice ya4 (e2D 9 c1 sz1 dz1 c0 sz0 dz0).length yc4] 25)
  replace hX2 := hX2.al (.cells #[.bool false, .slice xa4 (e2S 9 c1 sz1 dz1 c0 sz0 dz0).length xc4, .slice ya4 (e2D 9 c1 sz1 dz1 c0 sz0 dz0).length yc4] 25)
  replace hY2 := hY2.al (.cells #[.bool false, .slice xa4 (e2S 9 c1 sz1 dz1 c0 sz0 dz0).length xc4, .slice ya4 (e2D 9 c1 sz1 dz1 c0 sz0 dz0).length yc4] 25)
  replace b2 := b2.al (.cells #[.bool false, .slice xa4 (e2S 9 c1 sz1 dz1 c0 sz0 dz0).length xc4, .slice ya4 (e2D 9 c1 sz1 dz1 c0 sz0 dz0).length yc4] 25)
  replace hX3 := hX3.al (.cells #[.bool false, .slice xa4 (e2S 9 c1 sz1 dz1 c0 sz0 dz0).length xc4, .slice ya4 (e2D 9 c1 sz1 dz1 c0 sz0 dz0).length yc4] 25)
  replace hY3 := hY3.al (.cells #[.bool false, .slice xa4 (e2S 9 c1 sz1 dz1 c0 sz0 dz0).length xc4, .slice ya4 (e2D 9 c1 sz1 dz1 c0 sz0 dz0).length yc4] 25)
  replace b3 := b3.al (.cells #[.bool false, .slice xa4 (e2S 9 c1 sz1 dz1 c0 sz0 dz0).length xc4, .slice ya4 (e2D 9 c1 sz1 dz1 c0 sz0 dz0).length yc4] 25)
  replace hX4 := hX4.al (.cells #[.bool false, .slice xa4 (e2S 9 c1 sz1 dz1 c0 sz0 dz0).length xc4, .slice ya4 (e2D 9 c1 sz1 dz1 c0 sz0 dz0).length yc4] 25)
  replace hY4 := hY4.al (.cells #[.bool false, .slice xa4 (e2S 9 c1 sz1 dz1 c0 sz0 dz0).length xc4, .slice ya4 (e2D 9 c1 sz1 dz1 c0 sz0 dz0).length yc4] 25)
  replace p0_0 := p0.c0
  replace p0_1 := p0.c1
  replace p0_2 := p0.c2
  replace p1_0 := p1.c0
  replace p1_1 := p1.c1
  replace p1_2 := p1.c2
  replace b1_0 := b1.c0
  replace b1_1 := b1.c1
  replace b1_2 := b1.c2
  replace b2_0 := b2.c0
  replace b2_1 := b2.c1
  replace b2_2 := b2.c2
  replace b3_0 := b3.c0
  replace b3_1 := b3.c1
  replace b3_2 := b3.c2
  have b4 := Abx.new v7 (.bool false) (.slice xa4 (e2S 9 c1 sz1 dz1 c0 sz0 dz0).length xc4) (.slice ya4 (e2D 9 c1 sz1 dz1 c0 sz0 dz0).length yc4)
  have b4_0 := b4.c0
  have b4_1 := b4.c1
  have b4_2 := b4.c2
  go_wp2_with fail
  refine (matches_any false false xa1 xc1 (e2S 10 c0 sz0 dz0 c1 sz1 dz1) ya1 yc1 (e2D 10 c0 sz0 dz0 c1 sz1 dz1) (e2E 10 c0 sz0 dz0 c1 sz1 dz1) xa2 xc2 (e2S 13 c1 sz1 dz1 c0 sz0 dz0) ya2 yc2 (e2D 13 c1 sz1 dz1 c0 sz0 dz0) (e2E 13 c1 sz1 dz1 c0 sz0 dz0) (Nat.le_trans e2_short.1 (by decide)) (Nat.le_trans e2_short.2 (by decide)) (Nat.le_trans e2_short.1 (by decide)) (Nat.le_trans e2_short.2 (by decide)) _ hX1.ints hY1.ints hX2.ints hY2.ints).mono ?_
  rintro e v8 ⟨rfl, hB⟩
  replace hb : Hid (Below w.heap.size w v8) := hb.out.trans (hB.mono hb.out.size)
  replace p0 := p0.go hB
  replace p1 := p1.go hB
  replace hX1 := hX1.go hB
  replace hY1 := hY1.go hB
  replace b1 := b1.go hB
  replace hX2 := hX2.go hB
  replace hY2 := hY2.go hB
  replace b2 := b2.go hB
  replace hX3 := hX3.go hB
  replace hY3 := hY3.go hB
  replace b3 := b3.go hB
  replace hX4 := hX4.go hB
  replace hY4 := hY4.go hB
  replace b4 := b4.go hB
  replace p0_0 := p0.c0
  replace p0_1 := p0.c1
  replace p0_2 := p0.c2
  replace p1_0 := p1.c0
  replace p1_1 := p1.c1
  replace p1_2 := p1.c2
  replace b1_0 := b1.c0
  replace b1_1 := b1.c1
  replace b1_2 := b1.c2
  replace b2_0 := b2.c0
  replace b2_1 := b2.c1
  replace b2_2 := b2.c2
  replace b3_0 := b3.c0
  replace b3_1 := b3.c1
  replace b3_2 := b3.c2
  replace b4_0 := b4.c0
  replace b4_1 := b4.c1
  replace b4_2 := b4.c2
  clear hB
  rw [swap_lt c0 sz0 dz0 c1 sz1 dz1]
  rw [E8.out, E9.out, errV_zero]
  go_wp2_with fail
  refine (c1_uni H1 17 false xa4 xc4 (e2S 9 c1 sz1 dz1 c0 sz0 dz0) ya4 yc4 (e2D 9 c1 sz1 dz1 c0 sz0 dz0) _ (by unfold In64; decide) (Nat.le_trans e2_short.1 (by decide)) (Nat.le_trans e2_short.2 (by decide)) hX4.ints hY4.ints (fun j => In64.e2 HI.out.2.2.2 HI.out.1.2.2 j)).mono ?_
  rintro e v9 ⟨xa5, xc5, ya5, yc5, rfl, hX5, hY5, hB⟩
  replace hb : Hid (Below w.heap.size w v9) := hb.out.trans (hB.mono hb.out.size)
  replace p0 := p0.go hB
  replace p1 := p1.go hB
  replace hX1 := hX1.go hB
  replace hY1 := hY1.go hB
  replace b1 := b1.go hB
  replace hX2 := hX2.go hB
  replace hY2 := hY2.go hB
  replace b2 := b2.go hB
  replace hX3 := hX3.go hB
  replace hY3 := hY3.go hB
  replace b3 := b3.go hB
  replace hX4 := hX4.go hB
  replace hY4 := hY4.go hB
  replace b4 := b4.go hB
  replace p0_0 := p0.c0
  replace p0_1 := p0.c1
  replace p0_2 := p0.c2
  replace p1_0 := p1.c0
  replace p1_1 := p1.c1
  replace p1_2 := p1.c2
  replace b1_0 := b1.c0
  replace b1_1 := b1.c1
  replace b1_2 := b1.c2
  replace b2_0 := b2.c0
  replace b2_1 := b2.c1
  replace b2_2 := b2.c2
  replace b3_0 := b3.c0
  replace b3_1 := b3.c1
  replace b3_2 := b3.c2
  replace b4_0 := b4.c0
  replace b4_1 := b4.c1
  replace b4_2 := b4.c2
  clear hB
  replace hb : Hid (Below w.heap.size w (v9.alloc (.cells #[.bool false, .slice xa5 (e1S 17 false (e2S 9 c1 sz1 dz1 c0 sz0 dz0) (e2D 9 c1 sz1 dz1 c0 sz0 dz0)).length xc5, .slice ya5 (e1D 17 false (e2S 9 c1 sz1 dz1 c0 sz0 dz0) (e2D 9 c1 sz1 dz1 c0 sz0 dz0)).length yc5] 25))) := hb.out.alloc hb.out.size _
  replace p0 := p0.al (.cells #[.bool false, .slice xa5 (e1S 17 false (e2S 9 c1 sz1 dz1 c0 sz0 dz0) (e2D 9 c1 sz1 dz1 c0 sz0 dz0)).length xc5, .slice ya5 (e1D 17 false (e2S 9 c1 sz1 dz1 c0 sz0 dz0) (e2D 9 c1 sz1 dz1 c0 sz0 dz0)).length yc5] 25)
  replace p1 := p1.al (.cells #[.bool false, .slice xa5 (e1S 17 false (e2S 9 c1 sz1 dz1 c0 sz0 dz0) (e2D 9 c1 sz1 dz1 c0 sz0 dz0)).length xc5, .slice ya5 (e1D 17 false (e2S 9 c1 sz1 dz1 c0 sz0 dz0) (e2D 9 c1 sz1 dz1 c0 sz0 dz0)).length yc5] 25)
  replace hX1 := hX1.al (.cells #[.bool false, .slice xa5 (e1S 17 false (e2S 9 c1 sz1 dz1 c0 sz0 dz0) (e2D 9 c1 sz1 dz1 c0 sz0 dz0)).length xc5, .slice ya5 (e1D 17 false (e2S 9 c1 sz1 dz1 c0 sz0 dz0) (e2D 9 c1 sz1 dz1 c0 sz0 dz0)).length yc5] 25)
  replace hY1 := hY1.al (.cells #[.bool false, .slice xa5 (e1S 17 false (e2S 9 c1 sz1 dz1 c0 sz0 dz0) (e2D 9 c1 sz1 dz1 c0 sz0 dz0)).length xc5, .slice ya5 (e1D 17 false (e2S 9 c1 sz1 dz1 c0 sz0 dz0) (e2D 9 c1 sz1 dz1 c0 sz0 dz0)).length yc5] 25)
  replace b1 := b1.al (.cells #[.bool false, .slice xa5 (e1S 17 false (e2S 9 c1 sz1 dz1 c0 sz0 dz0) (e2D 9 c1 sz1 dz1 c0 sz0 dz0)).length xc5, .slice ya5 (e1D 17 false (e2S 9 c1 sz1 dz1 c0 sz0 dz0) (e2D 9 c1 sz1 dz1 c0 sz0 dz0)).length yc5] 25)
  replace hX2 := hX2.al (.cells #[.bool false, .slice xa5 (e1S 17 false (e2S 9 c1 sz1 dz1 c0 sz0 dz0) (e2D 9 c1 sz1 dz1 c0 sz0 dz0)).length xc5, .slice ya5 (e1D 17 false (e2S 9 c1 sz1 dz1 c0 sz0 dz0) (e2D 9 c1 sz1 dz1 c0 sz0 dz0)).length yc5] 25)
  replace hY2 := hY2.al (.cells #[.bool false, .slice xa5 (e1S 17 false (e2S 9 c1 sz1 dz1 c0 sz0 dz0) (e2D 9 c1 sz1 dz1 c0 sz0 dz0)).length xc5, .slice ya5 (e1D 17 false (e2S 9 c1 sz1 dz1 c0 sz0 dz0) (e2D 9 c1 sz1 dz1 c0 sz0 dz0)).length yc5] 25)
  replace b2 := b2.al (.cells #[.bool false, .slice xa5 (e1S 17 false (e2S 9 c1 sz1 dz1 c0 sz0 dz0) (e2D 9 c1 sz1 dz1 c0 sz0 dz0)).length xc5, .slice ya5 (e1D 17 false (e2S 9 c1 sz1 dz1 c0 sz0 dz0) (e2D 9 c1 sz1 dz1 c0 sz0 dz0)).length yc5] 25)
  replace hX3 := hX3.al (.cells #[.bool false, .slice xa5 (e1S 17 false (e2S 9 c1 sz1 dz1 c0 sz0 dz0) (e2D 9 c1 sz1 dz1 c0 sz0 dz0)).length xc5, .slice ya5 (e1D 17 false (e2S 9 c1 sz1 dz1 c0 sz0 dz0) (e2D 9 c1 sz1 dz1 c0 sz0 dz0)).length yc5] 25)
  replace hY3 := hY3.al (.cells #[.bool false, .slice xa5 (e1S 17 false (e2S 9 c1 sz1 dz1 c0 sz0 dz0) (e2D 9 c1 sz1 dz1 c0 sz0 dz0)).length xc5, .slice ya5 (e1D 17 false (e2S 9 c1 sz1 dz1 c0 sz0 dz0) (e2D 9 c1 sz1 dz1 c0 sz0 dz0)).length yc5] 25)
  replace b3 := b3.al (.cells #[.bool false, .slice xa5 (e1S 17 false (e2S 9 c1 sz1 dz1 c0 sz0 dz0) (e2D 9 c1 sz1 dz1 c0 sz0 dz0)).length xc5, .slice ya5 (e1D 17 false (e2S 9 c1 sz1 dz1 c0 sz0 dz0) (e2D 9 c1 sz1 dz1 c0 sz0 dz0)).length yc5] 25)
  replace hX4 := hX4.al (.cells #[.bool false, .slice xa5 (e1S 17 false (e2S 9 c1 sz1 dz1 c0 sz0 dz0) (e2D 9 c1 sz1 dz1 c0 sz0 dz0)).length xc5, .slice ya5 (e1D 17 false (e2S 9 c1 sz1 dz1 c0 sz0 dz0) (e2D 9 c1 sz1 dz1 c0 sz0 dz0)).length yc5] 25)
  replace hY4 := hY4.al (.cells #[.bool false, .slice xa5 (e1S 17 false (e2S 9 c1 sz1 dz1 c0 sz0 dz0) (e2D 9 c1 sz1 dz1 c0 sz0 dz0)).length xc5, .slice ya5 (e1D 17 false (e2S 9 c1 sz1 dz1 c0 sz0 dz0) (e2D 9 c1 sz1 dz1 c0 sz0 dz0)).length yc5] 25)
  replace b4 := b4.al (.cells #[.bool false, .slice xa5 (e1S 17 false (e2S 9 c1 sz1 dz1 c0 sz0 dz0) (e2D 9 c1 sz1 dz1 c0 sz0 dz0)).length xc5, .slice ya5 (e1D 17 false (e2S 9 c1 sz1 dz1 c0 sz0 dz0) (e2D 9 c1 sz1 dz1 c0 sz0 dz0)).length yc5] 25)
  replace hX5 := hX5.al (.cells #[.bool false, .slice xa5 (e1S 17 false (e2S 9 c1 sz1 dz1 c0 sz0 dz0) (e2D 9 c1 sz1 dz1 c0 sz0 dz0)).length xc5, .slice ya5 (e1D 17 false (e2S 9 c1 sz1 dz1 c0 sz0 dz0) (e2D 9 c1 sz1 dz1 c0 sz0 dz0)).length yc5] 25)
  replace hY5 := hY5.al (.cells #[.bool false, .slice xa5 (e1S 17 false (e2S 9 c1 sz1 dz1 c0 sz0 dz0) (e2D 9 c1 sz1 dz1 c0 sz0 dz0)).length xc5, .slice ya5 (e1D 17 false (e2S 9 c1 sz1 dz1 c0 sz0 dz0) (e2D 9 c1 sz1 dz1 c0 sz0 dz0)).length yc5] 25)
  replace p0_0 := p0.c0
  replace p0_1 := p0.c1
  replace p0_2 := p0.c2
  replace p1_0 := p1.c0
  replace p1_1 := p1.c1
  replace p1_2 := p1.c2
  replace b1_0 := b1.c0
  replace b1_1 := b1.c1
  replace b1_2 := b1.c2
  replace b2_0 := b2.c0
  replace b2_1 := b2.c1
  replace b2_2 := b2.c2
  replace b3_0 := b3.c0
  replace b3_1 := b3.c1
  replace b3_2 := b3.c2
  replace b4_0 := b4.c0
  replace b4_1 := b4.c1
  replace b4_2 := b4.c2
  have b5 := Abx.new v9 (.bool false) (.slice xa5 (e1S 17 false (e2S 9 c1 sz1 dz1 c0 sz0 dz0) (e2D 9 c1 sz1 dz1 c0 sz0 dz0)).length xc5) (.slice ya5 (e1D 17 false (e2S 9 c1 sz1 dz1 c0 sz0 dz0) (e2D 9 c1 sz1 dz1 c0 sz0 dz0)).length yc5)
  have b5_0 := b5.c0
  have b5_1 := b5.c1
  have b5_2 := b5.c2
  go_wp2_with fail
  have hes := matches_any false false xa5 xc5 (e1S 17 false (e2S 9 c1 sz1 dz1 c0 sz0 dz0) (e2D 9 c1 sz1 dz1 c0 sz0 dz0)) ya5 yc5 (e1D 17 false (e2S 9 c1 sz1 dz1 c0 sz0 dz0) (e2D 9 c1 sz1 dz1 c0 sz0 dz0)) (e1E 17 false (e2S 9 c1 sz1 dz1 c0 sz0 dz0) (e2D 9 c1 sz1 dz1 c0 sz0 dz0)) xa3 xc3 (e2S 8 c0 sz0 dz0 c1 sz1 dz1) ya3 yc3 (e2D 8 c0 sz0 dz0 c1 sz1 dz1) 0 (Nat.le_trans (swap_sh E9.out) (by decide)) (Nat.le_trans (swap_dh E9.out) (by decide)) (Nat.le_trans e2_short.1 (by decide)) (Nat.le_trans e2_short.2 (by decide)) (v9.alloc (.cells #[.bool false, .slice xa5 (e1S 17 false (e2S 9 c1 sz1 dz1 c0 sz0 dz0) (e2D 9 c1 sz1 dz1 c0 sz0 dz0)).length xc5, .slice ya5 (e1D 17 false (e2S 9 c1 sz1 dz1 c0 sz0 dz0) (e2D 9 c1 sz1 dz1 c0 sz0 dz0)).length yc5] 25)) hX5.ints hY5.ints hX3.ints hY3.ints
  rw [errV_zero] at hes
  refine (hes).mono ?_
  rintro e v10 ⟨rfl, hB⟩
  replace hb : Hid (Below w.heap.size w v10) := hb.out.trans (hB.mono hb.out.size)
  replace p0 := p0.go hB
  replace p1 := p1.go hB
  replace hX1 := hX1.go hB
  replace hY1 := hY1.go hB
  replace b1 := b1.go hB
  replace hX2 := hX2.go hB
  replace hY2 := hY2.go hB
  replace b2 := b2.go hB
  replace hX3 := hX3.go hB
  replace hY3 := hY3.go hB
  replace b3 := b3.go hB
  replace hX4 := hX4.go hB
  replace hY4 := hY4.go hB
  replace b4 := b4.go hB
  replace hX5 := hX5.go hB
  replace hY5 := hY5.go hB
  replace b5 := b5.go hB
  replace p0_0 := p0.c0
  replace p0_1 := p0.c1
  replace p0_2 := p0.c2
  replace p1_0 := p1.c0
  replace p1_1 := p1.c1
  replace p1_2 := p1.c2
  replace b1_0 := b1.c0
  replace b1_1 := b1.c1
  replace b1_2 := b1.c2
  replace b2_0 := b2.c0
  replace b2_1 := b2.c1
  replace b2_2 := b2.c2
  replace b3_0 := b3.c0
  replace b3_1 := b3.c1
  replace b3_2 := b3.c2
  replace b4_0 := b4.c0
  replace b4_1 := b4.c1
  replace b4_2 := b4.c2
  replace b5_0 := b5.c0
  replace b5_1 := b5.c1
  replace b5_2 := b5.c2
  clear hB
  clear hes
  rw [swap_ne E8.out E9.out]
  go_wp2_with fail
  go_ret
  exact ⟨rfl, hb.out⟩
theorem swaps_walk (H1 : C1) (H2 : C2) (c0 : Bool) (sa0 : Option Addr) (sc0 : Nat) (sz0 : List Int) (da0 : Option Addr) (dc0 : Nat) (dz0 : List Int) (c1 : Bool) (sa1 : Option Addr) (sc1 : Nat) (sz1 : List Int) (da1 : Option Addr) (dc1 : Nat) (dz1 : List Int) (w : World) (w0 : IsArr w sa0 sz0 da0 dz0) (w1 : IsArr w sa1 sz1 da1 dz1) :
    Calls Try.prog 6 #[.agg #[.bool c0, .slice sa0 sz0.length sc0, .slice da0 dz0.length dc0], .agg #[.bool c1, .slice sa1 sz1.length sc1, .slice da1 dz1.length dc1]] w fun e w' => e = .returned (.bool true) ∧ Below w.heap.size w w' := by
  by_cases f0 : flawE c0 sz0 dz0 = 0
  · by_cases f1 : flawE c1 sz1 dz1 = 0
    · by_cases e8 : e2E 8 c0 sz0 dz0 c1 sz1 dz1 = 0
      · exact swaps_ok H1 H2 c0 sa0 sc0 sz0 da0 dc0 dz0 c1 sa1 sc1 sz1 da1 dc1 dz1 w w0 w1 f0 f1 e8 ((swap_e ..).1 e8)
      · exact swaps_err H1 H2 c0 sa0 sc0 sz0 da0 dc0 dz0 c1 sa1 sc1 sz1 da1 dc1 dz1 w w0 w1 f0 f1 e8 (fun q => e8 ((swap_e ..).2 q))
    · exact swaps_no1 H1 H2 c0 sa0 sc0 sz0 da0 dc0 dz0 c1 sa1 sc1 sz1 da1 dc1 dz1 w w0 w1 f0 f1
  · exact swaps_no0 H1 H2 c0 sa0 sc0 sz0 da0 dc0 dz0 c1 sa1 sc1 sz1 da1 dc1 dz1 w w0 w1 f0
end Go.Proofs.Ytmbgomljofngnaa
