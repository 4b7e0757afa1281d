/-
  The walk of the statement that cells do not see the shape, given what the program tells cell by cell.
-/
import Derived.Test.YtmbgomljofngnaaBase
import Derived.Test.YtmbgomljofngnaaEachs
namespace Go.Proofs.Ytmbgomljofngnaa
open Go.RowKit
set_option linter.unusedVariables false

theorem lit_all {xs : List Int} (h : xs.all (fun x => decide (-9223372036854775808 ≤ x ∧ x ≤ 9223372036854775807)) = true) : ∀ j, In64 (nth xs j) := fun j => by
  by_cases hj : j < xs.length
  · have : nth xs j ∈ xs := by simp [nth, hj]
    exact of_decide_eq_true (p := -9223372036854775808 ≤ nth xs j ∧ nth xs j ≤ 9223372036854775807) (List.all_eq_true.1 h _ this)
  · have : nth xs j = 0 := by simp [nth, List.getElem?_eq_none (Nat.le_of_not_lt hj)]
    rw [this]; unfold In64; decide
theorem fact_v : e2V 2 false [2] [5, 7] false [] [1] = [4, 6] := by
  have h : e2V 2 false [2] [5, 7] false [] [1] = [twoV 2 5 1, twoV 2 7 1] := rfl
  rw [h, tv2, tv2, In64.same (n := 5 - 1) (by unfold In64; decide), In64.same (n := 7 - 1) (by unfold In64; decide)]
  rfl
set_option maxRecDepth 100000 in
set_option maxHeartbeats 8000000 in
theorem ravels_no0 (H2 : C2) (f : Int) (hf : In64 f) (c0 : Bool) (sa0 : Option Addr) (sc0 : Nat) (sz0 : List Int) (da0 : Option Addr) (dc0 : Nat) (dz0 : List Int) (c1 : Bool) (sa1 : Option Addr) (sc1 : Nat) (sz1 : List Int) (da1 : Option Addr) (dc1 : Nat) (dz1 : List Int) (w : World) (w0 : IsArr w sa0 sz0 da0 dz0) (w1 : IsArr w sa1 sz1 da1 dz1) (F0 : Hid (flawE c0 sz0 dz0 ≠ 0)) :
    Calls Try.prog 3 #[.int .i64 f, .agg #[.bool c0, .slice sa0 sz0.length sc0, .slice da0 dz0.length dc0], .agg #[.bool c1, .slice sa1 sz1.length sc1, .slice da1 dz1.length dc1]] w fun e w' => e = .returned (.bool true) ∧ Below w.heap.size w w' := by
  obtain ⟨x1, x2, x3, x4, _, T0⟩ := w0
  obtain ⟨y1, y2, y3, y4, _, T1⟩ := w1
  have HI : Hid ((IsInts w.heap.size w sa0 sz0 ∧ IsInts w.heap.size w da0 dz0 ∧ ∀ j, In64 (nth dz0 j)) ∧ (IsInts w.heap.size w sa1 sz1 ∧ IsInts w.heap.size w da1 dz1 ∧ ∀ j, In64 (nth dz1 j))) := ⟨⟨x3, x4, T0⟩, y3, y4, T1⟩
  clear x3 x4 y3 y4 T0 T1
  have p0 : Abx ((w.alloc (.cells #[.bool c0, .slice sa0 sz0.length sc0, .slice da0 dz0.length dc0] 25)).alloc (.cells #[.bool c1, .slice sa1 sz1.length sc1, .slice da1 dz1.length dc1] 25)) w.heap.size (.bool c0) (.slice sa0 sz0.length sc0) (.slice da0 dz0.length dc0) := (Abx.new w _ _ _).al _
  have p1 : Abx ((w.alloc (.cells #[.bool c0, .slice sa0 sz0.length sc0, .slice da0 dz0.length dc0] 25)).alloc (.cells #[.bool c1, .slice sa1 sz1.length sc1, .slice da1 dz1.length dc1] 25)) (w.heap.size + 1) (.bool c1) (.slice sa1 sz1.length sc1) (.slice da1 dz1.length dc1) := Abx.new1 w _ _ _ _
  have hs : ((w.alloc (.cells #[.bool c0, .slice sa0 sz0.length sc0, .slice da0 dz0.length dc0] 25)).alloc (.cells #[.bool c1, .slice sa1 sz1.length sc1, .slice da1 dz1.length dc1] 25)).heap.size = w.heap.size + 1 + 1 := by simp
  have hb : Hid (Below w.heap.size w ((w.alloc (.cells #[.bool c0, .slice sa0 sz0.length sc0, .slice da0 dz0.length dc0] 25)).alloc (.cells #[.bool c1, .slice sa1 sz1.length sc1, .slice da1 dz1.length dc1] 25))) := ((Below.refl _ w).alloc (Nat.le_refl _) _).alloc (by simp) _
  obtain ⟨u, hu⟩ : ∃ u, u = ((w.alloc (.cells #[.bool c0, .slice sa0 sz0.length sc0, .slice da0 dz0.length dc0] 25)).alloc (.cells #[.bool c1, .slice sa1 sz1.length sc1, .slice da1 dz1.length dc1] 25)) := ⟨_, rfl⟩
  rw [← hu] at p0 p1 hs hb
  have n0 : NewInts u.heap.size (((u.alloc (.cells #[.int .i64 2] 3)).alloc (.cells #[.int .i64 5, .int .i64 7] 3)).alloc (.cells #[.int .i64 1] 3)) (some ⟨u.heap.size, 0, none⟩) [2] := (((new_lit u 3 [2]).al (.cells #[.int .i64 5, .int .i64 7] 3)).al (.cells #[.int .i64 1] 3))
  have n1 : NewInts (u.alloc (.cells #[.int .i64 2] 3)).heap.size (((u.alloc (.cells #[.int .i64 2] 3)).alloc (.cells #[.int .i64 5, .int .i64 7] 3)).alloc (.cells #[.int .i64 1] 3)) (some ⟨(u.alloc (.cells #[.int .i64 2] 3)).heap.size, 0, none⟩) [5, 7] := ((new_lit (u.alloc (.cells #[.int .i64 2] 3)) 3 [5, 7]).al (.cells #[.int .i64 1] 3))
  have n2 : NewInts ((u.alloc (.cells #[.int .i64 2] 3)).alloc (.cells #[.int .i64 5, .int .i64 7] 3)).heap.size (((u.alloc (.cells #[.int .i64 2] 3)).alloc (.cells #[.int .i64 5, .int .i64 7] 3)).alloc (.cells #[.int .i64 1] 3)) (some ⟨((u.alloc (.cells #[.int .i64 2] 3)).alloc (.cells #[.int .i64 5, .int .i64 7] 3)).heap.size, 0, none⟩) [1] := (new_lit ((u.alloc (.cells #[.int .i64 2] 3)).alloc (.cells #[.int .i64 5, .int .i64 7] 3)) 3 [1])
  simp only [World.size_alloc, hs] at n0 n1 n2
  have HN : Hid (IsInts (((u.alloc (.cells #[.int .i64 2] 3)).alloc (.cells #[.int .i64 5, .int .i64 7] 3)).alloc (.cells #[.int .i64 1] 3)).heap.size (((u.alloc (.cells #[.int .i64 2] 3)).alloc (.cells #[.int .i64 5, .int .i64 7] 3)).alloc (.cells #[.int .i64 1] 3)) (some ⟨w.heap.size + 1 + 1, 0, none⟩) [2] ∧ IsInts (((u.alloc (.cells #[.int .i64 2] 3)).alloc (.cells #[.int .i64 5, .int .i64 7] 3)).alloc (.cells #[.int .i64 1] 3)).heap.size (((u.alloc (.cells #[.int .i64 2] 3)).alloc (.cells #[.int .i64 5, .int .i64 7] 3)).alloc (.cells #[.int .i64 1] 3)) (some ⟨w.heap.size + 1 + 1 + 1, 0, none⟩) [5, 7] ∧ IsInts (((u.alloc (.cells #[.int .i64 2] 3)).alloc (.cells #[.int .i64 5, .int .i64 7] 3)).alloc (.cells #[.int .i64 1] 3)).heap.size (((u.alloc (.cells #[.int .i64 2] 3)).alloc (.cells #[.int .i64 5, .int .i64 7] 3)).alloc (.cells #[.int .i64 1] 3)) (some ⟨w.heap.size + 1 + 1 + 1 + 1, 0, none⟩) [1]) := ⟨n0.ints, n1.ints, n2.ints⟩
  replace hb : Hid (Below w.heap.size w (((u.alloc (.cells #[.int .i64 2] 3)).alloc (.cells #[.int .i64 5, .int .i64 7] 3)).alloc (.cells #[.int .i64 1] 3))) := (((hb.out.alloc (by omega) _).alloc (by simp; omega) _).alloc (by simp; omega) _)
  replace p0 := (((p0.al (.cells #[.int .i64 2] 3)).al (.cells #[.int .i64 5, .int .i64 7] 3)).al (.cells #[.int .i64 1] 3))
  replace p1 := (((p1.al (.cells #[.int .i64 2] 3)).al (.cells #[.int .i64 5, .int .i64 7] 3)).al (.cells #[.int .i64 1] 3))
  clear n0 n1 n2 hs
  subst hu
  go_enter Try.func3, Try.ntmps3
  go_wp2_with fail
  refine (c2_ok H2 2 false (some ⟨w.heap.size + 1 + 1, 0, none⟩) 1 [2] (some ⟨w.heap.size + 1 + 1 + 1, 0, none⟩) 2 [5, 7] false none 0 [] (some ⟨w.heap.size + 1 + 1 + 1 + 1, 0, none⟩) 1 [1] _ (by unfold In64; decide) (by simp) (by simp) (by simp) (by simp) HN.out.1 HN.out.2.1 (.inl rfl) HN.out.2.2 (lit_all (by decide)) (lit_all (by decide)) (by decide)).mono ?_
  rintro e v1 ⟨f1, g1, f2, g2, he, _, hY, hB⟩
  replace hb : Hid (Below w.heap.size w v1) := hb.out.trans (hB.mono hb.out.size)
  replace p0 := p0.go hB
  replace p1 := p1.go hB
  clear hB
  clear HN
  rw [fact_v, show shp [2] [] = [2] by decide] at he
  rw [fact_v] at hY
  subst he
  have p0_0 := p0.c0
  have p0_1 := p0.c1
  have p0_2 := p0.c2
  have p1_0 := p1.c0
  have p1_1 := p1.c1
  have p1_2 := p1.c2
  replace hb : Hid (Below w.heap.size w (v1.alloc (.cells #[.bool false, .slice f1 1 g1, .slice f2 2 g2] 25))) := hb.out.alloc hb.out.size _
  replace p0 := p0.al (.cells #[.bool false, .slice f1 1 g1, .slice f2 2 g2] 25)
  replace p1 := p1.al (.cells #[.bool false, .slice f1 1 g1, .slice f2 2 g2] 25)
  replace hY := hY.al (.cells #[.bool false, .slice f1 1 g1, .slice f2 2 g2] 25)
  replace p0_0 := p0.c0
  replace p0_1 := p0.c1
  replace p0_2 := p0.c2
  replace p1_0 := p1.c0
  replace p1_1 := p1.c1
  replace p1_2 := p1.c2
  replace hb : Hid (Below w.heap.size w ((v1.alloc (.cells #[.bool false, .slice f1 1 g1, .slice f2 2 g2] 25)).alloc (.cells #[.int .i64 4, .int .i64 6] 3))) := hb.out.alloc hb.out.size _
  replace p0 := p0.al (.cells #[.int .i64 4, .int .i64 6] 3)
  replace p1 := p1.al (.cells #[.int .i64 4, .int .i64 6] 3)
  replace hY := hY.al (.cells #[.int .i64 4, .int .i64 6] 3)
  replace p0_0 := p0.c0
  replace p0_1 := p0.c1
  replace p0_2 := p0.c2
  replace p1_0 := p1.c0
  replace p1_1 := p1.c1
  replace p1_2 := p1.c2
  have nl := new_lit (v1.alloc (.cells #[.bool false, .slice f1 1 g1, .slice f2 2 g2] 25)) 3 [4, 6]
  simp only [World.size_alloc] at nl
  go_wp2_with fail
  refine (ints_any f2 g2 [4, 6] (some ⟨v1.heap.size + 1, 0, none⟩) 2 [4, 6] (by simp) _ _ hY.ints nl.ints).mono ?_
  rintro e v2 ⟨rfl, hB⟩
  replace hb : Hid (Below w.heap.size w v2) := hb.out.trans (hB.mono hb.out.size)
  replace p0 := p0.go hB
  replace p1 := p1.go hB
  replace hY := hY.go hB
  replace p0_0 := p0.c0
  replace p0_1 := p0.c1
  replace p0_2 := p0.c2
  replace p1_0 := p1.c0
  replace p1_1 := p1.c1
  replace p1_2 := p1.c2
  clear hB
  clear nl hY
  rw [eqB_true rfl]
  go_wp2_with fail
  refine (ravel_uni c0 sa0 sc0 sz0 da0 dc0 dz0 x1 x2 _ ((HI.out.1.1.below hb.out).mono hb.out.size) ((HI.out.1.2.1.below hb.out).mono hb.out.size)).mono ?_
  rintro e v3 ⟨xa1, xc1, ya1, yc1, rfl, hX1, hY1, hB⟩
  replace hb : Hid (Below w.heap.size w v3) := hb.out.trans (hB.mono hb.out.size)
  replace p0 := p0.go hB
  replace p1 := p1.go hB
  replace p0_0 := p0.c0
  replace p0_1 := p0.c1
  replace p0_2 := p0.c2
  replace p1_0 := p1.c0
  replace p1_1 := p1.c1
  replace p1_2 := p1.c2
  clear hB
  replace hb : Hid (Below w.heap.size w (v3.alloc (.cells #[.bool (rvC c0 sz0 dz0), .slice xa1 (rvS c0 sz0 dz0).length xc1, .slice ya1 (rvD c0 sz0 dz0).length yc1] 25))) := hb.out.alloc hb.out.size _
  replace p0 := p0.al (.cells #[.bool (rvC c0 sz0 dz0), .slice xa1 (rvS c0 sz0 dz0).length xc1, .slice ya1 (rvD c0 sz0 dz0).length yc1] 25)
  replace p1 := p1.al (.cells #[.bool (rvC c0 sz0 dz0), .slice xa1 (rvS c0 sz0 dz0).length xc1, .slice ya1 (rvD c0 sz0 dz0).length yc1] 25)
  replace hX1 := hX1.al (.cells #[.bool (rvC c0 sz0 dz0), .slice xa1 (rvS c0 sz0 dz0).length xc1, .slice ya1 (rvD c0 sz0 dz0).length yc1] 25)
  replace hY1 := hY1.al (.cells #[.bool (rvC c0 sz0 dz0), .slice xa1 (rvS c0 sz0 dz0).length xc1, .slice ya1 (rvD c0 sz0 dz0).length yc1] 25)
  replace p0_0 := p0.c0
  replace p0_1 := p0.c1
  replace p0_2 := p0.c2
  replace p1_0 := p1.c0
  replace p1_1 := p1.c1
  replace p1_2 := p1.c2
  have b1 := Abx.new v3 (.bool (rvC c0 sz0 dz0)) (.slice xa1 (rvS c0 sz0 dz0).length xc1) (.slice ya1 (rvD c0 sz0 dz0).length yc1)
  have b1_0 := b1.c0
  have b1_1 := b1.c1
  have b1_2 := b1.c2
  go_wp2_with fail
  refine (ravel_uni c1 sa1 sc1 sz1 da1 dc1 dz1 y1 y2 _ ((HI.out.2.1.below hb.out).mono hb.out.size) ((HI.out.2.2.1.below hb.out).mono hb.out.size)).mono ?_
  rintro e v4 ⟨xa2, xc2, ya2, yc2, rfl, hX2, hY2, hB⟩
  replace hb : Hid (Below w.heap.size w v4) := hb.out.trans (hB.mono hb.out.size)
  replace p0 := p0.go hB
  replace p1 := p1.go hB
  replace hX1 := hX1.go hB
  replace hY1 := hY1.go hB
  replace b1 := b1.go hB
  replace p0_0 := p0.c0
  replace p0_1 := p0.c1
  replace p0_2 := p0.c2
  replace p1_0 := p1.c0
  replace p1_1 := p1.c1
  replace p1_2 := p1.c2
  replace b1_0 := b1.c0
  replace b1_1 := b1.c1
  replace b1_2 := b1.c2
  clear hB
  replace hb : Hid (Below w.heap.size w (v4.alloc (.cells #[.bool (rvC c1 sz1 dz1), .slice xa2 (rvS c1 sz1 dz1).length xc2, .slice ya2 (rvD c1 sz1 dz1).length yc2] 25))) := hb.out.alloc hb.out.size _
  replace p0 := p0.al (.cells #[.bool (rvC c1 sz1 dz1), .slice xa2 (rvS c1 sz1 dz1).length xc2, .slice ya2 (rvD c1 sz1 dz1).length yc2] 25)
  replace p1 := p1.al (.cells #[.bool (rvC c1 sz1 dz1), .slice xa2 (rvS c1 sz1 dz1).length xc2, .slice ya2 (rvD c1 sz1 dz1).length yc2] 25)
  replace hX1 := hX1.al (.cells #[.bool (rvC c1 sz1 dz1), .slice xa2 (rvS c1 sz1 dz1).length xc2, .slice ya2 (rvD c1 sz1 dz1).length yc2] 25)
  replace hY1 := hY1.al (.cells #[.bool (rvC c1 sz1 dz1), .slice xa2 (rvS c1 sz1 dz1).length xc2, .slice ya2 (rvD c1 sz1 dz1).length yc2] 25)
  replace b1 := b1.al (.cells #[.bool (rvC c1 sz1 dz1), .slice xa2 (rvS c1 sz1 dz1).length xc2, .slice ya2 (rvD c1 sz1 dz1).length yc2] 25)
  replace hX2 := hX2.al (.cells #[.bool (rvC c1 sz1 dz1), .slice xa2 (rvS c1 sz1 dz1).length xc2, .slice ya2 (rvD c1 sz1 dz1).length yc2] 25)
  replace hY2 := hY2.al (.cells #[.bool (rvC c1 sz1 dz1), .slice xa2 (rvS c1 sz1 dz1).length xc2, .slice ya2 (rvD c1 sz1 dz1).length yc2] 25)
  replace p0_0 := p0.c0
  replace p0_1 := p0.c1
  replace p0_2 := p0.c2
  replace p1_0 := p1.c0
  replace p1_1 := p1.c1
  replace p1_2 := p1.c2
  replace b1_0 := b1.c0
  replace b1_1 := b1.c1
  replace b1_2 := b1.c2
  have b2 := Abx.new v4 (.bool (rvC c1 sz1 dz1)) (.slice xa2 (rvS c1 sz1 dz1).length xc2) (.slice ya2 (rvD c1 sz1 dz1).length yc2)
  have b2_0 := b2.c0
  have b2_1 := b2.c1
  have b2_2 := b2.c2
  go_wp2_with fail
  refine (ints_any sa0 sc0 sz0 sa1 sc1 sz1 x1 _ _ ((HI.out.1.1.below hb.out).mono hb.out.size) ((HI.out.2.1.below hb.out).mono hb.out.size)).mono ?_
  rintro e v5 ⟨rfl, hB⟩
  replace hb : Hid (Below w.heap.size w v5) := hb.out.trans (hB.mono hb.out.size)
  replace p0 := p0.go hB
  replace p1 := p1.go hB
  replace hX1 := hX1.go hB
  replace hY1 := hY1.go hB
  replace b1 := b1.go hB
  replace hX2 := hX2.go hB
  replace hY2 := hY2.go hB
  replace b2 := b2.go hB
  replace p0_0 := p0.c0
  replace p0_1 := p0.c1
  replace p0_2 := p0.c2
  replace p1_0 := p1.c0
  replace p1_1 := p1.c1
  replace p1_2 := p1.c2
  replace b1_0 := b1.c0
  replace b1_1 := b1.c1
  replace b1_2 := b1.c2
  replace b2_0 := b2.c0
  replace b2_1 := b2.c1
  replace b2_2 := b2.c2
  clear hB
  rw [errV_pos F0.out]
  go_wp2_with fail
  go_ret
  exact ⟨rfl, hb.out⟩
set_option maxRecDepth 100000 in
set_option maxHeartbeats 8000000 in
theorem ravels_no1 (H2 : C2) (f : Int) (hf : In64 f) (c0 : Bool) (sa0 : Option Addr) (sc0 : Nat) (sz0 : List Int) (da0 : Option Addr) (dc0 : Nat) (dz0 : List Int) (c1 : Bool) (sa1 : Option Addr) (sc1 : Nat) (sz1 : List Int) (da1 : Option Addr) (dc1 : Nat) (dz1 : List Int) (w : World) (w0 : IsArr w sa0 sz0 da0 dz0) (w1 : IsArr w sa1 sz1 da1 dz1) (F0 : Hid (flawE c0 sz0 dz0 = 0)) (F1 : Hid (flawE c1 sz1 dz1 ≠ 0)) :
    Calls Try.prog 3 #[.int .i64 f, .agg #[.bool c0, .slice sa0 sz0.length sc0, .slice da0 dz0.length dc0], .agg #[.bool c1, .slice sa1 sz1.length sc1, .slice da1 dz1.length dc1]] w fun e w' => e = .returned (.bool true) ∧ Below w.heap.size w w' := by
  obtain ⟨x1, x2, x3, x4, _, T0⟩ := w0
  obtain ⟨y1, y2, y3, y4, _, T1⟩ := w1
  have HI : Hid ((IsInts w.heap.size w sa0 sz0 ∧ IsInts w.heap.size w da0 dz0 ∧ ∀ j, In64 (nth dz0 j)) ∧ (IsInts w.heap.size w sa1 sz1 ∧ IsInts w.heap.size w da1 dz1 ∧ ∀ j, In64 (nth dz1 j))) := ⟨⟨x3, x4, T0⟩, y3, y4, T1⟩
  clear x3 x4 y3 y4 T0 T1
  have p0 : Abx ((w.alloc (.cells #[.bool c0, .slice sa0 sz0.length sc0, .slice da0 dz0.length dc0] 25)).alloc (.cells #[.bool c1, .slice sa1 sz1.length sc1, .slice da1 dz1.length dc1] 25)) w.heap.size (.bool c0) (.slice sa0 sz0.length sc0) (.slice da0 dz0.length dc0) := (Abx.new w _ _ _).al _
  have p1 : Abx ((w.alloc (.cells #[.bool c0, .slice sa0 sz0.length sc0, .slice da0 dz0.length dc0] 25)).alloc (.cells #[.bool c1, .slice sa1 sz1.length sc1, .slice da1 dz1.length dc1] 25)) (w.heap.size + 1) (.bool c1) (.slice sa1 sz1.length sc1) (.slice da1 dz1.length dc1) := Abx.new1 w _ _ _ _
  have hs : ((w.alloc (.cells #[.bool c0, .slice sa0 sz0.length sc0, .slice da0 dz0.length dc0] 25)).alloc (.cells #[.bool c1, .slice sa1 sz1.length sc1, .slice da1 dz1.length dc1] 25)).heap.size = w.heap.size + 1 + 1 := by simp
  have hb : Hid (Below w.heap.size w ((w.alloc (.cells #[.bool c0, .slice sa0 sz0.length sc0, .slice da0 dz0.length dc0] 25)).alloc (.cells #[.bool c1, .slice sa1 sz1.length sc1, .slice da1 dz1.length dc1] 25))) := ((Below.refl _ w).alloc (Nat.le_refl _) _).alloc (by simp) _
  obtain ⟨u, hu⟩ : ∃ u, u = ((w.alloc (.cells #[.bool c0, .slice sa0 sz0.length sc0, .slice da0 dz0.length dc0] 25)).alloc (.cells #[.bool c1, .slice sa1 sz1.length sc1, .slice da1 dz1.length dc1] 25)) := ⟨_, rfl⟩
  rw [← hu] at p0 p1 hs hb
  have n0 : NewInts u.heap.size (((u.alloc (.cells #[.int .i64 2] 3)).alloc (.cells #[.int .i64 5, .int .i64 7] 3)).alloc (.cells #[.int .i64 1] 3)) (some ⟨u.heap.size, 0, none⟩) [2] := (((new_lit u 3 [2]).al (.cells #[.int .i64 5, .int .i64 7] 3)).al (.cells #[.int .i64 1] 3))
  have n1 : NewInts (u.alloc (.cells #[.int .i64 2] 3)).heap.size (((u.alloc (.cells #[.int .i64 2] 3)).alloc (.cells #[.int .i64 5, .int .i64 7] 3)).alloc (.cells #[.int .i64 1] 3)) (some ⟨(u.alloc (.cells #[.int .i64 2] 3)).heap.size, 0, none⟩) [5, 7] := ((new_lit (u.alloc (.cells #[.int .i64 2] 3)) 3 [5, 7]).al (.cells #[.int .i64 1] 3))
  have n2 : NewInts ((u.alloc (.cells #[.int .i64 2] 3)).alloc (.cells #[.int .i64 5, .int .i64 7] 3)).heap.size (((u.alloc (.cells #[.int .i64 2] 3)).alloc (.cells #[.int .i64 5, .int .i64 7] 3)).alloc (.cells #[.int .i64 1] 3)) (some ⟨((u.alloc (.cells #[.int .i64 2] 3)).alloc (.cells #[.int .i64 5, .int .i64 7] 3)).heap.size, 0, none⟩) [1] := (new_lit ((u.alloc (.cells #[.int .i64 2] 3)).alloc (.cells #[.int .i64 5, .int .i64 7] 3)) 3 [1])
  simp only [World.size_alloc, hs] at n0 n1 n2
  have HN : Hid (IsInts (((u.alloc (.cells #[.int .i64 2] 3)).alloc (.cells #[.int .i64 5, .int .i64 7] 3)).alloc (.cells #[.int .i64 1] 3)).heap.size (((u.alloc (.cells #[.int .i64 2] 3)).alloc (.cells #[.int .i64 5, .int .i64 7] 3)).alloc (.cells #[.int .i64 1] 3)) (some ⟨w.heap.size + 1 + 1, 0, none⟩) [2] ∧ IsInts (((u.alloc (.cells #[.int .i64 2] 3)).alloc (.cells #[.int .i64 5, .int .i64 7] 3)).alloc (.cells #[.int .i64 1] 3)).heap.size (((u.alloc (.cells #[.int .i64 2] 3)).alloc (.cells #[.int .i64 5, .int .i64 7] 3)).alloc (.cells #[.int .i64 1] 3)) (some ⟨w.heap.size + 1 + 1 + 1, 0, none⟩) [5, 7] ∧ IsInts (((u.alloc (.cells #[.int .i64 2] 3)).alloc (.cells #[.int .i64 5, .int .i64 7] 3)).alloc (.cells #[.int .i64 1] 3)).heap.size (((u.alloc (.cells #[.int .i64 2] 3)).alloc (.cells #[.int .i64 5, .int .i64 7] 3)).alloc (.cells #[.int .i64 1] 3)) (some ⟨w.heap.size + 1 + 1 + 1 + 1, 0, none⟩) [1]) := ⟨n0.ints, n1.ints, n2.ints⟩
  replace hb : Hid (Below w.heap.size w (((u.alloc (.cells #[.int .i64 2] 3)).alloc (.cells #[.int .i64 5, .int .i64 7] 3)).alloc (.cells #[.int .i64 1] 3))) := (((hb.out.alloc (by omega) _).alloc (by simp; omega) _).alloc (by simp; omega) _)
  replace p0 := (((p0.al (.cells #[.int .i64 2] 3)).al (.cells #[.int .i64 5, .int .i64 7] 3)).al (.cells #[.int .i64 1] 3))
  replace p1 := (((p1.al (.cells #[.int .i64 2] 3)).al (.cells #[.int .i64 5, .int .i64 7] 3)).al (.cells #[.int .i64 1] 3))
  clear n0 n1 n2 hs
  subst hu
  go_enter Try.func3, Try.ntmps3
  go_wp2_with fail
  refine (c2_ok H2 2 false (some ⟨w.heap.size + 1 + 1, 0, none⟩) 1 [2] (some ⟨w.heap.size + 1 + 1 + 1, 0, none⟩) 2 [5, 7] false none 0 [] (some ⟨w.heap.size + 1 + 1 + 1 + 1, 0, none⟩) 1 [1] _ (by unfold In64; decide) (by simp) (by simp) (by simp) (by simp) HN.out.1 HN.out.2.1 (.inl rfl) HN.out.2.2 (lit_all (by decide)) (lit_all (by decide)) (by decide)).mono ?_
  rintro e v1 ⟨f1, g1, f2, g2, he, _, hY, hB⟩
  replace hb : Hid (Below w.heap.size w v1) := hb.out.trans (hB.mono hb.out.size)
  replace p0 := p0.go hB
  replace p1 := p1.go hB
  clear hB
  clear HN
  rw [fact_v, show shp [2] [] = [2] by decide] at he
  rw [fact_v] at hY
  subst he
  have p0_0 := p0.c0
  have p0_1 := p0.c1
  have p0_2 := p0.c2
  have p1_0 := p1.c0
  have p1_1 := p1.c1
  have p1_2 := p1.c2
  replace hb : Hid (Below w.heap.size w (v1.alloc (.cells #[.bool false, .slice f1 1 g1, .slice f2 2 g2] 25))) := hb.out.alloc hb.out.size _
  replace p0 := p0.al (.cells #[.bool false, .slice f1 1 g1, .slice f2 2 g2] 25)
  replace p1 := p1.al (.cells #[.bool false, .slice f1 1 g1, .slice f2 2 g2] 25)
  replace hY := hY.al (.cells #[.bool false, .slice f1 1 g1, .slice f2 2 g2] 25)
  replace p0_0 := p0.c0
  replace p0_1 := p0.c1
  replace p0_2 := p0.c2
  replace p1_0 := p1.c0
  replace p1_1 := p1.c1
  replace p1_2 := p1.c2
  replace hb : Hid (Below w.heap.size w ((v1.alloc (.cells #[.bool false, .slice f1 1 g1, .slice f2 2 g2] 25)).alloc (.cells #[.int .i64 4, .int .i64 6] 3))) := hb.out.alloc hb.out.size _
  replace p0 := p0.al (.cells #[.int .i64 4, .int .i64 6] 3)
  replace p1 := p1.al (.cells #[.int .i64 4, .int .i64 6] 3)
  replace hY := hY.al (.cells #[.int .i64 4, .int .i64 6] 3)
  replace p0_0 := p0.c0
  replace p0_1 := p0.c1
  replace p0_2 := p0.c2
  replace p1_0 := p1.c0
  replace p1_1 := p1.c1
  replace p1_2 := p1.c2
  have nl := new_lit (v1.alloc (.cells #[.bool false, .slice f1 1 g1, .slice f2 2 g2] 25)) 3 [4, 6]
  simp only [World.size_alloc] at nl
  go_wp2_with fail
  refine (ints_any f2 g2 [4, 6] (some ⟨v1.heap.size + 1, 0, none⟩) 2 [4, 6] (by simp) _ _ hY.ints nl.ints).mono ?_
  rintro e v2 ⟨rfl, hB⟩
  replace hb : Hid (Below w.heap.size w v2) := hb.out.trans (hB.mono hb.out.size)
  replace p0 := p0.go hB
  replace p1 := p1.go hB
  replace hY := hY.go hB
  replace p0_0 := p0.c0
  replace p0_1 := p0.c1
  replace p0_2 := p0.c2
  replace p1_0 := p1.c0
  replace p1_1 := p1.c1
  replace p1_2 := p1.c2
  clear hB
  clear nl hY
  rw [eqB_true rfl]
  go_wp2_with fail
  refine (ravel_uni c0 sa0 sc0 sz0 da0 dc0 dz0 x1 x2 _ ((HI.out.1.1.below hb.out).mono hb.out.size) ((HI.out.1.2.1.below hb.out).mono hb.out.size)).mono ?_
  rintro e v3 ⟨xa1, xc1, ya1, yc1, rfl, hX1, hY1, hB⟩
  replace hb : Hid (Below w.heap.size w v3) := hb.out.trans (hB.mono hb.out.size)
  replace p0 := p0.go hB
  replace p1 := p1.go hB
  replace p0_0 := p0.c0
  replace p0_1 := p0.c1
  replace p0_2 := p0.c2
  replace p1_0 := p1.c0
  replace p1_1 := p1.c1
  replace p1_2 := p1.c2
  clear hB
  replace hb : Hid (Below w.heap.size w (v3.alloc (.cells #[.bool (rvC c0 sz0 dz0), .slice xa1 (rvS c0 sz0 dz0).length xc1, .slice ya1 (rvD c0 sz0 dz0).length yc1] 25))) := hb.out.alloc hb.out.size _
  replace p0 := p0.al (.cells #[.bool (rvC c0 sz0 dz0), .slice xa1 (rvS c0 sz0 dz0).length xc1, .slice ya1 (rvD c0 sz0 dz0).length yc1] 25)
  replace p1 := p1.al (.cells #[.bool (rvC c0 sz0 dz0), .slice xa1 (rvS c0 sz0 dz0).length xc1, .slice ya1 (rvD c0 sz0 dz0).length yc1] 25)
  replace hX1 := hX1.al (.cells #[.bool (rvC c0 sz0 dz0), .slice xa1 (rvS c0 sz0 dz0).length xc1, .slice ya1 (rvD c0 sz0 dz0).length yc1] 25)
  replace hY1 := hY1.al (.cells #[.bool (rvC c0 sz0 dz0), .slice xa1 (rvS c0 sz0 dz0).length xc1, .slice ya1 (rvD c0 sz0 dz0).length yc1] 25)
  replace p0_0 := p0.c0
  replace p0_1 := p0.c1
  replace p0_2 := p0.c2
  replace p1_0 := p1.c0
  replace p1_1 := p1.c1
  replace p1_2 := p1.c2
  have b1 := Abx.new v3 (.bool (rvC c0 sz0 dz0)) (.slice xa1 (rvS c0 sz0 dz0).length xc1) (.slice ya1 (rvD c0 sz0 dz0).length yc1)
  have b1_0 := b1.c0
  have b1_1 := b1.c1
  have b1_2 := b1.c2
  go_wp2_with fail
  refine (ravel_uni c1 sa1 sc1 sz1 da1 dc1 dz1 y1 y2 _ ((HI.out.2.1.below hb.out).mono hb.out.size) ((HI.out.2.2.1.below hb.out).mono hb.out.size)).mono ?_
  rintro e v4 ⟨xa2, xc2, ya2, yc2, rfl, hX2, hY2, hB⟩
  replace hb : Hid (Below w.heap.size w v4) := hb.out.trans (hB.mono hb.out.size)
  replace p0 := p0.go hB
  replace p1 := p1.go hB
  replace hX1 := hX1.go hB
  replace hY1 := hY1.go hB
  replace b1 := b1.go hB
  replace p0_0 := p0.c0
  replace p0_1 := p0.c1
  replace p0_2 := p0.c2
  replace p1_0 := p1.c0
  replace p1_1 := p1.c1
  replace p1_2 := p1.c2
  replace b1_0 := b1.c0
  replace b1_1 := b1.c1
  replace b1_2 := b1.c2
  clear hB
  replace hb : Hid (Below w.heap.size w (v4.alloc (.cells #[.bool (rvC c1 sz1 dz1), .slice xa2 (rvS c1 sz1 dz1).length xc2, .slice ya2 (rvD c1 sz1 dz1).length yc2] 25))) := hb.out.alloc hb.out.size _
  replace p0 := p0.al (.cells #[.bool (rvC c1 sz1 dz1), .slice xa2 (rvS c1 sz1 dz1).length xc2, .slice ya2 (rvD c1 sz1 dz1).length yc2] 25)
  replace p1 := p1.al (.cells #[.bool (rvC c1 sz1 dz1), .slice xa2 (rvS c1 sz1 dz1).length xc2, .slice ya2 (rvD c1 sz1 dz1).length yc2] 25)
  replace hX1 := hX1.al (.cells #[.bool (rvC c1 sz1 dz1), .slice xa2 (rvS c1 sz1 dz1).length xc2, .slice ya2 (rvD c1 sz1 dz1).length yc2] 25)
  replace hY1 := hY1.al (.cells #[.bool (rvC c1 sz1 dz1), .slice xa2 (rvS c1 sz1 dz1).length xc2, .slice ya2 (rvD c1 sz1 dz1).length yc2] 25)
  replace b1 := b1.al (.cells #[.bool (rvC c1 sz1 dz1), .slice xa2 (rvS c1 sz1 dz1).length xc2, .slice ya2 (rvD c1 sz1 dz1).length yc2] 25)
  replace hX2 := hX2.al (.cells #[.bool (rvC c1 sz1 dz1), .slice xa2 (rvS c1 sz1 dz1).length xc2, .slice ya2 (rvD c1 sz1 dz1).length yc2] 25)
  replace hY2 := hY2.al (.cells #[.bool (rvC c1 sz1 dz1), .slice xa2 (rvS c1 sz1 dz1).length xc2, .slice ya2 (rvD c1 sz1 dz1).length yc2] 25)
  replace p0_0 := p0.c0
  replace p0_1 := p0.c1
  replace p0_2 := p0.c2
  replace p1_0 := p1.c0
  replace p1_1 := p1.c1
  replace p1_2 := p1.c2
  replace b1_0 := b1.c0
  replace b1_1 := b1.c1
  replace b1_2 := b1.c2
  have b2 := Abx.new v4 (.bool (rvC c1 sz1 dz1)) (.slice xa2 (rvS c1 sz1 dz1).length xc2) (.slice ya2 (rvD c1 sz1 dz1).length yc2)
  have b2_0 := b2.c0
  have b2_1 := b2.c1
  have b2_2 := b2.c2
  go_wp2_with fail
  refine (ints_any sa0 sc0 sz0 sa1 sc1 sz1 x1 _ _ ((HI.out.1.1.below hb.out).mono hb.out.size) ((HI.out.2.1.below hb.out).mono hb.out.size)).mono ?_
  rintro e v5 ⟨rfl, hB⟩
  replace hb : Hid (Below w.heap.size w v5) := hb.out.trans (hB.mono hb.out.size)
  replace p0 := p0.go hB
  replace p1 := p1.go hB
  replace hX1 := hX1.go hB
  replace hY1 := hY1.go hB
  replace b1 := b1.go hB
  replace hX2 := hX2.go hB
  replace hY2 := hY2.go hB
  replace b2 := b2.go hB
  replace p0_0 := p0.c0
  replace p0_1 := p0.c1
  replace p0_2 := p0.c2
  replace p1_0 := p1.c0
  replace p1_1 := p1.c1
  replace p1_2 := p1.c2
  replace b1_0 := b1.c0
  replace b1_1 := b1.c1
  replace b1_2 := b1.c2
  replace b2_0 := b2.c0
  replace b2_1 := b2.c1
  replace b2_2 := b2.c2
  clear hB
  rw [F0.out, errV_zero, errV_pos F1.out]
  go_wp2_with fail
  go_ret
  exact ⟨rfl, hb.out⟩
set_option maxRecDepth 100000 in
set_option maxHeartbeats 8000000 in
theorem ravels_other (H2 : C2) (f : Int) (hf : In64 f) (c0 : Bool) (sa0 : Option Addr) (sc0 : Nat) (sz0 : List Int) (da0 : Option Addr) (dc0 : Nat) (dz0 : List Int) (c1 : Bool) (sa1 : Option Addr) (sc1 : Nat) (sz1 : List Int) (da1 : Option Addr) (dc1 : Nat) (dz1 : List Int) (w : World) (w0 : IsArr w sa0 sz0 da0 dz0) (w1 : IsArr w sa1 sz1 da1 dz1) (F0 : Hid (flawE c0 sz0 dz0 = 0)) (F1 : Hid (flawE c1 sz1 dz1 = 0)) (S : Hid (sz0 ≠ sz1)) :
    Calls Try.prog 3 #[.int .i64 f, .agg #[.bool c0, .slice sa0 sz0.length sc0, .slice da0 dz0.length dc0], .agg #[.bool c1, .slice sa1 sz1.length sc1, .slice da1 dz1.length dc1]] w fun e w' => e = .returned (.bool true) ∧ Below w.heap.size w w' := by
  obtain ⟨x1, x2, x3, x4, _, T0⟩ := w0
  obtain ⟨y1, y2, y3, y4, _, T1⟩ := w1
  have HI : Hid ((IsInts w.heap.size w sa0 sz0 ∧ IsInts w.heap.size w da0 dz0 ∧ ∀ j, In64 (nth dz0 j)) ∧ (IsInts w.heap.size w sa1 sz1 ∧ IsInts w.heap.size w da1 dz1 ∧ ∀ j, In64 (nth dz1 j))) := ⟨⟨x3, x4, T0⟩, y3, y4, T1⟩
  clear x3 x4 y3 y4 T0 T1
  have p0 : Abx ((w.alloc (.cells #[.bool c0, .slice sa0 sz0.length sc0, .slice da0 dz0.length dc0] 25)).alloc (.cells #[.bool c1, .slice sa1 sz1.length sc1, .slice da1 dz1.length dc1] 25)) w.heap.size (.bool c0) (.slice sa0 sz0.length sc0) (.slice da0 dz0.length dc0) := (Abx.new w _ _ _).al _
  have p1 : Abx ((w.alloc (.cells #[.bool c0, .slice sa0 sz0.length sc0, .slice da0 dz0.length dc0] 25)).alloc (.cells #[.bool c1, .slice sa1 sz1.length sc1, .slice da1 dz1.length dc1] 25)) (w.heap.size + 1) (.bool c1) (.slice sa1 sz1.length sc1) (.slice da1 dz1.length dc1) := Abx.new1 w _ _ _ _
  have hs : ((w.alloc (.cells #[.bool c0, .slice sa0 sz0.length sc0, .slice da0 dz0.length dc0] 25)).alloc (.cells #[.bool c1, .slice sa1 sz1.length sc1, .slice da1 dz1.length dc1] 25)).heap.size = w.heap.size + 1 + 1 := by simp
  have hb : Hid (Below w.heap.size w ((w.alloc (.cells #[.bool c0, .slice sa0 sz0.length sc0, .slice da0 dz0.length dc0] 25)).alloc (.cells #[.bool c1, .slice sa1 sz1.length sc1, .slice da1 dz1.length dc1] 25))) := ((Below.refl _ w).alloc (Nat.le_refl _) _).alloc (by simp) _
  obtain ⟨u, hu⟩ : ∃ u, u = ((w.alloc (.cells #[.bool c0, .slice sa0 sz0.length sc0, .slice da0 dz0.length dc0] 25)).alloc (.cells #[.bool c1, .slice sa1 sz1.length sc1, .slice da1 dz1.length dc1] 25)) := ⟨_, rfl⟩
  rw [← hu] at p0 p1 hs hb
  have n0 : NewInts u.heap.size (((u.alloc (.cells #[.int .i64 2] 3)).alloc (.cells #[.int .i64 5, .int .i64 7] 3)).alloc (.cells #[.int .i64 1] 3)) (some ⟨u.heap.size, 0, none⟩) [2] := (((new_lit u 3 [2]).al (.cells #[.int .i64 5, .int .i64 7] 3)).al (.cells #[.int .i64 1] 3))
  have n1 : NewInts (u.alloc (.cells #[.int .i64 2] 3)).heap.size (((u.alloc (.cells #[.int .i64 2] 3)).alloc (.cells #[.int .i64 5, .int .i64 7] 3)).alloc (.cells #[.int .i64 1] 3)) (some ⟨(u.alloc (.cells #[.int .i64 2] 3)).heap.size, 0, none⟩) [5, 7] := ((new_lit (u.alloc (.cells #[.int .i64 2] 3)) 3 [5, 7]).al (.cells #[.int .i64 1] 3))
  have n2 : NewInts ((u.alloc (.cells #[.int .i64 2] 3)).alloc (.cells #[.int .i64 5, .int .i64 7] 3)).heap.size (((u.alloc (.cells #[.int .i64 2] 3)).alloc (.cells #[.int .i64 5, .int .i64 7] 3)).alloc (.cells #[.int .i64 1] 3)) (some ⟨((u.alloc (.cells #[.int .i64 2] 3)).alloc (.cells #[.int .i64 5, .int .i64 7] 3)).heap.size, 0, none⟩) [1] := (new_lit ((u.alloc (.cells #[.int .i64 2] 3)).alloc (.cells #[.int .i64 5, .int .i64 7] 3)) 3 [1])
  simp only [World.size_alloc, hs] at n0 n1 n2
  have HN : Hid (IsInts (((u.alloc (.cells #[.int .i64 2] 3)).alloc (.cells #[.int .i64 5, .int .i64 7] 3)).alloc (.cells #[.int .i64 1] 3)).heap.size (((u.alloc (.cells #[.int .i64 2] 3)).alloc (.cells #[.int .i64 5, .int .i64 7] 3)).alloc (.cells #[.int .i64 1] 3)) (some ⟨w.heap.size + 1 + 1, 0, none⟩) [2] ∧ IsInts (((u.alloc (.cells #[.int .i64 2] 3)).alloc (.cells #[.int .i64 5, .int .i64 7] 3)).alloc (.cells #[.int .i64 1] 3)).heap.size (((u.alloc (.cells #[.int .i64 2] 3)).alloc (.cells #[.int .i64 5, .int .i64 7] 3)).alloc (.cells #[.int .i64 1] 3)) (some ⟨w.heap.size + 1 + 1 + 1, 0, none⟩) [5, 7] ∧ IsInts (((u.alloc (.cells #[.int .i64 2] 3)).alloc (.cells #[.int .i64 5, .int .i64 7] 3)).alloc (.cells #[.int .i64 1] 3)).heap.size (((u.alloc (.cells #[.int .i64 2] 3)).alloc (.cells #[.int .i64 5, .int .i64 7] 3)).alloc (.cells #[.int .i64 1] 3)) (some ⟨w.heap.size + 1 + 1 + 1 + 1, 0, none⟩) [1]) := ⟨n0.ints, n1.ints, n2.ints⟩
  replace hb : Hid (Below w.heap.size w (((u.alloc (.cells #[.int .i64 2] 3)).alloc (.cells #[.int .i64 5, .int .i64 7] 3)).alloc (.cells #[.int .i64 1] 3))) := (((hb.out.alloc (by omega) _).alloc (by simp; omega) _).alloc (by simp; omega) _)
  replace p0 := (((p0.al (.cells #[.int .i64 2] 3)).al (.cells #[.int .i64 5, .int .i64 7] 3)).al (.cells #[.int .i64 1] 3))
  replace p1 := (((p1.al (.cells #[.int .i64 2] 3)).al (.cells #[.int .i64 5, .int .i64 7] 3)).al (.cells #[.int .i64 1] 3))
  clear n0 n1 n2 hs
  subst hu
  go_enter Try.func3, Try.ntmps3
  go_wp2_with fail
  refine (c2_ok H2 2 false (some ⟨w.heap.size + 1 + 1, 0, none⟩) 1 [2] (some ⟨w.heap.size + 1 + 1 + 1, 0, none⟩) 2 [5, 7] false none 0 [] (some ⟨w.heap.size + 1 + 1 + 1 + 1, 0, none⟩) 1 [1] _ (by unfold In64; decide) (by simp) (by simp) (by simp) (by simp) HN.out.1 HN.out.2.1 (.inl rfl) HN.out.2.2 (lit_all (by decide)) (lit_all (by decide)) (by decide)).mono ?_
  rintro e v1 ⟨f1, g1, f2, g2, he, _, hY, hB⟩
  replace hb : Hid (Below w.heap.size w v1) := hb.out.trans (hB.mono hb.out.size)
  replace p0 := p0.go hB
  replace p1 := p1.go hB
  clear hB
  clear HN
  rw [fact_v, show shp [2] [] = [2] by decide] at he
  rw [fact_v] at hY
  subst he
  have p0_0 := p0.c0
  have p0_1 := p0.c1
  have p0_2 := p0.c2
  have p1_0 := p1.c0
  have p1_1 := p1.c1
  have p1_2 := p1.c2
  replace hb : Hid (Below w.heap.size w (v1.alloc (.cells #[.bool false, .slice f1 1 g1, .slice f2 2 g2] 25))) := hb.out.alloc hb.out.size _
  replace p0 := p0.al (.cells #[.bool false, .slice f1 1 g1, .slice f2 2 g2] 25)
  replace p1 := p1.al (.cells #[.bool false, .slice f1 1 g1, .slice f2 2 g2] 25)
  replace hY := hY.al (.cells #[.bool false, .slice f1 1 g1, .slice f2 2 g2] 25)
  replace p0_0 := p0.c0
  replace p0_1 := p0.c1
  replace p0_2 := p0.c2
  replace p1_0 := p1.c0
  replace p1_1 := p1.c1
  replace p1_2 := p1.c2
  replace hb : Hid (Below w.heap.size w ((v1.alloc (.cells #[.bool false, .slice f1 1 g1, .slice f2 2 g2] 25)).alloc (.cells #[.int .i64 4, .int .i64 6] 3))) := hb.out.alloc hb.out.size _
  replace p0 := p0.al (.cells #[.int .i64 4, .int .i64 6] 3)
  replace p1 := p1.al (.cells #[.int .i64 4, .int .i64 6] 3)
  replace hY := hY.al (.cells #[.int .i64 4, .int .i64 6] 3)
  replace p0_0 := p0.c0
  replace p0_1 := p0.c1
  replace p0_2 := p0.c2
  replace p1_0 := p1.c0
  replace p1_1 := p1.c1
  replace p1_2 := p1.c2
  have nl := new_lit (v1.alloc (.cells #[.bool false, .slice f1 1 g1, .slice f2 2 g2] 25)) 3 [4, 6]
  simp only [World.size_alloc] at nl
  go_wp2_with fail
  refine (ints_any f2 g2 [4, 6] (some ⟨v1.heap.size + 1, 0, none⟩) 2 [4, 6] (by simp) _ _ hY.ints nl.ints).mono ?_
  rintro e v2 ⟨rfl, hB⟩
  replace hb : Hid (Below w.heap.size w v2) := hb.out.trans (hB.mono hb.out.size)
  replace p0 := p0.go hB
  replace p1 := p1.go hB
  replace hY := hY.go hB
  replace p0_0 := p0.c0
  replace p0_1 := p0.c1
  replace p0_2 := p0.c2
  replace p1_0 := p1.c0
  replace p1_1 := p1.c1
  replace p1_2 := p1.c2
  clear hB
  clear nl hY
  rw [eqB_true rfl]
  go_wp2_with fail
  refine (ravel_uni c0 sa0 sc0 sz0 da0 dc0 dz0 x1 x2 _ ((HI.out.1.1.below hb.out).mono hb.out.size) ((HI.out.1.2.1.below hb.out).mono hb.out.size)).mono ?_
  rintro e v3 ⟨xa1, xc1, ya1, yc1, rfl, hX1, hY1, hB⟩
  replace hb : Hid (Below w.heap.size w v3) := hb.out.trans (hB.mono hb.out.size)
  replace p0 := p0.go hB
  replace p1 := p1.go hB
  replace p0_0 := p0.c0
  replace p0_1 := p0.c1
  replace p0_2 := p0.c2
  replace p1_0 := p1.c0
  replace p1_1 := p1.c1
  replace p1_2 := p1.c2
  clear hB
  replace hb : Hid (Below w.heap.size w (v3.alloc (.cells #[.bool (rvC c0 sz0 dz0), .slice xa1 (rvS c0 sz0 dz0).length xc1, .slice ya1 (rvD c0 sz0 dz0).length yc1] 25))) := hb.out.alloc hb.out.size _
  replace p0 := p0.al (.cells #[.bool (rvC c0 sz0 dz0), .slice xa1 (rvS c0 sz0 dz0).length xc1, .slice ya1 (rvD c0 sz0 dz0).length yc1] 25)
  replace p1 := p1.al (.cells #[.bool (rvC c0 sz0 dz0), .slice xa1 (rvS c0 sz0 dz0).length xc1, .slice ya1 (rvD c0 sz0 dz0).length yc1] 25)
  replace hX1 := hX1.al (.cells #[.bool (rvC c0 sz0 dz0), .slice xa1 (rvS c0 sz0 dz0).length xc1, .slice ya1 (rvD c0 sz0 dz0).length yc1] 25)
  replace hY1 := hY1.al (.cells #[.bool (rvC c0 sz0 dz0), .slice xa1 (rvS c0 sz0 dz0).length xc1, .slice ya1 (rvD c0 sz0 dz0).length yc1] 25)
  replace p0_0 := p0.c0
  replace p0_1 := p0.c1
  replace p0_2 := p0.c2
  replace p1_0 := p1.c0
  replace p1_1 := p1.c1
  replace p1_2 := p1.c2
  have b1 := Abx.new v3 (.bool (rvC c0 sz0 dz0)) (.slice xa1 (rvS c0 sz0 dz0).length xc1) (.slice ya1 (rvD c0 sz0 dz0).length yc1)
  have b1_0 := b1.c0
  have b1_1 := b1.c1
  have b1_2 := b1.c2
  go_wp2_with fail
  refine (ravel_uni c1 sa1 sc1 sz1 da1 dc1 dz1 y1 y2 _ ((HI.out.2.1.below hb.out).mono hb.out.size) ((HI.out.2.2.1.below hb.out).mono hb.out.size)).mono ?_
  rintro e v4 ⟨xa2, xc2, ya2, yc2, rfl, hX2, hY2, hB⟩
  replace hb : Hid (Below w.heap.size w v4) := hb.out.trans (hB.mono hb.out.size)
  replace p0 := p0.go hB
  replace p1 := p1.go hB
  replace hX1 := hX1.go hB
  replace hY1 := hY1.go hB
  replace b1 := b1.go hB
  replace p0_0 := p0.c0
  replace p0_1 := p0.c1
  replace p0_2 := p0.c2
  replace p1_0 := p1.c0
  replace p1_1 := p1.c1
  replace p1_2 := p1.c2
  replace b1_0 := b1.c0
  replace b1_1 := b1.c1
  replace b1_2 := b1.c2
  clear hB
  replace hb : Hid (Below w.heap.size w (v4.alloc (.cells #[.bool (rvC c1 sz1 dz1), .slice xa2 (rvS c1 sz1 dz1).length xc2, .slice ya2 (rvD c1 sz1 dz1).length yc2] 25))) := hb.out.alloc hb.out.size _
  replace p0 := p0.al (.cells #[.bool (rvC c1 sz1 dz1), .slice xa2 (rvS c1 sz1 dz1).length xc2, .slice ya2 (rvD c1 sz1 dz1).length yc2] 25)
  replace p1 := p1.al (.cells #[.bool (rvC c1 sz1 dz1), .slice xa2 (rvS c1 sz1 dz1).length xc2, .slice ya2 (rvD c1 sz1 dz1).length yc2] 25)
  replace hX1 := hX1.al (.cells #[.bool (rvC c1 sz1 dz1), .slice xa2 (rvS c1 sz1 dz1).length xc2, .slice ya2 (rvD c1 sz1 dz1).length yc2] 25)
  replace hY1 := hY1.al (.cells #[.bool (rvC c1 sz1 dz1), .slice xa2 (rvS c1 sz1 dz1).length xc2, .slice ya2 (rvD c1 sz1 dz1).length yc2] 25)
  replace b1 := b1.al (.cells #[.bool (rvC c1 sz1 dz1), .slice xa2 (rvS c1 sz1 dz1).length xc2, .slice ya2 (rvD c1 sz1 dz1).length yc2] 25)
  replace hX2 := hX2.al (.cells #[.bool (rvC c1 sz1 dz1), .slice xa2 (rvS c1 sz1 dz1).length xc2, .slice ya2 (rvD c1 sz1 dz1).length yc2] 25)
  replace hY2 := hY2.al (.cells #[.bool (rvC c1 sz1 dz1), .slice xa2 (rvS c1 sz1 dz1).length xc2, .slice ya2 (rvD c1 sz1 dz1).length yc2] 25)
  replace p0_0 := p0.c0
  replace p0_1 := p0.c1
  replace p0_2 := p0.c2
  replace p1_0 := p1.c0
  replace p1_1 := p1.c1
  replace p1_2 := p1.c2
  replace b1_0 := b1.c0
  replace b1_1 := b1.c1
  replace b1_2 := b1.c2
  have b2 := Abx.new v4 (.bool (rvC c1 sz1 dz1)) (.slice xa2 (rvS c1 sz1 dz1).length xc2) (.slice ya2 (rvD c1 sz1 dz1).length yc2)
  have b2_0 := b2.c0
  have b2_1 := b2.c1
  have b2_2 := b2.c2
  go_wp2_with fail
  refine (ints_any sa0 sc0 sz0 sa1 sc1 sz1 x1 _ _ ((HI.out.1.1.below hb.out).mono hb.out.size) ((HI.out.2.1.below hb.out).mono hb.out.size)).mono ?_
  rintro e v5 ⟨rfl, hB⟩
  replace hb : Hid (Below w.heap.size w v5) := hb.out.trans (hB.mono hb.out.size)
  replace p0 := p0.go hB
  replace p1 := p1.go hB
  replace hX1 := hX1.go hB
  replace hY1 := hY1.go hB
  replace b1 := b1.go hB
  replace hX2 := hX2.go hB
  replace hY2 := hY2.go hB
  replace b2 := b2.go hB
  replace p0_0 := p0.c0
  replace p0_1 := p0.c1
  replace p0_2 := p0.c2
  replace p1_0 := p1.c0
  replace p1_1 := p1.c1
  replace p1_2 := p1.c2
  replace b1_0 := b1.c0
  replace b1_1 := b1.c1
  replace b1_2 := b1.c2
  replace b2_0 := b2.c0
  replace b2_1 := b2.c1
  replace b2_2 := b2.c2
  clear hB
  rw [F0.out, F1.out, errV_zero, eqB_false S.out]
  go_wp2_with fail
  go_ret
  exact ⟨rfl, hb.out⟩
section
variable {c : Bool} {sz dz : List Int}
theorem rv_s (h : sz.length ≤ 9223372036854775807) : (rvS c sz dz).length ≤ 9223372036854775807 := by unfold rvS; split <;> simp
theorem rv_d (h : dz.length ≤ 9223372036854775807) : (rvD c sz dz).length ≤ 9223372036854775807 := by
  unfold rvD; split
  · exact h
  · simp
theorem rv_in (h : ∀ j, In64 (nth dz j)) (j : Nat) : In64 (nth (rvD c sz dz) j) := by
  unfold rvD; split
  · exact h j
  · rw [nth_nil]; unfold In64; decide
theorem rv_ok (h : flawE c sz dz = 0) : rvC c sz dz = c ∧ rvS c sz dz = [(dz.length : Int)] ∧ rvD c sz dz = dz := by
  unfold rvC rvS rvD; rw [if_pos h, if_pos h, if_pos h]; exact ⟨rfl, rfl, rfl⟩
end
set_option maxRecDepth 100000 in
set_option maxHeartbeats 8000000 in
theorem ravels_err (H2 : C2) (f : Int) (hf : In64 f) (c0 : Bool) (sa0 : Option Addr) (sc0 : Nat) (sz0 : List Int) (da0 : Option Addr) (dc0 : Nat) (dz0 : List Int) (c1 : Bool) (sa1 : Option Addr) (sc1 : Nat) (sz1 : List Int) (da1 : Option Addr) (dc1 : Nat) (dz1 : List Int) (w : World) (w0 : IsArr w sa0 sz0 da0 dz0) (w1 : IsArr w sa1 sz1 da1 dz1) (F0 : Hid (flawE c0 sz0 dz0 = 0)) (F1 : Hid (flawE c1 sz1 dz1 = 0)) (S : Hid (sz0 = sz1)) (E : Hid (e2E f c0 sz0 dz0 c1 sz1 dz1 ≠ 0)) (E' : Hid (e2E f (rvC c0 sz0 dz0) (rvS c0 sz0 dz0) (rvD c0 sz0 dz0) (rvC c1 sz1 dz1) (rvS c1 sz1 dz1) (rvD c1 sz1 dz1) ≠ 0)) :
    Calls Try.prog 3 #[.int .i64 f, .agg #[.bool c0, .slice sa0 sz0.length sc0, .slice da0 dz0.length dc0], .agg #[.bool c1, .slice sa1 sz1.length sc1, .slice da1 dz1.length dc1]] w fun e w' => e = .returned (.bool true) ∧ Below w.heap.size w w' := by
  obtain ⟨x1, x2, x3, x4, _, T0⟩ := w0
  obtain ⟨y1, y2, y3, y4, _, T1⟩ := w1
  have HI : Hid ((IsInts w.heap.size w sa0 sz0 ∧ IsInts w.heap.size w da0 dz0 ∧ ∀ j, In64 (nth dz0 j)) ∧ (IsInts w.heap.size w sa1 sz1 ∧ IsInts w.heap.size w da1 dz1 ∧ ∀ j, In64 (nth dz1 j))) := ⟨⟨x3, x4, T0⟩, y3, y4, T1⟩
  clear x3 x4 y3 y4 T0 T1
  have p0 : Abx ((w.alloc (.cells #[.bool c0, .slice sa0 sz0.length sc0, .slice da0 dz0.length dc0] 25)).alloc (.cells #[.bool c1, .slice sa1 sz1.length sc1, .slice da1 dz1.length dc1] 25)) w.heap.size (.bool c0) (.slice sa0 sz0.length sc0) (.slice da0 dz0.length dc0) := (Abx.new w _ _ _).al _
  have p1 : Abx ((w.alloc (.cells #[.bool c0, .slice sa0 sz0.length sc0, .slice da0 dz0.length dc0] 25)).alloc (.cells #[.bool c1, .slice sa1 sz1.length sc1, .slice da1 dz1.length dc1] 25)) (w.heap.size + 1) (.bool c1) (.slice sa1 sz1.length sc1) (.slice da1 dz1.length dc1) := Abx.new1 w _ _ _ _
  have hs : ((w.alloc (.cells #[.bool c0, .slice sa0 sz0.length sc0, .slice da0 dz0.length dc0] 25)).alloc (.cells #[.bool c1, .slice sa1 sz1.length sc1, .slice da1 dz1.length dc1] 25)).heap.size = w.heap.size + 1 + 1 := by simp
  have hb : Hid (Below w.heap.size w ((w.alloc (.cells #[.bool c0, .slice sa0 sz0.length sc0, .slice da0 dz0.length dc0] 25)).alloc (.cells #[.bool c1, .slice sa1 sz1.length sc1, .slice da1 dz1.length dc1] 25))) := ((Below.refl _ w).alloc (Nat.le_refl _) _).alloc (by simp) _
  obtain ⟨u, hu⟩ : ∃ u, u = ((w.alloc (.cells #[.bool c0, .slice sa0 sz0.length sc0, .slice da0 dz0.length dc0] 25)).alloc (.cells #[.bool c1, .slice sa1 sz1.length sc1, .slice da1 dz1.length dc1] 25)) := ⟨_, rfl⟩
  rw [← hu] at p0 p1 hs hb
  have n0 : NewInts u.heap.size (((u.alloc (.cells #[.int .i64 2] 3)).alloc (.cells #[.int .i64 5, .int .i64 7] 3)).alloc (.cells #[.int .i64 1] 3)) (some ⟨u.heap.size, 0, none⟩) [2] := (((new_lit u 3 [2]).al (.cells #[.int .i64 5, .int .i64 7] 3)).al (.cells #[.int .i64 1] 3))
  have n1 : NewInts (u.alloc (.cells #[.int .i64 2] 3)).heap.size (((u.alloc (.cells #[.int .i64 2] 3)).alloc (.cells #[.int .i64 5, .int .i64 7] 3)).alloc (.cells #[.int .i64 1] 3)) (some ⟨(u.alloc (.cells #[.int .i64 2] 3)).heap.size, 0, none⟩) [5, 7] := ((new_lit (u.alloc (.cells #[.int .i64 2] 3)) 3 [5, 7]).al (.cells #[.int .i64 1] 3))
  have n2 : NewInts ((u.alloc (.cells #[.int .i64 2] 3)).alloc (.cells #[.int .i64 5, .int .i64 7] 3)).heap.size (((u.alloc (.cells #[.int .i64 2] 3)).alloc (.cells #[.int .i64 5, .int .i64 7] 3)).alloc (.cells #[.int .i64 1] 3)) (some ⟨((u.alloc (.cells #[.int .i64 2] 3)).alloc (.cells #[.int .i64 5, .int .i64 7] 3)).heap.size, 0, none⟩) [1] := (new_lit ((u.alloc (.cells #[.int .i64 2] 3)).alloc (.cells #[.int .i64 5, .int .i64 7] 3)) 3 [1])
  simp only [World.size_alloc, hs] at n0 n1 n2
  have HN : Hid (IsInts (((u.alloc (.cells #[.int .i64 2] 3)).alloc (.cells #[.int .i64 5, .int .i64 7] 3)).alloc (.cells #[.int .i64 1] 3)).heap.size (((u.alloc (.cells #[.int .i64 2] 3)).alloc (.cells #[.int .i64 5, .int .i64 7] 3)).alloc (.cells #[.int .i64 1] 3)) (some ⟨w.heap.size + 1 + 1, 0, none⟩) [2] ∧ IsInts (((u.alloc (.cells #[.int .i64 2] 3)).alloc (.cells #[.int .i64 5, .int .i64 7] 3)).alloc (.cells #[.int .i64 1] 3)).heap.size (((u.alloc (.cells #[.int .i64 2] 3)).alloc (.cells #[.int .i64 5, .int .i64 7] 3)).alloc (.cells #[.int .i64 1] 3)) (some ⟨w.heap.size + 1 + 1 + 1, 0, none⟩) [5, 7] ∧ IsInts (((u.alloc (.cells #[.int .i64 2] 3)).alloc (.cells #[.int .i64 5, .int .i64 7] 3)).alloc (.cells #[.int .i64 1] 3)).heap.size (((u.alloc (.cells #[.int .i64 2] 3)).alloc (.cells #[.int .i64 5, .int .i64 7] 3)).alloc (.cells #[.int .i64 1] 3)) (some ⟨w.heap.size + 1 + 1 + 1 + 1, 0, none⟩) [1]) := ⟨n0.ints, n1.ints, n2.ints⟩
  replace hb : Hid (Below w.heap.size w (((u.alloc (.cells #[.int .i64 2] 3)).alloc (.cells #[.int .i64 5, .int .i64 7] 3)).alloc (.cells #[.int .i64 1] 3))) := (((hb.out.alloc (by omega) _).alloc (by simp; omega) _).alloc (by simp; omega) _)
  replace p0 := (((p0.al (.cells #[.int .i64 2] 3)).al (.cells #[.int .i64 5, .int .i64 7] 3)).al (.cells #[.int .i64 1] 3))
  replace p1 := (((p1.al (.cells #[.int .i64 2] 3)).al (.cells #[.int .i64 5, .int .i64 7] 3)).al (.cells #[.int .i64 1] 3))
  clear n0 n1 n2 hs
  subst hu
  go_enter Try.func3, Try.ntmps3
  go_wp2_with fail
  refine (c2_ok H2 2 false (some ⟨w.heap.size + 1 + 1, 0, none⟩) 1 [2] (some ⟨w.heap.size + 1 + 1 + 1, 0, none⟩) 2 [5, 7] false none 0 [] (some ⟨w.heap.size + 1 + 1 + 1 + 1, 0, none⟩) 1 [1] _ (by unfold In64; decide) (by simp) (by simp) (by simp) (by simp) HN.out.1 HN.out.2.1 (.inl rfl) HN.out.2.2 (lit_all (by decide)) (lit_all (by decide)) (by decide)).mono ?_
  rintro e v1 ⟨f1, g1, f2, g2, he, _, hY, hB⟩
  replace hb : Hid (Below w.heap.size w v1) := hb.out.trans (hB.mono hb.out.size)
  replace p0 := p0.go hB
  replace p1 := p1.go hB
  clear hB
  clear HN
  rw [fact_v, show shp [2] [] = [2] by decide] at he
  rw [fact_v] at hY
  subst he
  have p0_0 := p0.c0
  have p0_1 := p0.c1
  have p0_2 := p0.c2
  have p1_0 := p1.c0
  have p1_1 := p1.c1
  have p1_2 := p1.c2
  replace hb : Hid (Below w.heap.size w (v1.alloc (.cells #[.bool false, .slice f1 1 g1, .slice f2 2 g2] 25))) := hb.out.alloc hb.out.size _
  replace p0 := p0.al (.cells #[.bool false, .slice f1 1 g1, .slice f2 2 g2] 25)
  replace p1 := p1.al (.cells #[.bool false, .slice f1 1 g1, .slice f2 2 g2] 25)
  replace hY := hY.al (.cells #[.bool false, .slice f1 1 g1, .slice f2 2 g2] 25)
  replace p0_0 := p0.c0
  replace p0_1 := p0.c1
  replace p0_2 := p0.c2
  replace p1_0 := p1.c0
  replace p1_1 := p1.c1
  replace p1_2 := p1.c2
  replace hb : Hid (Below w.heap.size w ((v1.alloc (.cells #[.bool false, .slice f1 1 g1, .slice f2 2 g2] 25)).alloc (.cells #[.int .i64 4, .int .i64 6] 3))) := hb.out.alloc hb.out.size _
  replace p0 := p0.al (.cells #[.int .i64 4, .int .i64 6] 3)
  replace p1 := p1.al (.cells #[.int .i64 4, .int .i64 6] 3)
  replace hY := hY.al (.cells #[.int .i64 4, .int .i64 6] 3)
  replace p0_0 := p0.c0
  replace p0_1 := p0.c1
  replace p0_2 := p0.c2
  replace p1_0 := p1.c0
  replace p1_1 := p1.c1
  replace p1_2 := p1.c2
  have nl := new_lit (v1.alloc (.cells #[.bool false, .slice f1 1 g1, .slice f2 2 g2] 25)) 3 [4, 6]
  simp only [World.size_alloc] at nl
  go_wp2_with fail
  refine (ints_any f2 g2 [4, 6] (some ⟨v1.heap.size + 1, 0, none⟩) 2 [4, 6] (by simp) _ _ hY.ints nl.ints).mono ?_
  rintro e v2 ⟨rfl, hB⟩
  replace hb : Hid (Below w.heap.size w v2) := hb.out.trans (hB.mono hb.out.size)
  replace p0 := p0.go hB
  replace p1 := p1.go hB
  replace hY := hY.go hB
  replace p0_0 := p0.c0
  replace p0_1 := p0.c1
  replace p0_2 := p0.c2
  replace p1_0 := p1.c0
  replace p1_1 := p1.c1
  replace p1_2 := p1.c2
  clear hB
  clear nl hY
  rw [eqB_true rfl]
  go_wp2_with fail
  refine (ravel_uni c0 sa0 sc0 sz0 da0 dc0 dz0 x1 x2 _ ((HI.out.1.1.below hb.out).mono hb.out.size) ((HI.out.1.2.1.below hb.out).mono hb.out.size)).mono ?_
  rintro e v3 ⟨xa1, xc1, ya1, yc1, rfl, hX1, hY1, hB⟩
  replace hb : Hid (Below w.heap.size w v3) := hb.out.trans (hB.mono hb.out.size)
  replace p0 := p0.go hB
  replace p1 := p1.go hB
  replace p0_0 := p0.c0
  replace p0_1 := p0.c1
  replace p0_2 := p0.c2
  replace p1_0 := p1.c0
  replace p1_1 := p1.c1
  replace p1_2 := p1.c2
  clear hB
  replace hb : Hid (Below w.heap.size w (v3.alloc (.cells #[.bool (rvC c0 sz0 dz0), .slice xa1 (rvS c0 sz0 dz0).length xc1, .slice ya1 (rvD c0 sz0 dz0).length yc1] 25))) := hb.out.alloc hb.out.size _
  replace p0 := p0.al (.cells #[.bool (rvC c0 sz0 dz0), .slice xa1 (rvS c0 sz0 dz0).length xc1, .slice ya1 (rvD c0 sz0 dz0).length yc1] 25)
  replace p1 := p1.al (.cells #[.bool (rvC c0 sz0 dz0), .slice xa1 (rvS c0 sz0 dz0).length xc1, .slice ya1 (rvD c0 sz0 dz0).length yc1] 25)
  replace hX1 := hX1.al (.cells #[.bool (rvC c0 sz0 dz0), .slice xa1 (rvS c0 sz0 dz0).length xc1, .slice ya1 (rvD c0 sz0 dz0).length yc1] 25)
  replace hY1 := hY1.al (.cells #[.bool (rvC c0 sz0 dz0), .slice xa1 (rvS c0 sz0 dz0).length xc1, .slice ya1 (rvD c0 sz0 dz0).length yc1] 25)
  replace p0_0 := p0.c0
  replace p0_1 := p0.c1
  replace p0_2 := p0.c2
  replace p1_0 := p1.c0
  replace p1_1 := p1.c1
  replace p1_2 := p1.c2
  have b1 := Abx.new v3 (.bool (rvC c0 sz0 dz0)) (.slice xa1 (rvS c0 sz0 dz0).length xc1) (.slice ya1 (rvD c0 sz0 dz0).length yc1)
  have b1_0 := b1.c0
  have b1_1 := b1.c1
  have b1_2 := b1.c2
  go_wp2_with fail
  refine (ravel_uni c1 sa1 sc1 sz1 da1 dc1 dz1 y1 y2 _ ((HI.out.2.1.below hb.out).mono hb.out.size) ((HI.out.2.2.1.below hb.out).mono hb.out.size)).mono ?_
  rintro e v4 ⟨xa2, xc2, ya2, yc2, rfl, hX2, hY2, hB⟩
  replace hb : Hid (Below w.heap.size w v4) := hb.out.trans (hB.mono hb.out.size)
  replace p0 := p0.go hB
  replace p1 := p1.go hB
  replace hX1 := hX1.go hB
  replace hY1 := hY1.go hB
  replace b1 := b1.go hB
  replace p0_0 := p0.c0
  replace p0_1 := p0.c1
  replace p0_2 := p0.c2
  replace p1_0 := p1.c0
  replace p1_1 := p1.c1
  replace p1_2 := p1.c2
  replace b1_0 := b1.c0
  replace b1_1 := b1.c1
  replace b1_2 := b1.c2
  clear hB
  replace hb : Hid (Below w.heap.size w (v4.alloc (.cells #[.bool (rvC c1 sz1 dz1), .slice xa2 (rvS c1 sz1 dz1).length xc2, .slice ya2 (rvD c1 sz1 dz1).length yc2] 25))) := hb.out.alloc hb.out.size _
  replace p0 := p0.al (.cells #[.bool (rvC c1 sz1 dz1), .slice xa2 (rvS c1 sz1 dz1).length xc2, .slice ya2 (rvD c1 sz1 dz1).length yc2] 25)
  replace p1 := p1.al (.cells #[.bool (rvC c1 sz1 dz1), .slice xa2 (rvS c1 sz1 dz1).length xc2, .slice ya2 (rvD c1 sz1 dz1).length yc2] 25)
  replace hX1 := hX1.al (.cells #[.bool (rvC c1 sz1 dz1), .slice xa2 (rvS c1 sz1 dz1).length xc2, .slice ya2 (rvD c1 sz1 dz1).length yc2] 25)
  replace hY1 := hY1.al (.cells #[.bool (rvC c1 sz1 dz1), .slice xa2 (rvS c1 sz1 dz1).length xc2, .slice ya2 (rvD c1 sz1 dz1).length yc2] 25)
  replace b1 := b1.al (.cells #[.bool (rvC c1 sz1 dz1), .slice xa2 (rvS c1 sz1 dz1).length xc2, .slice ya2 (rvD c1 sz1 dz1).length yc2] 25)
  replace hX2 := hX2.al (.cells #[.bool (rvC c1 sz1 dz1), .slice xa2 (rvS c1 sz1 dz1).length xc2, .slice ya2 (rvD c1 sz1 dz1).length yc2] 25)
  replace hY2 := hY2.al (.cells #[.bool (rvC c1 sz1 dz1), .slice xa2 (rvS c1 sz1 dz1).length xc2, .slice ya2 (rvD c1 sz1 dz1).length yc2] 25)
  replace p0_0 := p0.c0
  replace p0_1 := p0.c1
  replace p0_2 := p0.c2
  replace p1_0 := p1.c0
  replace p1_1 := p1.c1
  replace p1_2 := p1.c2
  replace b1_0 := b1.c0
  replace b1_1 := b1.c1
  replace b1_2 := b1.c2
  have b2 := Abx.new v4 (.bool (rvC c1 sz1 dz1)) (.slice xa2 (rvS c1 sz1 dz1).length xc2) (.slice ya2 (rvD c1 sz1 dz1).length yc2)
  have b2_0 := b2.c0
  have b2_1 := b2.c1
  have b2_2 := b2.c2
  go_wp2_with fail
  refine (ints_any sa0 sc0 sz0 sa1 sc1 sz1 x1 _ _ ((HI.out.1.1.below hb.out).mono hb.out.size) ((HI.out.2.1.below hb.out).mono hb.out.size)).mono ?_
  rintro e v5 ⟨rfl, hB⟩
  replace hb : Hid (Below w.heap.size w v5) := hb.out.trans (hB.mono hb.out.size)
  replace p0 := p0.go hB
  replace p1 := p1.go hB
  replace hX1 := hX1.go hB
  replace hY1 := hY1.go hB
  replace b1 := b1.go hB
  replace hX2 := hX2.go hB
  replace hY2 := hY2.go hB
  replace b2 := b2.go hB
  replace p0_0 := p0.c0
  replace p0_1 := p0.c1
  replace p0_2 := p0.c2
  replace p1_0 := p1.c0
  replace p1_1 := p1.c1
  replace p1_2 := p1.c2
  replace b1_0 := b1.c0
  replace b1_1 := b1.c1
  replace b1_2 := b1.c2
  replace b2_0 := b2.c0
  replace b2_1 := b2.c1
  replace b2_2 := b2.c2
  clear hB
  rw [F0.out, F1.out, errV_zero, eqB_true S.out]
  go_wp2_with fail
  refine (c2_uni H2 f c0 sa0 sc0 sz0 da0 dc0 dz0 c1 sa1 sc1 sz1 da1 dc1 dz1 _ hf x1 x2 y1 y2 ((HI.out.1.1.below hb.out).mono hb.out.size) ((HI.out.1.2.1.below hb.out).mono hb.out.size) ((HI.out.2.1.below hb.out).mono hb.out.size) ((HI.out.2.2.1.below hb.out).mono hb.out.size) HI.out.1.2.2 HI.out.2.2.2).mono ?_
  rintro e v6 ⟨xa3, xc3, ya3, yc3, rfl, hX3, hY3, hB⟩
  replace hb : Hid (Below w.heap.size w v6) := hb.out.trans (hB.mono hb.out.size)
  replace p0 := p0.go hB
  replace p1 := p1.go hB
  replace hX1 := hX1.go hB
  replace hY1 := hY1.go hB
  replace b1 := b1.go hB
  replace hX2 := hX2.go hB
  replace hY2 := hY2.go hB
  replace b2 := b2.go hB
  replace p0_0 := p0.c0
  replace p0_1 := p0.c1
  replace p0_2 := p0.c2
  replace p1_0 := p1.c0
  replace p1_1 := p1.c1
  replace p1_2 := p1.c2
  replace b1_0 := b1.c0
  replace b1_1 := b1.c1
  replace b1_2 := b1.c2
  replace b2_0 := b2.c0
  replace b2_1 := b2.c1
  replace b2_2 := b2.c2
  clear hB
  replace hb : Hid (Below w.heap.size w (v6.alloc (.cells #[.bool false, .slice xa3 (e2S f c0 sz0 dz0 c1 sz1 dz1).length xc3, .slice ya3 (e2D f c0 sz0 dz0 c1 sz1 dz1).length yc3] 25))) := hb.out.alloc hb.out.size _
  replace p0 := p0.al (.cells #[.bool false, .slice xa3 (e2S f c0 sz0 dz0 c1 sz1 dz1).length xc3, .slice ya3 (e2D f c0 sz0 dz0 c1 sz1 dz1).length yc3] 25)
  replace p1 := p1.al (.cells #[.bool false, .slice xa3 (e2S f c0 sz0 dz0 c1 sz1 dz1).length xc3, .slice ya3 (e2D f c0 sz0 dz0 c1 sz1 dz1).length yc3] 25)
  replace hX1 := hX1.al (.cells #[.bool false, .slice xa3 (e2S f c0 sz0 dz0 c1 sz1 dz1).length xc3, .slice ya3 (e2D f c0 sz0 dz0 c1 sz1 dz1).length yc3] 25)
  replace hY1 := hY1.al (.cells #[.bool false, .slice xa3 (e2S f c0 sz0 dz0 c1 sz1 dz1).length xc3, .slice ya3 (e2D f c0 sz0 dz0 c1 sz1 dz1).length yc3] 25)
  replace b1 := b1.al (.cells #[.bool false, .slice xa3 (e2S f c0 sz0 dz0 c1 sz1 dz1).length xc3, .slice ya3 (e2D f c0 sz0 dz0 c1 sz1 dz1).length yc3] 25)
  replace hX2 := hX2.al (.cells #[.bool false, .slice xa3 (e2S f c0 sz0 dz0 c1 sz1 dz1).length xc3, .slice ya3 (e2D f c0 sz0 dz0 c1 sz1 dz1).length yc3] 25)
  replace hY2 := hY2.al (.cells #[.bool false, .slice xa3 (e2S f c0 sz0 dz0 c1 sz1 dz1).length xc3, .slice ya3 (e2D f c0 sz0 dz0 c1 sz1 dz1).length yc3] 25)
  replace b2 := b2.al (.cells #[.bool false, .slice xa3 (e2S f c0 sz0 dz0 c1 sz1 dz1).length xc3, .slice ya3 (e2D f c0 sz0 dz0 c1 sz1 dz1).length yc3] 25)
  replace hX3 := hX3.al (.cells #[.bool false, .slice xa3 (e2S f c0 sz0 dz0 c1 sz1 dz1).length xc3, .slice ya3 (e2D f c0 sz0 dz0 c1 sz1 dz1).length yc3] 25)
  replace hY3 := hY3.al (.cells #[.bool false, .slice xa3 (e2S f c0 sz0 dz0 c1 sz1 dz1).length xc3, .slice ya3 (e2D f c0 sz0 dz0 c1 sz1 dz1).length yc3] 25)
  replace p0_0 := p0.c0
  replace p0_1 := p0.c1
  replace p0_2 := p0.c2
  replace p1_0 := p1.c0
  replace p1_1 := p1.c1
  replace p1_2 := p1.c2
  replace b1_0 := b1.c0
  replace b1_1 := b1.c1
  replace b1_2 := b1.c2
  replace b2_0 := b2.c0
  replace b2_1 := b2.c1
  replace b2_2 := b2.c2
  have b3 := Abx.new v6 (.bool false) (.slice xa3 (e2S f c0 sz0 dz0 c1 sz1 dz1).length xc3) (.slice ya3 (e2D f c0 sz0 dz0 c1 sz1 dz1).length yc3)
  have b3_0 := b3.c0
  have b3_1 := b3.c1
  have b3_2 := b3.c2
  go_wp2_with fail
  refine (c2_uni H2 f (rvC c0 sz0 dz0) xa1 xc1 (rvS c0 sz0 dz0) ya1 yc1 (rvD c0 sz0 dz0) (rvC c1 sz1 dz1) xa2 xc2 (rvS c1 sz1 dz1) ya2 yc2 (rvD c1 sz1 dz1) _ hf (rv_s x1) (rv_d x2) (rv_s y1) (rv_d y2) hX1.ints hY1.ints hX2.ints hY2.ints (rv_in HI.out.1.2.2) (rv_in HI.out.2.2.2)).mono ?_
  rintro e v7 ⟨xa4, xc4, ya4, yc4, rfl, hX4, hY4, hB⟩
  replace hb : Hid (Below w.heap.size w v7) := hb.out.trans (hB.mono hb.out.size)
  replace p0 := p0.go hB
  replace p1 := p1.go hB
  replace hX1 := hX1.go hB
  replace hY1 := hY1.go hB
  replace b1 := b1.go hB
  replace hX2 := hX2.go hB
  replace hY2 := hY2.go hB
  replace b2 := b2.go hB
  replace hX3 := hX3.go hB
  replace hY3 := hY3.go hB
  replace b3 := b3.go hB
  replace p0_0 := p0.c0
  replace p0_1 := p0.c1
  replace p0_2 := p0.c2
  replace p1_0 := p1.c0
  replace p1_1 := p1.c1
  replace p1_2 := p1.c2
  replace b1_0 := b1.c0
  replace b1_1 := b1.c1
  replace b1_2 := b1.c2
  replace b2_0 := b2.c0
  replace b2_1 := b2.c1
  replace b2_2 := b2.c2
  replace b3_0 := b3.c0
  replace b3_1 := b3.c1
  replace b3_2 := b3.c2
  clear hB
  replace hb : Hid (Below w.heap.size w (v7.alloc (.cells #[.bool false, .slice xa4 (e2S f (rvC c0 sz0 dz0) (rvS c0 sz0 dz0) (rvD c0 sz0 dz0) (rvC c1 sz1 dz1) (rvS c1 sz1 dz1) (rvD c1 sz1 dz1)).length xc4, .slice ya4 (e2D f (rvC c0 sz0 dz0) (rvS c0 sz0 dz0) (rvD c0 sz0 dz0) (rvC c1 sz1 dz1) (rvS c1 sz1 dz1) (rvD c1 sz1 dz1)).length yc4] 25))) := hb.out.alloc hb.out.size _
  replace p0 := p0.al (.cells #[.bool false, .slice xa4 (e2S f (rvC c0 sz0 dz0) (rvS c0 sz0 dz0) (rvD c0 sz0 dz0) (rvC c1 sz1 dz1) (rvS c1 sz1 dz1) (rvD c1 sz1 dz1)).length xc4, .slice ya4 (e2D f (rvC c0 sz0 dz0) (rvS c0 sz0 dz0) (rvD c0 sz0 dz0) (rvC c1 sz1 dz1) (rvS c1 sz1 dz1) (rvD c1 sz1 dz1)).length yc4] 25)
  replace p1 := p1.al (.cells #[.bool false, .slice xa4 (e2S f (rvC c0 sz0 dz0) (rvS c0 sz0 dz0) (rvD c0 sz0 dz0) (rvC c1 sz1 dz1) (rvS c1 sz1 dz1) (rvD c1 sz1 dz1)).length xc4, .slice ya4 (e2D f (rvC c0 sz0 dz0) (rvS c0 sz0 dz0) (rvD c0 sz0 dz0) (rvC c1 sz1 dz1) (rvS c1 sz1 dz1) (rvD c1 sz1 dz1)).length yc4] 25)
  replace hX1 := hX1.al (.cells #[.bool false, .slice xa4 (e2S f (rvC c0 sz0 dz0) (rvS c0 sz0 dz0) (rvD c0 sz0 dz0) (rvC c1 sz1 dz1) (rvS c1 sz1 dz1) (rvD c1 sz1 dz1)).length xc4, .slice ya4 (e2D f (rvC c0 sz0 dz0) (rvS c0 sz0 dz0) (rvD c0 sz0 dz0) (rvC c1 sz1 dz1) (rvS c1 sz1 dz1) (rvD c1 sz1 dz1)).length yc4] 25)
  replace hY1 := hY1.al (.cells #[.bool false, .slice xa4 (e2S f (rvC c0 sz0 dz0) (rvS c0 sz0 dz0) (rvD c0 sz0 dz0) (rvC c1 sz1 dz1) (rvS c1 sz1 dz1) (rvD c1 sz1 dz1)).length xc4, .slice ya4 (e2D f (rvC c0 sz0 dz0) (rvS c0 sz0 dz0) (rvD c0 sz0 dz0) (rvC c1 sz1 dz1) (rvS c1 sz1 dz1) (rvD c1 sz1 dz1)).length yc4] 25)
  replace b1 := b1.al (.cells #[.bool false, .slice xa4 (e2S f (rvC c0 sz0 dz0) (rvS c0 sz0 dz0) (rvD c0 sz0 dz0) (rvC c1 sz1 dz1) (rvS c1 sz1 dz1) (rvD c1 sz1 dz1)).length xc4, .slice ya4 (e2D f (rvC c0 sz0 dz0) (rvS c0 sz0 dz0) (rvD c0 sz0 dz0) (rvC c1 sz1 dz1) (rvS c1 sz1 dz1) (rvD c1 sz1 dz1)).length yc4] 25)
  replace hX2 := hX2.al (.cells #[.bool false, .slice xa4 (e2S f (rvC c0 sz0 dz0) (rvS c0 sz0 dz0) (rvD c0 sz0 dz0) (rvC c1 sz1 dz1) (rvS c1 sz1 dz1) (rvD c1 sz1 dz1)).length xc4, .slice ya4 (e2D f (rvC c0 sz0 dz0) (rvS c0 sz0 dz0) (rvD c0 sz0 dz0) (rvC c1 sz1 dz1) (rvS c1 sz1 dz1) (rvD c1 sz1 dz1)).length yc4] 25)
  replace hY2 := hY2.al (.cells #[.bool false, .slice xa4 (e2S f (rvC c0 sz0 dz0) (rvS c0 sz0 dz0) (rvD c0 sz0 dz0) (rvC c1 sz1 dz1) (rvS c1 sz1 dz1) (rvD c1 sz1 dz1)).length xc4, .slice ya4 (e2D f (rvC c0 sz0 dz0) (rvS c0 sz0 dz0) (rvD c0 sz0 dz0) (rvC c1 sz1 dz1) (rvS c1 sz1 dz1) (rvD c1 sz1 dz1)).length yc4] 25)
  replace b2 := b2.al (.cells #[.bool false, .slice xa4 (e2S f (rvC c0 sz0 dz0) (rvS c0 sz0 dz0) (rvD c0 sz0 dz0) (rvC c1 sz1 dz1) (rvS c1 sz1 dz1) (rvD c1 sz1 dz1)).length xc4, .slice ya4 (e2D f (rvC c0 sz0 dz0) (rvS c0 sz0 dz0) (rvD c0 sz0 dz0) (rvC c1 sz1 dz1) (rvS c1 sz1 dz1) (rvD c1 sz1 dz1)).length yc4] 25)
  replace hX3 := hX3.al (.cells #[.bool false, .slice xa4 (e2S f (rvC c0 sz0 dz0) (rvS c0 sz0 dz0) (rvD c0 sz0 dz0) (rvC c1 sz1 dz1) (rvS c1 sz1 dz1) (rvD c1 sz1 dz1)).length xc4, .slice ya4 (e2D f (rvC c0 sz0 dz0) (rvS c0 sz0 dz0) (rvD c0 sz0 dz0) (rvC c1 sz1 dz1) (rvS c1 sz1 dz1) (rvD c1 sz1 dz1)).length yc4] 25)
  replace hY3 := hY3.al (.cells #[.bool false, .slice xa4 (e2S f (rvC c0 sz0 dz0) (rvS c0 sz0 dz0) (rvD c0 sz0 dz0) (rvC c1 sz1 dz1) (rvS c1 sz1 dz1) (rvD c1 sz1 dz1)).length xc4, .slice ya4 (e2D f (rvC c0 sz0 dz0) (rvS c0 sz0 dz0) (rvD c0 sz0 dz0) (rvC c1 sz1 dz1) (rvS c1 sz1 dz1) (rvD c1 sz1 dz1)).length yc4] 25)
  replace b3 := b3.al (.cells #[.bool false, .slice xa4 (e2S f (rvC c0 sz0 dz0) (rvS c0 sz0 dz0) (rvD c0 sz0 dz0) (rvC c1 sz1 dz1) (rvS c1 sz1 dz1) (rvD c1 sz1 dz1)).length xc4, .slice ya4 (e2D f (rvC c0 sz0 dz0) (rvS c0 sz0 dz0) (rvD c0 sz0 dz0) (rvC c1 sz1 dz1) (rvS c1 sz1 dz1) (rvD c1 sz1 dz1)).length yc4] 25)
  replace hX4 := hX4.al (.cells #[.bool false, .slice xa4 (e2S f (rvC c0 sz0 dz0) (rvS c0 sz0 dz0) (rvD c0 sz0 dz0) (rvC c1 sz1 dz1) (rvS c1 sz1 dz1) (rvD c1 sz1 dz1)).length xc4, .slice ya4 (e2D f (rvC c0 sz0 dz0) (rvS c0 sz0 dz0) (rvD c0 sz0 dz0) (rvC c1 sz1 dz1) (rvS c1 sz1 dz1) (rvD c1 sz1 dz1)).length yc4] 25)
  replace hY4 := hY4.al (.cells #[.bool false, .slice xa4 (e2S f (rvC c0 sz0 dz0) (rvS c0 sz0 dz0) (rvD c0 sz0 dz0) (rvC c1 sz1 dz1) (rvS c1 sz1 dz1) (rvD c1 sz1 dz1)).length xc4, .slice ya4 (e2D f (rvC c0 sz0 dz0) (rvS c0 sz0 dz0) (rvD c0 sz0 dz0) (rvC c1 sz1 dz1) (rvS c1 sz1 dz1) (rvD c1 sz1 dz1)).length yc4] 25)
  replace p0_0 := p0.c0
  replace p0_1 := p0.c1
  replace p0_2 := p0.c2
  replace p1_0 := p1.c0
  replace p1_1 := p1.c1
  replace p1_2 := p1.c2
  replace b1_0 := b1.c0
  replace b1_1 := b1.c1
  replace b1_2 := b1.c2
  replace b2_0 := b2.c0
  replace b2_1 := b2.c1
  replace b2_2 := b2.c2
  replace b3_0 := b3.c0
  replace b3_1 := b3.c1
  replace b3_2 := b3.c2
  have b4 := Abx.new v7 (.bool false) (.slice xa4 (e2S f (rvC c0 sz0 dz0) (rvS c0 sz0 dz0) (rvD c0 sz0 dz0) (rvC c1 sz1 dz1) (rvS c1 sz1 dz1) (rvD c1 sz1 dz1)).length xc4) (.slice ya4 (e2D f (rvC c0 sz0 dz0) (rvS c0 sz0 dz0) (rvD c0 sz0 dz0) (rvC c1 sz1 dz1) (rvS c1 sz1 dz1) (rvD c1 sz1 dz1)).length yc4)
  have b4_0 := b4.c0
  have b4_1 := b4.c1
  have b4_2 := b4.c2
  rw [errV_pos E.out, errV_pos E'.out]
  go_wp2_with fail
  go_ret
  exact ⟨rfl, hb.out⟩
set_option maxRecDepth 100000 in
set_option maxHeartbeats 8000000 in
theorem ravels_ok (H2 : C2) (f : Int) (hf : In64 f) (c0 : Bool) (sa0 : Option Addr) (sc0 : Nat) (sz0 : List Int) (da0 : Option Addr) (dc0 : Nat) (dz0 : List Int) (c1 : Bool) (sa1 : Option Addr) (sc1 : Nat) (sz1 : List Int) (da1 : Option Addr) (dc1 : Nat) (dz1 : List Int) (w : World) (w0 : IsArr w sa0 sz0 da0 dz0) (w1 : IsArr w sa1 sz1 da1 dz1) (F0 : Hid (flawE c0 sz0 dz0 = 0)) (F1 : Hid (flawE c1 sz1 dz1 = 0)) (S : Hid (sz0 = sz1)) (E : Hid (e2E f c0 sz0 dz0 c1 sz1 dz1 = 0)) (E' : Hid (e2E f (rvC c0 sz0 dz0) (rvS c0 sz0 dz0) (rvD c0 sz0 dz0) (rvC c1 sz1 dz1) (rvS c1 sz1 dz1) (rvD c1 sz1 dz1) = 0)) (Z : Hid (flawE false (e2S f c0 sz0 dz0 c1 sz1 dz1) (e2D f c0 sz0 dz0 c1 sz1 dz1) = 0)) (M : Hid (alB false [((e2D f c0 sz0 dz0 c1 sz1 dz1).length : Int)] (e2D f c0 sz0 dz0 c1 sz1 dz1) 0 false (e2S f (rvC c0 sz0 dz0) (rvS c0 sz0 dz0) (rvD c0 sz0 dz0) (rvC c1 sz1 dz1) (rvS c1 sz1 dz1) (rvD c1 sz1 dz1)) (e2D f (rvC c0 sz0 dz0) (rvS c0 sz0 dz0) (rvD c0 sz0 dz0) (rvC c1 sz1 dz1) (rvS c1 sz1 dz1) (rvD c1 sz1 dz1)) 0 = true)) (B : Hid (e2S f c0 sz0 dz0 c1 sz1 dz1 = sz0)) :
    Calls Try.prog 3 #[.int .i64 f, .agg #[.bool c0, .slice sa0 sz0.length sc0, .slice da0 dz0.length dc0], .agg #[.bool c1, .slice sa1 sz1.length sc1, .slice da1 dz1.length dc1]] w fun e w' => e = .returned (.bool true) ∧ Below w.heap.size w w' := by
  obtain ⟨x1, x2, x3, x4, _, T0⟩ := w0
  obtain ⟨y1, y2, y3, y4, _, T1⟩ := w1
  have HI : Hid ((IsInts w.heap.size w sa0 sz0 ∧ IsInts w.heap.size w da0 dz0 ∧ ∀ j, In64 (nth dz0 j)) ∧ (IsInts w.heap.size w sa1 sz1 ∧ IsInts w.heap.size w da1 dz1 ∧ ∀ j, In64 (nth dz1 j))) := ⟨⟨x3, x4, T0⟩, y3, y4, T1⟩
  clear x3 x4 y3 y4 T0 T1
  have p0 : Abx ((w.alloc (.cells #[.bool c0, .slice sa0 sz0.length sc0, .slice da0 dz0.length dc0] 25)).alloc (.cells #[.bool c1, .slice sa1 sz1.length sc1, .slice da1 dz1.length dc1] 25)) w.heap.size (.bool c0) (.slice sa0 sz0.length sc0) (.slice da0 dz0.length dc0) := (Abx.new w _ _ _).al _
  have p1 : Abx ((w.alloc (.cells #[.bool c0, .slice sa0 sz0.length sc0, .slice da0 dz0.length dc0] 25)).alloc (.cells #[.bool c1, .slice sa1 sz1.length sc1, .slice da1 dz1.length dc1] 25)) (w.heap.size + 1) (.bool c1) (.slice sa1 sz1.length sc1) (.slice da1 dz1.length dc1) := Abx.new1 w _ _ _ _
  have hs : ((w.alloc (.cells #[.bool c0, .slice sa0 sz0.length sc0, .slice da0 dz0.length dc0] 25)).alloc (.cells #[.bool c1, .slice sa1 sz1.length sc1, .slice da1 dz1.length dc1] 25)).heap.size = w.heap.size + 1 + 1 := by simp
  have hb : Hid (Below w.heap.size w ((w.alloc (.cells #[.bool c0, .slice sa0 sz0.length sc0, .slice da0 dz0.length dc0] 25)).alloc (.cells #[.bool c1, .slice sa1 sz1.length sc1, .slice da1 dz1.length dc1] 25))) := ((Below.refl _ w).alloc (Nat.le_refl _) _).alloc (by simp) _
  obtain ⟨u, hu⟩ : ∃ u, u = ((w.alloc (.cells #[.bool c0, .slice sa0 sz0.length sc0, .slice da0 dz0.length dc0] 25)).alloc (.cells #[.bool c1, .slice sa1 sz1.length sc1, .slice da1 dz1.length dc1] 25)) := ⟨_, rfl⟩
  rw [← hu] at p0 p1 hs hb
  have n0 : NewInts u.heap.size (((u.alloc (.cells #[.int .i64 2] 3)).alloc (.cells #[.int .i64 5, .int .i64 7] 3)).alloc (.cells #[.int .i64 1] 3)) (some ⟨u.heap.size, 0, none⟩) [2] := (((new_lit u 3 [2]).al (.cells #[.int .i64 5, .int .i64 7] 3)).al (.cells #[.int .i64 1] 3))
  have n1 : NewInts (u.alloc (.cells #[.int .i64 2] 3)).heap.size (((u.alloc (.cells #[.int .i64 2] 3)).alloc (.cells #[.int .i64 5, .int .i64 7] 3)).alloc (.cells #[.int .i64 1] 3)) (some ⟨(u.alloc (.cells #[.int .i64 2] 3)).heap.size, 0, none⟩) [5, 7] := ((new_lit (u.alloc (.cells #[.int .i64 2] 3)) 3 [5, 7]).al (.cells #[.int .i64 1] 3))
  have n2 : NewInts ((u.alloc (.cells #[.int .i64 2] 3)).alloc (.cells #[.int .i64 5, .int .i64 7] 3)).heap.size (((u.alloc (.cells #[.int .i64 2] 3)).alloc (.cells #[.int .i64 5, .int .i64 7] 3)).alloc (.cells #[.int .i64 1] 3)) (some ⟨((u.alloc (.cells #[.int .i64 2] 3)).alloc (.cells #[.int .i64 5, .int .i64 7] 3)).heap.size, 0, none⟩) [1] := (new_lit ((u.alloc (.cells #[.int .i64 2] 3)).alloc (.cells #[.int .i64 5, .int .i64 7] 3)) 3 [1])
  simp only [World.size_alloc, hs] at n0 n1 n2
  have HN : Hid (IsInts (((u.alloc (.cells #[.int .i64 2] 3)).alloc (.cells #[.int .i64 5, .int .i64 7] 3)).alloc (.cells #[.int .i64 1] 3)).heap.size (((u.alloc (.cells #[.int .i64 2] 3)).alloc (.cells #[.int .i64 5, .int .i64 7] 3)).alloc (.cells #[.int .i64 1] 3)) (some ⟨w.heap.size + 1 + 1, 0, none⟩) [2] ∧ IsInts (((u.alloc (.cells #[.int .i64 2] 3)).alloc (.cells #[.int .i64 5, .int .i64 7] 3)).alloc (.cells #[.int .i64 1] 3)).heap.size (((u.alloc (.cells #[.int .i64 2] 3)).alloc (.cells #[.int .i64 5, .int .i64 7] 3)).alloc (.cells #[.int .i64 1] 3)) (some ⟨w.heap.size + 1 + 1 + 1, 0, none⟩) [5, 7] ∧ IsInts (((u.alloc (.cells #[.int .i64 2] 3)).alloc (.cells #[.int .i64 5, .int .i64 7] 3)).alloc (.cells #[.int .i64 1] 3)).heap.size (((u.alloc (.cells #[.int .i64 2] 3)).alloc (.cells #[.int .i64 5, .int .i64 7] 3)).alloc (.cells #[.int .i64 1] 3)) (some ⟨w.heap.size + 1 + 1 + 1 + 1, 0, none⟩) [1]) := ⟨n0.ints, n1.ints, n2.ints⟩
  replace hb : Hid (Below w.heap.size w (((u.alloc (.cells #[.int .i64 2] 3)).alloc (.cells #[.int .i64 5, .int .i64 7] 3)).alloc (.cells #[.int .i64 1] 3))) := (((hb.out.alloc (by omega) _).alloc (by simp; omega) _).alloc (by simp; omega) _)
  replace p0 := (((p0.al (.cells #[.int .i64 2] 3)).al (.cells #[.int .i64 5, .int .i64 7] 3)).al (.cells #[.int .i64 1] 3))
  replace p1 := (((p1.al (.cells #[.int .i64 2] 3)).al (.cells #[.int .i64 5, .int .i64 7] 3)).al (.cells #[.int .i64 1] 3))
  clear n0 n1 n2 hs
  subst hu
  go_enter Try.func3, Try.ntmps3
  go_wp2_with fail
  refine (c2_ok H2 2 false (some ⟨w.heap.size + 1 + 1, 0, none⟩) 1 [2] (some ⟨w.heap.size + 1 + 1 + 1, 0, none⟩) 2 [5, 7] false none 0 [] (some ⟨w.heap.size + 1 + 1 + 1 + 1, 0, none⟩) 1 [1] _ (by unfold In64; decide) (by simp) (by simp) (by simp) (by simp) HN.out.1 HN.out.2.1 (.inl rfl) HN.out.2.2 (lit_all (by decide)) (lit_all (by decide)) (by decide)).mono ?_
  rintro e v1 ⟨f1, g1, f2, g2, he, _, hY, hB⟩
  replace hb : Hid (Below w.heap.size w v1) := hb.out.trans (hB.mono hb.out.size)
  replace p0 := p0.go hB
  replace p1 := p1.go hB
  clear hB
  clear HN
  rw [fact_v, show shp [2] [] = [2] by decide] at he
  rw [fact_v] at hY
  subst he
  have p0_0 := p0.c0
  have p0_1 := p0.c1
  have p0_2 := p0.c2
  have p1_0 := p1.c0
  have p1_1 := p1.c1
  have p1_2 := p1.c2
  replace hb : Hid (Below w.heap.size w (v1.alloc (.cells #[.bool false, .slice f1 1 g1, .slice f2 2 g2] 25))) := hb.out.alloc hb.out.size _
  replace p0 := p0.al (.cells #[.bool false, .slice f1 1 g1, .slice f2 2 g2] 25)
  replace p1 := p1.al (.cells #[.bool false, .slice f1 1 g1, .slice f2 2 g2] 25)
  replace hY := hY.al (.cells #[.bool false, .slice f1 1 g1, .slice f2 2 g2] 25)
  replace p0_0 := p0.c0
  replace p0_1 := p0.c1
  replace p0_2 := p0.c2
  replace p1_0 := p1.c0
  replace p1_1 := p1.c1
  replace p1_2 := p1.c2
  replace hb : Hid (Below w.heap.size w ((v1.alloc (.cells #[.bool false, .slice f1 1 g1, .slice f2 2 g2] 25)).alloc (.cells #[.int .i64 4, .int .i64 6] 3))) := hb.out.alloc hb.out.size _
  replace p0 := p0.al (.cells #[.int .i64 4, .int .i64 6] 3)
  replace p1 := p1.al (.cells #[.int .i64 4, .int .i64 6] 3)
  replace hY := hY.al (.cells #[.int .i64 4, .int .i64 6] 3)
  replace p0_0 := p0.c0
  replace p0_1 := p0.c1
  replace p0_2 := p0.c2
  replace p1_0 := p1.c0
  replace p1_1 := p1.c1
  replace p1_2 := p1.c2
  have nl := new_lit (v1.alloc (.cells #[.bool false, .slice f1 1 g1, .slice f2 2 g2] 25)) 3 [4, 6]
  simp only [World.size_alloc] at nl
  go_wp2_with fail
  refine (ints_any f2 g2 [4, 6] (some ⟨v1.heap.size + 1, 0, none⟩) 2 [4, 6] (by simp) _ _ hY.ints nl.ints).mono ?_
  rintro e v2 ⟨rfl, hB⟩
  replace hb : Hid (Below w.heap.size w v2) := hb.out.trans (hB.mono hb.out.size)
  replace p0 := p0.go hB
  replace p1 := p1.go hB
  replace hY := hY.go hB
  replace p0_0 := p0.c0
  replace p0_1 := p0.c1
  replace p0_2 := p0.c2
  replace p1_0 := p1.c0
  replace p1_1 := p1.c1
  replace p1_2 := p1.c2
  clear hB
  clear nl hY
  rw [eqB_true rfl]
  go_wp2_with fail
  refine (ravel_uni c0 sa0 sc0 sz0 da0 dc0 dz0 x1 x2 _ ((HI.out.1.1.below hb.out).mono hb.out.size) ((HI.out.1.2.1.below hb.out).mono hb.out.size)).mono ?_
  rintro e v3 ⟨xa1, xc1, ya1, yc1, rfl, hX1, hY1, hB⟩
  replace hb : Hid (Below w.heap.size w v3) := hb.out.trans (hB.mono hb.out.size)
  replace p0 := p0.go hB
  replace p1 := p1.go hB
  replace p0_0 := p0.c0
  replace p0_1 := p0.c1
  replace p0_2 := p0.c2
  replace p1_0 := p1.c0
  replace p1_1 := p1.c1
  replace p1_2 := p1.c2
  clear hB
  replace hb : Hid (Below w.heap.size w (v3.alloc (.cells #[.bool (rvC c0 sz0 dz0), .slice xa1 (rvS c0 sz0 dz0).length xc1, .slice ya1 (rvD c0 sz0 dz0).length yc1] 25))) := hb.out.alloc hb.out.size _
  replace p0 := p0.al (.cells #[.bool (rvC c0 sz0 dz0), .slice xa1 (rvS c0 sz0 dz0).length xc1, .slice ya1 (rvD c0 sz0 dz0).length yc1] 25)
  replace p1 := p1.al (.cells #[.bool (rvC c0 sz0 dz0), .slice xa1 (rvS c0 sz0 dz0).length xc1, .slice ya1 (rvD c0 sz0 dz0).length yc1] 25)
  replace hX1 := hX1.al (.cells #[.bool (rvC c0 sz0 dz0), .slice xa1 (rvS c0 sz0 dz0).length xc1, .slice ya1 (rvD c0 sz0 dz0).length yc1] 25)
  replace hY1 := hY1.al (.cells #[.bool (rvC c0 sz0 dz0), .slice xa1 (rvS c0 sz0 dz0).length xc1, .slice ya1 (rvD c0 sz0 dz0).length yc1] 25)
  replace p0_0 := p0.c0
  replace p0_1 := p0.c1
  replace p0_2 := p0.c2
  replace p1_0 := p1.c0
  replace p1_1 := p1.c1
  replace p1_2 := p1.c2
  have b1 := Abx.new v3 (.bool (rvC c0 sz0 dz0)) (.slice xa1 (rvS c0 sz0 dz0).length xc1) (.slice ya1 (rvD c0 sz0 dz0).length yc1)
  have b1_0 := b1.c0
  have b1_1 := b1.c1
  have b1_2 := b1.c2
  go_wp2_with fail
  refine (ravel_uni c1 sa1 sc1 sz1 da1 dc1 dz1 y1 y2 _ ((HI.out.2.1.below hb.out).mono hb.out.size) ((HI.out.2.2.1.below hb.out).mono hb.out.size)).mono ?_
  rintro e v4 ⟨xa2, xc2, ya2, yc2, rfl, hX2, hY2, hB⟩
  replace hb : Hid (Below w.heap.size w v4) := hb.out.trans (hB.mono hb.out.size)
  replace p0 := p0.go hB
  replace p1 := p1.go hB
  replace hX1 := hX1.go hB
  replace hY1 := hY1.go hB
  replace b1 := b1.go hB
  replace p0_0 := p0.c0
  replace p0_1 := p0.c1
  replace p0_2 := p0.c2
  replace p1_0 := p1.c0
  replace p1_1 := p1.c1
  replace p1_2 := p1.c2
  replace b1_0 := b1.c0
  replace b1_1 := b1.c1
  replace b1_2 := b1.c2
  clear hB
  replace hb : Hid (Below w.heap.size w (v4.alloc (.cells #[.bool (rvC c1 sz1 dz1), .slice xa2 (rvS c1 sz1 dz1).length xc2, .slice ya2 (rvD c1 sz1 dz1).length yc2] 25))) := hb.out.alloc hb.out.size _
  replace p0 := p0.al (.cells #[.bool (rvC c1 sz1 dz1), .slice xa2 (rvS c1 sz1 dz1).length xc2, .slice ya2 (rvD c1 sz1 dz1).length yc2] 25)
  replace p1 := p1.al (.cells #[.bool (rvC c1 sz1 dz1), .slice xa2 (rvS c1 sz1 dz1).length xc2, .slice ya2 (rvD c1 sz1 dz1).length yc2] 25)
  replace hX1 := hX1.al (.cells #[.bool (rvC c1 sz1 dz1), .slice xa2 (rvS c1 sz1 dz1).length xc2, .slice ya2 (rvD c1 sz1 dz1).length yc2] 25)
  replace hY1 := hY1.al (.cells #[.bool (rvC c1 sz1 dz1), .slice xa2 (rvS c1 sz1 dz1).length xc2, .slice ya2 (rvD c1 sz1 dz1).length yc2] 25)
  replace b1 := b1.al (.cells #[.bool (rvC c1 sz1 dz1), .slice xa2 (rvS c1 sz1 dz1).length xc2, .slice ya2 (rvD c1 sz1 dz1).length yc2] 25)
  replace hX2 := hX2.al (.cells #[.bool (rvC c1 sz1 dz1), .slice xa2 (rvS c1 sz1 dz1).length xc2, .slice ya2 (rvD c1 sz1 dz1).length yc2] 25)
  replace hY2 := hY2.al (.cells #[.bool (rvC c1 sz1 dz1), .slice xa2 (rvS c1 sz1 dz1).length xc2, .slice ya2 (rvD c1 sz1 dz1).length yc2] 25)
  replace p0_0 := p0.c0
  replace p0_1 := p0.c1
  replace p0_2 := p0.c2
  replace p1_0 := p1.c0
  replace p1_1 := p1.c1
  replace p1_2 := p1.c2
  replace b1_0 := b1.c0
  replace b1_1 := b1.c1
  replace b1_2 := b1.c2
  have b2 := Abx.new v4 (.bool (rvC c1 sz1 dz1)) (.slice xa2 (rvS c1 sz1 dz1).length xc2) (.slice ya2 (rvD c1 sz1 dz1).length yc2)
  have b2_0 := b2.c0
  have b2_1 := b2.c1
  have b2_2 := b2.c2
  go_wp2_with fail
  refine (ints_any sa0 sc0 sz0 sa1 sc1 sz1 x1 _ _ ((HI.out.1.1.below hb.out).mono hb.out.size) ((HI.out.2.1.below hb.out).mono hb.out.size)).mono ?_
  rintro e v5 ⟨rfl, hB⟩
  replace hb : Hid (Below w.heap.size w v5) := hb.out.trans (hB.mono hb.out.size)
  replace p0 := p0.go hB
  replace p1 := p1.go hB
  replace hX1 := hX1.go hB
  replace hY1 := hY1.go hB
  replace b1 := b1.go hB
  replace hX2 := hX2.go hB
  replace hY2 := hY2.go hB
  replace b2 := b2.go hB
  replace p0_0 := p0.c0
  replace p0_1 := p0.c1
  replace p0_2 := p0.c2
  replace p1_0 := p1.c0
  replace p1_1 := p1.c1
  replace p1_2 := p1.c2
  replace b1_0 := b1.c0
  replace b1_1 := b1.c1
  replace b1_2 := b1.c2
  replace b2_0 := b2.c0
  replace b2_1 := b2.c1
  replace b2_2 := b2.c2
  clear hB
  rw [F0.out, F1.out, errV_zero, eqB_true S.out]
  go_wp2_with fail
  refine (c2_uni H2 f c0 sa0 sc0 sz0 da0 dc0 dz0 c1 sa1 sc1 sz1 da1 dc1 dz1 _ hf x1 x2 y1 y2 ((HI.out.1.1.below hb.out).mono hb.out.size) ((HI.out.1.2.1.below hb.out).mono hb.out.size) ((HI.out.2.1.below hb.out).mono hb.out.size) ((HI.out.2.2.1.below hb.out).mono hb.out.size) HI.out.1.2.2 HI.out.2.2.2).mono ?_
  rintro e v6 ⟨xa3, xc3, ya3, yc3, rfl, hX3, hY3, hB⟩
  replace hb : Hid (Below w.heap.size w v6) := hb.out.trans (hB.mono hb.out.size)
  replace p0 := p0.go hB
  replace p1 := p1.go hB
  replace hX1 := hX1.go hB
  replace hY1 := hY1.go hB
  replace b1 := b1.go hB
  replace hX2 := hX2.go hB
  replace hY2 := hY2.go hB
  replace b2 := b2.go hB
  replace p0_0 := p0.c0
  replace p0_1 := p0.c1
  replace p0_2 := p0.c2
  replace p1_0 := p1.c0
  replace p1_1 := p1.c1
  replace p1_2 := p1.c2
  replace b1_0 := b1.c0
  replace b1_1 := b1.c1
  replace b1_2 := b1.c2
  replace b2_0 := b2.c0
  replace b2_1 := b2.c1
  replace b2_2 := b2.c2
  clear hB
  replace hb : Hid (Below w.heap.size w (v6.alloc (.cells #[.bool false, .slice xa3 (e2S f c0 sz0 dz0 c1 sz1 dz1).length xc3, .slice ya3 (e2D f c0 sz0 dz0 c1 sz1 dz1).length yc3] 25))) := hb.out.alloc hb.out.size _
  replace p0 := p0.al (.cells #[.bool false, .slice xa3 (e2S f c0 sz0 dz0 c1 sz1 dz1).length xc3, .slice ya3 (e2D f c0 sz0 dz0 c1 sz1 dz1).length yc3] 25)
  replace p1 := p1.al (.cells #[.bool false, .slice xa3 (e2S f c0 sz0 dz0 c1 sz1 dz1).length xc3, .slice ya3 (e2D f c0 sz0 dz0 c1 sz1 dz1).length yc3] 25)
  replace hX1 := hX1.al (.cells #[.bool false, .slice xa3 (e2S f c0 sz0 dz0 c1 sz1 dz1).length xc3, .slice ya3 (e2D f c0 sz0 dz0 c1 sz1 dz1).length yc3] 25)
  replace hY1 := hY1.al (.cells #[.bool false, .slice xa3 (e2S f c0 sz0 dz0 c1 sz1 dz1).length xc3, .slice ya3 (e2D f c0 sz0 dz0 c1 sz1 dz1).length yc3] 25)
  replace b1 := b1.al (.cells #[.bool false, .slice xa3 (e2S f c0 sz0 dz0 c1 sz1 dz1).length xc3, .slice ya3 (e2D f c0 sz0 dz0 c1 sz1 dz1).length yc3] 25)
  replace hX2 := hX2.al (.cells #[.bool false, .slice xa3 (e2S f c0 sz0 dz0 c1 sz1 dz1).length xc3, .slice ya3 (e2D f c0 sz0 dz0 c1 sz1 dz1).length yc3] 25)
  replace hY2 := hY2.al (.cells #[.bool false, .slice xa3 (e2S f c0 sz0 dz0 c1 sz1 dz1).length xc3, .slice ya3 (e2D f c0 sz0 dz0 c1 sz1 dz1).length yc3] 25)
  replace b2 := b2.al (.cells #[.bool false, .slice xa3 (e2S f c0 sz0 dz0 c1 sz1 dz1).length xc3, .slice ya3 (e2D f c0 sz0 dz0 c1 sz1 dz1).length yc3] 25)
  replace hX3 := hX3.al (.cells #[.bool false, .slice xa3 (e2S f c0 sz0 dz0 c1 sz1 dz1).length xc3, .slice ya3 (e2D f c0 sz0 dz0 c1 sz1 dz1).length yc3] 25)
  replace hY3 := hY3.al (.cells #[.bool false, .slice xa3 (e2S f c0 sz0 dz0 c1 sz1 dz1).length xc3, .slice ya3 (e2D f c0 sz0 dz0 c1 sz1 dz1).length yc3] 25)
  replace p0_0 := p0.c0
  replace p0_1 := p0.c1
  replace p0_2 := p0.c2
  replace p1_0 := p1.c0
  replace p1_1 := p1.c1
  replace p1_2 := p1.c2
  replace b1_0 := b1.c0
  replace b1_1 := b1.c1
  replace b1_2 := b1.c2
  replace b2_0 := b2.c0
  replace b2_1 := b2.c1
  replace b2_2 := b2.c2
  have b3 := Abx.new v6 (.bool false) (.slice xa3 (e2S f c0 sz0 dz0 c1 sz1 dz1).length xc3) (.slice ya3 (e2D f c0 sz0 dz0 c1 sz1 dz1).length yc3)
  have b3_0 := b3.c0
  have b3_1 := b3.c1
  have b3_2 := b3.c2
  go_wp2_with fail
  refine (c2_uni H2 f (rvC c0 sz0 dz0) xa1 xc1 (rvS c0 sz0 dz0) ya1 yc1 (rvD c0 sz0 dz0) (rvC c1 sz1 dz1) xa2 xc2 (rvS c1 sz1 dz1) ya2 yc2 (rvD c1 sz1 dz1) _ hf (rv_s x1) (rv_d x2) (rv_s y1) (rv_d y2) hX1.ints hY1.ints hX2.ints hY2.ints (rv_in HI.out.1.2.2) (rv_in HI.out.2.2.2)).mono ?_
  rintro e v7 ⟨xa4, xc4, ya4, yc4, rfl, hX4, hY4, hB⟩
  replace hb : Hid (Below w.heap.size w v7) := hb.out.trans (hB.mono hb.out.size)
  replace p0 := p0.go hB
  replace p1 := p1.go hB
  replace hX1 := hX1.go hB
  replace hY1 := hY1.go hB
  replace b1 := b1.go hB
  replace hX2 := hX2.go hB
  replace hY2 := hY2.go hB
  replace b2 := b2.go hB
  replace hX3 := hX3.go hB
  replace hY3 := hY3.go hB
  replace b3 := b3.go hB
  replace p0_0 := p0.c0
  replace p0_1 := p0.c1
  replace p0_2 := p0.c2
  replace p1_0 := p1.c0
  replace p1_1 := p1.c1
  replace p1_2 := p1.c2
  replace b1_0 := b1.c0
  replace b1_1 := b1.c1
  replace b1_2 := b1.c2
  replace b2_0 := b2.c0
  replace b2_1 := b2.c1
  replace b2_2 := b2.c2
  replace b3_0 := b3.c0
  replace b3_1 := b3.c1
  replace b3_2 := b3.c2
  clear hB
  replace hb : Hid (Below w.heap.size w (v7.alloc (.cells #[.bool false, .slice xa4 (e2S f (rvC c0 sz0 dz0) (rvS c0 sz0 dz0) (rvD c0 sz0 dz0) (rvC c1 sz1 dz1) (rvS c1 sz1 dz1) (rvD c1 sz1 dz1)).length xc4, .slice ya4 (e2D f (rvC c0 sz0 dz0) (rvS c0 sz0 dz0) (rvD c0 sz0 dz0) (rvC c1 sz1 dz1) (rvS c1 sz1 dz1) (rvD c1 sz1 dz1)).length yc4] 25))) := hb.out.alloc hb.out.size _
  replace p0 := p0.al (.cells #[.bool false, .slice xa4 (e2S f (rvC c0 sz0 dz0) (rvS c0 sz0 dz0) (rvD c0 sz0 dz0) (rvC c1 sz1 dz1) (rvS c1 sz1 dz1) (rvD c1 sz1 dz1)).length xc4, .slice ya4 (e2D f (rvC c0 sz0 dz0) (rvS c0 sz0 dz0) (rvD c0 sz0 dz0) (rvC c1 sz1 dz1) (rvS c1 sz1 dz1) (rvD c1 sz1 dz1)).length yc4] 25)
  replace p1 := p1.al (.cells #[.bool false, .slice xa4 (e2S f (rvC c0 sz0 dz0) (rvS c0 sz0 dz0) (rvD c0 sz0 dz0) (rvC c1 sz1 dz1) (rvS c1 sz1 dz1) (rvD c1 sz1 dz1)).length xc4, .slice ya4 (e2D f (rvC c0 sz0 dz0) (rvS c0 sz0 dz0) (rvD c0 sz0 dz0) (rvC c1 sz1 dz1) (rvS c1 sz1 dz1) (rvD c1 sz1 dz1)).length yc4] 25)
  replace hX1 := hX1.al (.cells #[.bool false, .slice xa4 (e2S f (rvC c0 sz0 dz0) (rvS c0 sz0 dz0) (rvD c0 sz0 dz0) (rvC c1 sz1 dz1) (rvS c1 sz1 dz1) (rvD c1 sz1 dz1)).length xc4, .slice ya4 (e2D f (rvC c0 sz0 dz0) (rvS c0 sz0 dz0) (rvD c0 sz0 dz0) (rvC c1 sz1 dz1) (rvS c1 sz1 dz1) (rvD c1 sz1 dz1)).length yc4] 25)
  replace hY1 := hY1.al (.cells #[.bool false, .slice xa4 (e2S f (rvC c0 sz0 dz0) (rvS c0 sz0 dz0) (rvD c0 sz0 dz0) (rvC c1 sz1 dz1) (rvS c1 sz1 dz1) (rvD c1 sz1 dz1)).length xc4, .slice ya4 (e2D f (rvC c0 sz0 dz0) (rvS c0 sz0 dz0) (rvD c0 sz0 dz0) (rvC c1 sz1 dz1) (rvS c1 sz1 dz1) (rvD c1 sz1 dz1)).length yc4] 25)
  replace b1 := b1.al (.cells #[.bool false, .slice xa4 (e2S f (rvC c0 sz0 dz0) (rvS c0 sz0 dz0) (rvD c0 sz0 dz0) (rvC c1 sz1 dz1) (rvS c1 sz1 dz1) (rvD c1 sz1 dz1)).length xc4, .slice ya4 (e2D f (rvC c0 sz0 dz0) (rvS c0 sz0 dz0) (rvD c0 sz0 dz0) (rvC c1 sz1 dz1) (rvS c1 sz1 dz1) (rvD c1 sz1 dz1)).length yc4] 25)
  replace hX2 := hX2.al (.cells #[.bool false, .slice xa4 (e2S f (rvC c0 sz0 dz0) (rvS c0 sz0 dz0) (rvD c0 sz0 dz0) (rvC c1 sz1 dz1) (rvS c1 sz1 dz1) (rvD c1 sz1 dz1)).length xc4, .slice ya4 (e2D f (rvC c0 sz0 dz0) (rvS c0 sz0 dz0) (rvD c0 sz0 dz0) (rvC c1 sz1 dz1) (rvS c1 sz1 dz1) (rvD c1 sz1 dz1)).length yc4] 25)
  replace hY2 := hY2.al (.cells #[.bool false, .slice xa4 (e2S f (rvC c0 sz0 dz0) (rvS c0 sz0 dz0) (rvD c0 sz0 dz0) (rvC c1 sz1 dz1) (rvS c1 sz1 dz1) (rvD c1 sz1 dz1)).length xc4, .slice ya4 (e2D f (rvC c0 sz0 dz0) (rvS c0 sz0 dz0) (rvD c0 sz0 dz0) (rvC c1 sz1 dz1) (rvS c1 sz1 dz1) (rvD c1 sz1 dz1)).length yc4] 25)
  replace b2 := b2.al (.cells #[.bool false, .slice xa4 (e2S f (rvC c0 sz0 dz0) (rvS c0 sz0 dz0) (rvD c0 sz0 dz0) (rvC c1 sz1 dz1) (rvS c1 sz1 dz1) (rvD c1 sz1 dz1)).length xc4, .slice ya4 (e2D f (rvC c0 sz0 dz0) (rvS c0 sz0 dz0) (rvD c0 sz0 dz0) (rvC c1 sz1 dz1) (rvS c1 sz1 dz1) (rvD c1 sz1 dz1)).length yc4] 25)
  replace hX3 := hX3.al (.cells #[.bool false, .slice xa4 (e2S f (rvC c0 sz0 dz0) (rvS c0 sz0 dz0) (rvD c0 sz0 dz0) (rvC c1 sz1 dz1) (rvS c1 sz1 dz1) (rvD c1 sz1 dz1)).length xc4, .slice ya4 (e2D f (rvC c0 sz0 dz0) (rvS c0 sz0 dz0) (rvD c0 sz0 dz0) (rvC c1 sz1 dz1) (rvS c1 sz1 dz1) (rvD c1 sz1 dz1)).length yc4] 25)
  replace hY3 := hY3.al (.cells #[.bool false, .slice xa4 (e2S f (rvC c0 sz0 dz0) (rvS c0 sz0 dz0) (rvD c0 sz0 dz0) (rvC c1 sz1 dz1) (rvS c1 sz1 dz1) (rvD c1 sz1 dz1)).length xc4, .slice ya4 (e2D f (rvC c0 sz0 dz0) (rvS c0 sz0 dz0) (rvD c0 sz0 dz0) (rvC c1 sz1 dz1) (rvS c1 sz1 dz1) (rvD c1 sz1 dz1)).length yc4] 25)
  replace b3 := b3.al (.cells #[.bool false, .slice xa4 (e2S f (rvC c0 sz0 dz0) (rvS c0 sz0 dz0) (rvD c0 sz0 dz0) (rvC c1 sz1 dz1) (rvS c1 sz1 dz1) (rvD c1 sz1 dz1)).length xc4, .slice ya4 (e2D f (rvC c0 sz0 dz0) (rvS c0 sz0 dz0) (rvD c0 sz0 dz0) (rvC c1 sz1 dz1) (rvS c1 sz1 dz1) (rvD c1 sz1 dz1)).length yc4] 25)
  replace hX4 := hX4.al (.cells #[.bool false, .slice xa4 (e2S f (rvC c0 sz0 dz0) (rvS c0 sz0 dz0) (rvD c0 sz0 dz0) (rvC c1 sz1 dz1) (rvS c1 sz1 dz1) (rvD c1 sz1 dz1)).length xc4, .slice ya4 (e2D f (rvC c0 sz0 dz0) (rvS c0 sz0 dz0) (rvD c0 sz0 dz0) (rvC c1 sz1 dz1) (rvS c1 sz1 dz1) (rvD c1 sz1 dz1)).length yc4] 25)
  replace hY4 := hY4.al (.cells #[.bool false, .slice xa4 (e2S f (rvC c0 sz0 dz0) (rvS c0 sz0 dz0) (rvD c0 sz0 dz0) (rvC c1 sz1 dz1) (rvS c1 sz1 dz1) (rvD c1 sz1 dz1)).length xc4, .slice ya4 (e2D f (rvC c0 sz0 dz0) (rvS c0 sz0 dz0) (rvD c0 sz0 dz0) (rvC c1 sz1 dz1) (rvS c1 sz1 dz1) (rvD c1 sz1 dz1)).length yc4] 25)
  replace p0_0 := p0.c0
  replace p0_1 := p0.c1
  replace p0_2 := p0.c2
  replace p1_0 := p1.c0
  replace p1_1 := p1.c1
  replace p1_2 := p1.c2
  replace b1_0 := b1.c0
  replace b1_1 := b1.c1
  replace b1_2 := b1.c2
  replace b2_0 := b2.c0
  replace b2_1 := b2.c1
  replace b2_2 := b2.c2
  replace b3_0 := b3.c0
  replace b3_1 := b3.c1
  replace b3_2 := b3.c2
  have b4 := Abx.new v7 (.bool false) (.slice xa4 (e2S f (rvC c0 sz0 dz0) (rvS c0 sz0 dz0) (rvD c0 sz0 dz0) (rvC c1 sz1 dz1) (rvS c1 sz1 dz1) (rvD c1 sz1 dz1)).length xc4) (.slice ya4 (e2D f (rvC c0 sz0 dz0) (rvS c0 sz0 dz0) (rvD c0 sz0 dz0) (rvC c1 sz1 dz1) (rvS c1 sz1 dz1) (rvD c1 sz1 dz1)).length yc4)
  have b4_0 := b4.c0
  have b4_1 := b4.c1
  have b4_2 := b4.c2
  rw [E.out, E'.out, errV_zero]
  go_wp2_with fail
  refine (ravel_ok false xa3 xc3 (e2S f c0 sz0 dz0 c1 sz1 dz1) ya3 yc3 (e2D f c0 sz0 dz0 c1 sz1 dz1) (Nat.le_trans e2_short.1 (by decide)) (Nat.le_trans e2_short.2 (by decide)) _ hX3.ints hY3.ints Z.out).mono ?_
  rintro e v8 ⟨xa5, xc5, ya5, yc5, rfl, hX5, hY5, hB⟩
  replace hb : Hid (Below w.heap.size w v8) := hb.out.trans (hB.mono hb.out.size)
  replace p0 := p0.go hB
  replace p1 := p1.go hB
  replace hX1 := hX1.go hB
  replace hY1 := hY1.go hB
  replace b1 := b1.go hB
  replace hX2 := hX2.go hB
  replace hY2 := hY2.go hB
  replace b2 := b2.go hB
  replace hX3 := hX3.go hB
  replace hY3 := hY3.go hB
  replace b3 := b3.go hB
  replace hX4 := hX4.go hB
  replace hY4 := hY4.go hB
  replace b4 := b4.go hB
  replace p0_0 := p0.c0
  replace p0_1 := p0.c1
  replace p0_2 := p0.c2
  replace p1_0 := p1.c0
  replace p1_1 := p1.c1
  replace p1_2 := p1.c2
  replace b1_0 := b1.c0
  replace b1_1 := b1.c1
  replace b1_2 := b1.c2
  replace b2_0 := b2.c0
  replace b2_1 := b2.c1
  replace b2_2 := b2.c2
  replace b3_0 := b3.c0
  replace b3_1 := b3.c1
  replace b3_2 := b3.c2
  replace b4_0 := b4.c0
  replace b4_1 := b4.c1
  replace b4_2 := b4.c2
  clear hB
  replace hb : Hid (Below w.heap.size w (v8.alloc (.cells #[.bool false, .slice xa5 1 xc5, .slice ya5 (e2D f c0 sz0 dz0 c1 sz1 dz1).length yc5] 25))) := hb.out.alloc hb.out.size _
  replace p0 := p0.al (.cells #[.bool false, .slice xa5 1 xc5, .slice ya5 (e2D f c0 sz0 dz0 c1 sz1 dz1).length yc5] 25)
  replace p1 := p1.al (.cells #[.bool false, .slice xa5 1 xc5, .slice ya5 (e2D f c0 sz0 dz0 c1 sz1 dz1).length yc5] 25)
  replace hX1 := hX1.al (.cells #[.bool false, .slice xa5 1 xc5, .slice ya5 (e2D f c0 sz0 dz0 c1 sz1 dz1).length yc5] 25)
  replace hY1 := hY1.al (.cells #[.bool false, .slice xa5 1 xc5, .slice ya5 (e2D f c0 sz0 dz0 c1 sz1 dz1).length yc5] 25)
  replace b1 := b1.al (.cells #[.bool false, .slice xa5 1 xc5, .slice ya5 (e2D f c0 sz0 dz0 c1 sz1 dz1).length yc5] 25)
  replace hX2 := hX2.al (.cells #[.bool false, .slice xa5 1 xc5, .slice ya5 (e2D f c0 sz0 dz0 c1 sz1 dz1).length yc5] 25)
  replace hY2 := hY2.al (.cells #[.bool false, .slice xa5 1 xc5, .slice ya5 (e2D f c0 sz0 dz0 c1 sz1 dz1).length yc5] 25)
  replace b2 := b2.al (.cells #[.bool false, .slice xa5 1 xc5, .slice ya5 (e2D f c0 sz0 dz0 c1 sz1 dz1).length yc5] 25)
  replace hX3 := hX3.al (.cells #[.bool false, .slice xa5 1 xc5, .slice ya5 (e2D f c0 sz0 dz0 c1 sz1 dz1).length yc5] 25)
  replace hY3 := hY3.al (.cells #[.bool false, .slice xa5 1 xc5, .slice ya5 (e2D f c0 sz0 dz0 c1 sz1 dz1).length yc5] 25)
  replace b3 := b3.al (.cells #[.bool false, .slice xa5 1 xc5, .slice ya5 (e2D f c0 sz0 dz0 c1 sz1 dz1).length yc5] 25)
  replace hX4 := hX4.al (.cells #[.bool false, .slice xa5 1 xc5, .slice ya5 (e2D f c0 sz0 dz0 c1 sz1 dz1).length yc5] 25)
  replace hY4 := hY4.al (.cells #[.bool false, .slice xa5 1 xc5, .slice ya5 (e2D f c0 sz0 dz0 c1 sz1 dz1).length yc5] 25)
  replace b4 := b4.al (.cells #[.bool false, .slice xa5 1 xc5, .slice ya5 (e2D f c0 sz0 dz0 c1 sz1 dz1).length yc5] 25)
  replace hX5 := hX5.al (.cells #[.bool false, .slice xa5 1 xc5, .slice ya5 (e2D f c0 sz0 dz0 c1 sz1 dz1).length yc5] 25)
  replace hY5 := hY5.al (.cells #[.bool false, .slice xa5 1 xc5, .slice ya5 (e2D f c0 sz0 dz0 c1 sz1 dz1).length yc5] 25)
  replace p0_0 := p0.c0
  replace p0_1 := p0.c1
  replace p0_2 := p0.c2
  replace p1_0 := p1.c0
  replace p1_1 := p1.c1
  replace p1_2 := p1.c2
  replace b1_0 := b1.c0
  replace b1_1 := b1.c1
  replace b1_2 := b1.c2
  replace b2_0 := b2.c0
  replace b2_1 := b2.c1
  replace b2_2 := b2.c2
  replace b3_0 := b3.c0
  replace b3_1 := b3.c1
  replace b3_2 := b3.c2
  replace b4_0 := b4.c0
  replace b4_1 := b4.c1
  replace b4_2 := b4.c2
  have b5 := Abx.new v8 (.bool false) (.slice xa5 1 xc5) (.slice ya5 (e2D f c0 sz0 dz0 c1 sz1 dz1).length yc5)
  have b5_0 := b5.c0
  have b5_1 := b5.c1
  have b5_2 := b5.c2
  have hes := matches_any false false xa5 xc5 [((e2D f c0 sz0 dz0 c1 sz1 dz1).length : Int)] ya5 yc5 (e2D f c0 sz0 dz0 c1 sz1 dz1) 0 xa4 xc4 (e2S f (rvC c0 sz0 dz0) (rvS c0 sz0 dz0) (rvD c0 sz0 dz0) (rvC c1 sz1 dz1) (rvS c1 sz1 dz1) (rvD c1 sz1 dz1)) ya4 yc4 (e2D f (rvC c0 sz0 dz0) (rvS c0 sz0 dz0) (rvD c0 sz0 dz0) (rvC c1 sz1 dz1) (rvS c1 sz1 dz1) (rvD c1 sz1 dz1)) 0 (by simp) (Nat.le_trans e2_short.2 (by decide)) (Nat.le_trans e2_short.1 (by decide)) (Nat.le_trans e2_short.2 (by decide)) (v8.alloc (.cells #[.bool false, .slice xa5 1 xc5, .slice ya5 (e2D f c0 sz0 dz0 c1 sz1 dz1).length yc5] 25)) hX5.ints hY5.ints hX4.ints hY4.ints
  rw [errV_zero] at hes
  go_wp2_with fail
  refine (hes).mono ?_
  rintro e v9 ⟨rfl, hB⟩
  replace hb : Hid (Below w.heap.size w v9) := hb.out.trans (hB.mono hb.out.size)
  replace p0 := p0.go hB
  replace p1 := p1.go hB
  replace hX1 := hX1.go hB
  replace hY1 := hY1.go hB
  replace b1 := b1.go hB
  replace hX2 := hX2.go hB
  replace hY2 := hY2.go hB
  replace b2 := b2.go hB
  replace hX3 := hX3.go hB
  replace hY3 := hY3.go hB
  replace b3 := b3.go hB
  replace hX4 := hX4.go hB
  replace hY4 := hY4.go hB
  replace b4 := b4.go hB
  replace hX5 := hX5.go hB
  replace hY5 := hY5.go hB
  replace b5 := b5.go hB
  replace p0_0 := p0.c0
  replace p0_1 := p0.c1
  replace p0_2 := p0.c2
  replace p1_0 := p1.c0
  replace p1_1 := p1.c1
  replace p1_2 := p1.c2
  replace b1_0 := b1.c0
  replace b1_1 := b1.c1
  replace b1_2 := b1.c2
  replace b2_0 := b2.c0
  replace b2_1 := b2.c1
  replace b2_2 := b2.c2
  replace b3_0 := b3.c0
  replace b3_1 := b3.c1
  replace b3_2 := b3.c2
  replace b4_0 := b4.c0
  replace b4_1 := b4.c1
  replace b4_2 := b4.c2
  replace b5_0 := b5.c0
  replace b5_1 := b5.c1
  replace b5_2 := b5.c2
  clear hB
  clear hes
  rw [M.out]
  go_wp2_with fail
  refine (ints_any xa3 xc3 (e2S f c0 sz0 dz0 c1 sz1 dz1) sa0 sc0 sz0 (Nat.le_trans e2_short.1 (by decide)) _ _ hX3.ints ((HI.out.1.1.below hb.out).mono hb.out.size)).mono ?_
  rintro e v10 ⟨rfl, hB⟩
  replace hb : Hid (Below w.heap.size w v10) := hb.out.trans (hB.mono hb.out.size)
  replace p0 := p0.go hB
  replace p1 := p1.go hB
  replace hX1 := hX1.go hB
  replace hY1 := hY1.go hB
  replace b1 := b1.go hB
  replace hX2 := hX2.go hB
  replace hY2 := hY2.go hB
  replace b2 := b2.go hB
  replace hX3 := hX3.go hB
  replace hY3 := hY3.go hB
  replace b3 := b3.go hB
  replace hX4 := hX4.go hB
  replace hY4 := hY4.go hB
  replace b4 := b4.go hB
  replace hX5 := hX5.go hB
  replace hY5 := hY5.go hB
  replace b5 := b5.go hB
  replace p0_0 := p0.c0
  replace p0_1 := p0.c1
  replace p0_2 := p0.c2
  replace p1_0 := p1.c0
  replace p1_1 := p1.c1
  replace p1_2 := p1.c2
  replace b1_0 := b1.c0
  replace b1_1 := b1.c1
  replace b1_2 := b1.c2
  replace b2_0 := b2.c0
  replace b2_1 := b2.c1
  replace b2_2 := b2.c2
  replace b3_0 := b3.c0
  replace b3_1 := b3.c1
  replace b3_2 := b3.c2
  replace b4_0 := b4.c0
  replace b4_1 := b4.c1
  replace b4_2 := b4.c2
  replace b5_0 := b5.c0
  replace b5_1 := b5.c1
  replace b5_2 := b5.c2
  clear hB
  rw [eqB_true B.out]
  go_wp2_with fail
  go_ret
  exact ⟨rfl, hb.out⟩
section
variable {f : Int} {c0 : Bool} {sz0 dz0 : List Int} {c1 : Bool} {sz1 dz1 : List Int}
theorem ravels_iff (s : sz0 = sz1) (f0 : flawE c0 sz0 dz0 = 0) (f1 : flawE c1 sz1 dz1 = 0) : e2E f c0 sz0 dz0 c1 sz1 dz1 = 0 ↔ e2E f (rvC c0 sz0 dz0) (rvS c0 sz0 dz0) (rvD c0 sz0 dz0) (rvC c1 sz1 dz1) (rvS c1 sz1 dz1) (rvD c1 sz1 dz1) = 0 := by
  obtain ⟨r1, r2, r3⟩ := rv_ok f0
  obtain ⟨q1, q2, q3⟩ := rv_ok f1
  rw [r1, r2, r3, q1, q2, q3]
  subst s
  exact (line_cells f0 f1).1
theorem ravels_z (e : e2E f c0 sz0 dz0 c1 sz1 dz1 = 0) : flawE false (e2S f c0 sz0 dz0 c1 sz1 dz1) (e2D f c0 sz0 dz0 c1 sz1 dz1) = 0 := by
  unfold e2S e2D; rw [if_pos e, if_pos e]; exact e2_flaw e
theorem ravels_m (s : sz0 = sz1) (f0 : flawE c0 sz0 dz0 = 0) (f1 : flawE c1 sz1 dz1 = 0) (e : e2E f c0 sz0 dz0 c1 sz1 dz1 = 0) : alB false [((e2D f c0 sz0 dz0 c1 sz1 dz1).length : Int)] (e2D f c0 sz0 dz0 c1 sz1 dz1) 0 false (e2S f (rvC c0 sz0 dz0) (rvS c0 sz0 dz0) (rvD c0 sz0 dz0) (rvC c1 sz1 dz1) (rvS c1 sz1 dz1) (rvD c1 sz1 dz1)) (e2D f (rvC c0 sz0 dz0) (rvS c0 sz0 dz0) (rvD c0 sz0 dz0) (rvC c1 sz1 dz1) (rvS c1 sz1 dz1) (rvD c1 sz1 dz1)) 0 = true := by
  obtain ⟨r1, r2, r3⟩ := rv_ok f0
  obtain ⟨q1, q2, q3⟩ := rv_ok f1
  rw [r1, r2, r3, q1, q2, q3]
  subst s
  exact line_alike f0 f1 e
theorem ravels_b (s : sz0 = sz1) (e : e2E f c0 sz0 dz0 c1 sz1 dz1 = 0) : e2S f c0 sz0 dz0 c1 sz1 dz1 = sz0 := by
  subst s
  unfold e2S; rw [if_pos e, shp_self]
end
theorem ravels_walk (H2 : C2) (f : Int) (hf : In64 f) (c0 : Bool) (sa0 : Option Addr) (sc0 : Nat) (sz0 : List Int) (da0 : Option Addr) (dc0 : Nat) (dz0 : List Int) (c1 : Bool) (sa1 : Option Addr) (sc1 : Nat) (sz1 : List Int) (da1 : Option Addr) (dc1 : Nat) (dz1 : List Int) (w : World) (w0 : IsArr w sa0 sz0 da0 dz0) (w1 : IsArr w sa1 sz1 da1 dz1) :
    Calls Try.prog 3 #[.int .i64 f, .agg #[.bool c0, .slice sa0 sz0.length sc0, .slice da0 dz0.length dc0], .agg #[.bool c1, .slice sa1 sz1.length sc1, .slice da1 dz1.length dc1]] w fun e w' => e = .returned (.bool true) ∧ Below w.heap.size w w' := by
  by_cases f0 : flawE c0 sz0 dz0 = 0
  · by_cases f1 : flawE c1 sz1 dz1 = 0
    · by_cases s : sz0 = sz1
      · obtain ⟨r1, r2, r3⟩ := rv_ok f0
        obtain ⟨q1, q2, q3⟩ := rv_ok f1
        have hE := ravels_iff (f := f) s f0 f1
        by_cases e : e2E f c0 sz0 dz0 c1 sz1 dz1 = 0
        · exact ravels_ok H2 f hf c0 sa0 sc0 sz0 da0 dc0 dz0 c1 sa1 sc1 sz1 da1 dc1 dz1 w w0 w1 f0 f1 s e (hE.1 e) (ravels_z e) (ravels_m s f0 f1 e) (ravels_b s e)
        · exact ravels_err H2 f hf c0 sa0 sc0 sz0 da0 dc0 dz0 c1 sa1 sc1 sz1 da1 dc1 dz1 w w0 w1 f0 f1 s e (fun q => e (hE.2 q))
      · exact ravels_other H2 f hf c0 sa0 sc0 sz0 da0 dc0 dz0 c1 sa1 sc1 sz1 da1 dc1 dz1 w w0 w1 f0 f1 s
    · exact ravels_no1 H2 f hf c0 sa0 sc0 sz0 da0 dc0 dz0 c1 sa1 sc1 sz1 da1 dc1 dz1 w w0 w1 f0 f1
  · exact ravels_no0 H2 f hf c0 sa0 sc0 sz0 da0 dc0 dz0 c1 sa1 sc1 sz1 da1 dc1 dz1 w w0 w1 f0
end Go.Proofs.Ytmbgomljofngnaa
