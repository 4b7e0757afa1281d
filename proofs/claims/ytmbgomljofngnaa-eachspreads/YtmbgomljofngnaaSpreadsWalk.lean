/-
  The walk of the statement that one cell is as many as are needed, given what the program tells cell by cell.
-/
import Derived.Test.YtmbgomljofngnaaBase
import Derived.Test.YtmbgomljofngnaaReshape
import Derived.Test.YtmbgomljofngnaaEachs
namespace Go.Proofs.Ytmbgomljofngnaa
open Go.RowKit
set_option linter.unusedVariables false

theorem lit_all {xs : List Int} (h : xs.all (fun x => decide (-9223372036854775808 ≤ x ∧ x ≤ 9223372036854775807)) = true) : ∀ j, In64 (nth xs j) := fun j => by
  by_cases hj : j < xs.length
  · have : nth xs j ∈ xs := by simp [nth, hj]
    exact of_decide_eq_true (p := -9223372036854775808 ≤ nth xs j ∧ nth xs j ≤ 9223372036854775807) (List.all_eq_true.1 h _ this)
  · have : nth xs j = 0 := by simp [nth, List.getElem?_eq_none (Nat.le_of_not_lt hj)]
    rw [this]; unfold In64; decide
theorem fact_v : e2V 1 false [] [1] false [2] [5, 7] = [6, 8] := by
  have h : e2V 1 false [] [1] false [2] [5, 7] = [twoV 1 1 5, twoV 1 1 7] := rfl
  rw [h, tv1, tv1, In64.same (n := 1 + 5) (by unfold In64; decide), In64.same (n := 1 + 7) (by unfold In64; decide)]
  rfl
set_option maxRecDepth 100000 in
set_option maxHeartbeats 8000000 in
theorem spreads_axes (H2 : C2) (f : Int) (hf : In64 f) (c0 : Bool) (sa0 : Option Addr) (sc0 : Nat) (sz0 : List Int) (da0 : Option Addr) (dc0 : Nat) (dz0 : List Int) (c1 : Bool) (sa1 : Option Addr) (sc1 : Nat) (sz1 : List Int) (da1 : Option Addr) (dc1 : Nat) (dz1 : List Int) (w : World) (w0 : IsArr w sa0 sz0 da0 dz0) (w1 : IsArr w sa1 sz1 da1 dz1) (hl : sz0.length ≠ 0) :
    Calls Try.prog 4 #[.int .i64 f, .agg #[.bool c0, .slice sa0 sz0.length sc0, .slice da0 dz0.length dc0], .agg #[.bool c1, .slice sa1 sz1.length sc1, .slice da1 dz1.length dc1]] w fun e w' => e = .returned (.bool true) ∧ Below w.heap.size w w' := by
  have tl : ((sz0.length : Int) != 0) = true := by rw [bne_iff_ne]; omega
  obtain ⟨x1, x2, x3, x4, _, T0⟩ := w0
  obtain ⟨y1, y2, y3, y4, _, T1⟩ := w1
  have HI : Hid ((IsInts w.heap.size w sa0 sz0 ∧ IsInts w.heap.size w da0 dz0 ∧ ∀ j, In64 (nth dz0 j)) ∧ (IsInts w.heap.size w sa1 sz1 ∧ IsInts w.heap.size w da1 dz1 ∧ ∀ j, In64 (nth dz1 j))) := ⟨⟨x3, x4, T0⟩, y3, y4, T1⟩
  clear x3 x4 y3 y4 T0 T1
  have p0 : Abx ((w.alloc (.cells #[.bool c0, .slice sa0 sz0.length sc0, .slice da0 dz0.length dc0] 25)).alloc (.cells #[.bool c1, .slice sa1 sz1.length sc1, .slice da1 dz1.length dc1] 25)) w.heap.size (.bool c0) (.slice sa0 sz0.length sc0) (.slice da0 dz0.length dc0) := (Abx.new w _ _ _).al _
  have p1 : Abx ((w.alloc (.cells #[.bool c0, .slice sa0 sz0.length sc0, .slice da0 dz0.length dc0] 25)).alloc (.cells #[.bool c1, .slice sa1 sz1.length sc1, .slice da1 dz1.length dc1] 25)) (w.heap.size + 1) (.bool c1) (.slice sa1 sz1.length sc1) (.slice da1 dz1.length dc1) := Abx.new1 w _ _ _ _
  have hs : ((w.alloc (.cells #[.bool c0, .slice sa0 sz0.length sc0, .slice da0 dz0.length dc0] 25)).alloc (.cells #[.bool c1, .slice sa1 sz1.length sc1, .slice da1 dz1.length dc1] 25)).heap.size = w.heap.size + 1 + 1 := by simp
  have hb : Hid (Below w.heap.size w ((w.alloc (.cells #[.bool c0, .slice sa0 sz0.length sc0, .slice da0 dz0.length dc0] 25)).alloc (.cells #[.bool c1, .slice sa1 sz1.length sc1, .slice da1 dz1.length dc1] 25))) := ((Below.refl _ w).alloc (Nat.le_refl _) _).alloc (by simp) _
  obtain ⟨u, hu⟩ : ∃ u, u = ((w.alloc (.cells #[.bool c0, .slice sa0 sz0.length sc0, .slice da0 dz0.length dc0] 25)).alloc (.cells #[.bool c1, .slice sa1 sz1.length sc1, .slice da1 dz1.length dc1] 25)) := ⟨_, rfl⟩
  rw [← hu] at p0 p1 hs hb
  have n0 : NewInts u.heap.size (((u.alloc (.cells #[.int .i64 1] 3)).alloc (.cells #[.int .i64 2] 3)).alloc (.cells #[.int .i64 5, .int .i64 7] 3)) (some ⟨u.heap.size, 0, none⟩) [1] := (((new_lit u 3 [1]).al (.cells #[.int .i64 2] 3)).al (.cells #[.int .i64 5, .int .i64 7] 3))
  have n1 : NewInts (u.alloc (.cells #[.int .i64 1] 3)).heap.size (((u.alloc (.cells #[.int .i64 1] 3)).alloc (.cells #[.int .i64 2] 3)).alloc (.cells #[.int .i64 5, .int .i64 7] 3)) (some ⟨(u.alloc (.cells #[.int .i64 1] 3)).heap.size, 0, none⟩) [2] := ((new_lit (u.alloc (.cells #[.int .i64 1] 3)) 3 [2]).al (.cells #[.int .i64 5, .int .i64 7] 3))
  have n2 : NewInts ((u.alloc (.cells #[.int .i64 1] 3)).alloc (.cells #[.int .i64 2] 3)).heap.size (((u.alloc (.cells #[.int .i64 1] 3)).alloc (.cells #[.int .i64 2] 3)).alloc (.cells #[.int .i64 5, .int .i64 7] 3)) (some ⟨((u.alloc (.cells #[.int .i64 1] 3)).alloc (.cells #[.int .i64 2] 3)).heap.size, 0, none⟩) [5, 7] := (new_lit ((u.alloc (.cells #[.int .i64 1] 3)).alloc (.cells #[.int .i64 2] 3)) 3 [5, 7])
  simp only [World.size_alloc, hs] at n0 n1 n2
  have HN : Hid (IsInts (((u.alloc (.cells #[.int .i64 1] 3)).alloc (.cells #[.int .i64 2] 3)).alloc (.cells #[.int .i64 5, .int .i64 7] 3)).heap.size (((u.alloc (.cells #[.int .i64 1] 3)).alloc (.cells #[.int .i64 2] 3)).alloc (.cells #[.int .i64 5, .int .i64 7] 3)) (some ⟨w.heap.size + 1 + 1, 0, none⟩) [1] ∧ IsInts (((u.alloc (.cells #[.int .i64 1] 3)).alloc (.cells #[.int .i64 2] 3)).alloc (.cells #[.int .i64 5, .int .i64 7] 3)).heap.size (((u.alloc (.cells #[.int .i64 1] 3)).alloc (.cells #[.int .i64 2] 3)).alloc (.cells #[.int .i64 5, .int .i64 7] 3)) (some ⟨w.heap.size + 1 + 1 + 1, 0, none⟩) [2] ∧ IsInts (((u.alloc (.cells #[.int .i64 1] 3)).alloc (.cells #[.int .i64 2] 3)).alloc (.cells #[.int .i64 5, .int .i64 7] 3)).heap.size (((u.alloc (.cells #[.int .i64 1] 3)).alloc (.cells #[.int .i64 2] 3)).alloc (.cells #[.int .i64 5, .int .i64 7] 3)) (some ⟨w.heap.size + 1 + 1 + 1 + 1, 0, none⟩) [5, 7]) := ⟨n0.ints, n1.ints, n2.ints⟩
  replace hb : Hid (Below w.heap.size w (((u.alloc (.cells #[.int .i64 1] 3)).alloc (.cells #[.int .i64 2] 3)).alloc (.cells #[.int .i64 5, .int .i64 7] 3))) := (((hb.out.alloc (by omega) _).alloc (by simp; omega) _).alloc (by simp; omega) _)
  replace p0 := (((p0.al (.cells #[.int .i64 1] 3)).al (.cells #[.int .i64 2] 3)).al (.cells #[.int .i64 5, .int .i64 7] 3))
  replace p1 := (((p1.al (.cells #[.int .i64 1] 3)).al (.cells #[.int .i64 2] 3)).al (.cells #[.int .i64 5, .int .i64 7] 3))
  clear n0 n1 n2 hs
  subst hu
  go_enter Try.func4, Try.ntmps4
  go_wp2_with fail
  refine (c2_ok H2 1 false none 0 [] (some ⟨w.heap.size + 1 + 1, 0, none⟩) 1 [1] false (some ⟨w.heap.size + 1 + 1 + 1, 0, none⟩) 1 [2] (some ⟨w.heap.size + 1 + 1 + 1 + 1, 0, none⟩) 2 [5, 7] _ (by unfold In64; decide) (by simp) (by simp) (by simp) (by simp) (.inl rfl) HN.out.1 HN.out.2.1 HN.out.2.2 (lit_all (by decide)) (lit_all (by decide)) (by decide)).mono ?_
  rintro e v1 ⟨f1, g1, f2, g2, he, _, hY, hB⟩
  replace hb : Hid (Below w.heap.size w v1) := hb.out.trans (hB.mono hb.out.size)
  replace p0 := p0.go hB
  replace p1 := p1.go hB
  clear hB
  clear HN
  rw [fact_v, show shp [] [2] = [2] by decide] at he
  rw [fact_v] at hY
  subst he
  have p0_0 := p0.c0
  have p0_1 := p0.c1
  have p0_2 := p0.c2
  have p1_0 := p1.c0
  have p1_1 := p1.c1
  have p1_2 := p1.c2
  replace hb : Hid (Below w.heap.size w (v1.alloc (.cells #[.bool false, .slice f1 1 g1, .slice f2 2 g2] 25))) := hb.out.alloc hb.out.size _
  replace p0 := p0.al (.cells #[.bool false, .slice f1 1 g1, .slice f2 2 g2] 25)
  replace p1 := p1.al (.cells #[.bool false, .slice f1 1 g1, .slice f2 2 g2] 25)
  replace hY := hY.al (.cells #[.bool false, .slice f1 1 g1, .slice f2 2 g2] 25)
  replace p0_0 := p0.c0
  replace p0_1 := p0.c1
  replace p0_2 := p0.c2
  replace p1_0 := p1.c0
  replace p1_1 := p1.c1
  replace p1_2 := p1.c2
  replace hb : Hid (Below w.heap.size w ((v1.alloc (.cells #[.bool false, .slice f1 1 g1, .slice f2 2 g2] 25)).alloc (.cells #[.int .i64 6, .int .i64 8] 3))) := hb.out.alloc hb.out.size _
  replace p0 := p0.al (.cells #[.int .i64 6, .int .i64 8] 3)
  replace p1 := p1.al (.cells #[.int .i64 6, .int .i64 8] 3)
  replace hY := hY.al (.cells #[.int .i64 6, .int .i64 8] 3)
  replace p0_0 := p0.c0
  replace p0_1 := p0.c1
  replace p0_2 := p0.c2
  replace p1_0 := p1.c0
  replace p1_1 := p1.c1
  replace p1_2 := p1.c2
  have nl := new_lit (v1.alloc (.cells #[.bool false, .slice f1 1 g1, .slice f2 2 g2] 25)) 3 [6, 8]
  simp only [World.size_alloc] at nl
  go_wp2_with fail
  refine (ints_any f2 g2 [6, 8] (some ⟨v1.heap.size + 1, 0, none⟩) 2 [6, 8] (by simp) _ _ hY.ints nl.ints).mono ?_
  rintro e v2 ⟨rfl, hB⟩
  replace hb : Hid (Below w.heap.size w v2) := hb.out.trans (hB.mono hb.out.size)
  replace p0 := p0.go hB
  replace p1 := p1.go hB
  replace hY := hY.go hB
  replace p0_0 := p0.c0
  replace p0_1 := p0.c1
  replace p0_2 := p0.c2
  replace p1_0 := p1.c0
  replace p1_1 := p1.c1
  replace p1_2 := p1.c2
  clear hB
  clear nl hY
  rw [eqB_true rfl]
  go_wp2_with fail
  go_ret
  exact ⟨rfl, hb.out⟩
set_option maxRecDepth 100000 in
set_option maxHeartbeats 8000000 in
theorem spreads_no0 (H2 : C2) (f : Int) (hf : In64 f) (c0 : Bool) (sa0 : Option Addr) (sc0 : Nat) (sz0 : List Int) (da0 : Option Addr) (dc0 : Nat) (dz0 : List Int) (c1 : Bool) (sa1 : Option Addr) (sc1 : Nat) (sz1 : List Int) (da1 : Option Addr) (dc1 : Nat) (dz1 : List Int) (w : World) (w0 : IsArr w sa0 sz0 da0 dz0) (w1 : IsArr w sa1 sz1 da1 dz1) (hl : Hid (sz0.length = 0)) (F0 : Hid (flawE c0 sz0 dz0 ≠ 0)) :
    Calls Try.prog 4 #[.int .i64 f, .agg #[.bool c0, .slice sa0 sz0.length sc0, .slice da0 dz0.length dc0], .agg #[.bool c1, .slice sa1 sz1.length sc1, .slice da1 dz1.length dc1]] w fun e w' => e = .returned (.bool true) ∧ Below w.heap.size w w' := by
  have tl : ((sz0.length : Int) != 0) = false := by rw [hl.out]; rfl
  obtain ⟨x1, x2, x3, x4, _, T0⟩ := w0
  obtain ⟨y1, y2, y3, y4, _, T1⟩ := w1
  have HI : Hid ((IsInts w.heap.size w sa0 sz0 ∧ IsInts w.heap.size w da0 dz0 ∧ ∀ j, In64 (nth dz0 j)) ∧ (IsInts w.heap.size w sa1 sz1 ∧ IsInts w.heap.size w da1 dz1 ∧ ∀ j, In64 (nth dz1 j))) := ⟨⟨x3, x4, T0⟩, y3, y4, T1⟩
  clear x3 x4 y3 y4 T0 T1
  have p0 : Abx ((w.alloc (.cells #[.bool c0, .slice sa0 sz0.length sc0, .slice da0 dz0.length dc0] 25)).alloc (.cells #[.bool c1, .slice sa1 sz1.length sc1, .slice da1 dz1.length dc1] 25)) w.heap.size (.bool c0) (.slice sa0 sz0.length sc0) (.slice da0 dz0.length dc0) := (Abx.new w _ _ _).al _
  have p1 : Abx ((w.alloc (.cells #[.bool c0, .slice sa0 sz0.length sc0, .slice da0 dz0.length dc0] 25)).alloc (.cells #[.bool c1, .slice sa1 sz1.length sc1, .slice da1 dz1.length dc1] 25)) (w.heap.size + 1) (.bool c1) (.slice sa1 sz1.length sc1) (.slice da1 dz1.length dc1) := Abx.new1 w _ _ _ _
  have hs : ((w.alloc (.cells #[.bool c0, .slice sa0 sz0.length sc0, .slice da0 dz0.length dc0] 25)).alloc (.cells #[.bool c1, .slice sa1 sz1.length sc1, .slice da1 dz1.length dc1] 25)).heap.size = w.heap.size + 1 + 1 := by simp
  have hb : Hid (Below w.heap.size w ((w.alloc (.cells #[.bool c0, .slice sa0 sz0.length sc0, .slice da0 dz0.length dc0] 25)).alloc (.cells #[.bool c1, .slice sa1 sz1.length sc1, .slice da1 dz1.length dc1] 25))) := ((Below.refl _ w).alloc (Nat.le_refl _) _).alloc (by simp) _
  obtain ⟨u, hu⟩ : ∃ u, u = ((w.alloc (.cells #[.bool c0, .slice sa0 sz0.length sc0, .slice da0 dz0.length dc0] 25)).alloc (.cells #[.bool c1, .slice sa1 sz1.length sc1, .slice da1 dz1.length dc1] 25)) := ⟨_, rfl⟩
  rw [← hu] at p0 p1 hs hb
  have n0 : NewInts u.heap.size (((u.alloc (.cells #[.int .i64 1] 3)).alloc (.cells #[.int .i64 2] 3)).alloc (.cells #[.int .i64 5, .int .i64 7] 3)) (some ⟨u.heap.size, 0, none⟩) [1] := (((new_lit u 3 [1]).al (.cells #[.int .i64 2] 3)).al (.cells #[.int .i64 5, .int .i64 7] 3))
  have n1 : NewInts (u.alloc (.cells #[.int .i64 1] 3)).heap.size (((u.alloc (.cells #[.int .i64 1] 3)).alloc (.cells #[.int .i64 2] 3)).alloc (.cells #[.int .i64 5, .int .i64 7] 3)) (some ⟨(u.alloc (.cells #[.int .i64 1] 3)).heap.size, 0, none⟩) [2] := ((new_lit (u.alloc (.cells #[.int .i64 1] 3)) 3 [2]).al (.cells #[.int .i64 5, .int .i64 7] 3))
  have n2 : NewInts ((u.alloc (.cells #[.int .i64 1] 3)).alloc (.cells #[.int .i64 2] 3)).heap.size (((u.alloc (.cells #[.int .i64 1] 3)).alloc (.cells #[.int .i64 2] 3)).alloc (.cells #[.int .i64 5, .int .i64 7] 3)) (some ⟨((u.alloc (.cells #[.int .i64 1] 3)).alloc (.cells #[.int .i64 2] 3)).heap.size, 0, none⟩) [5, 7] := (new_lit ((u.alloc (.cells #[.int .i64 1] 3)).alloc (.cells #[.int .i64 2] 3)) 3 [5, 7])
  simp only [World.size_alloc, hs] at n0 n1 n2
  have HN : Hid (IsInts (((u.alloc (.cells #[.int .i64 1] 3)).alloc (.cells #[.int .i64 2] 3)).alloc (.cells #[.int .i64 5, .int .i64 7] 3)).heap.size (((u.alloc (.cells #[.int .i64 1] 3)).alloc (.cells #[.int .i64 2] 3)).alloc (.cells #[.int .i64 5, .int .i64 7] 3)) (some ⟨w.heap.size + 1 + 1, 0, none⟩) [1] ∧ IsInts (((u.alloc (.cells #[.int .i64 1] 3)).alloc (.cells #[.int .i64 2] 3)).alloc (.cells #[.int .i64 5, .int .i64 7] 3)).heap.size (((u.alloc (.cells #[.int .i64 1] 3)).alloc (.cells #[.int .i64 2] 3)).alloc (.cells #[.int .i64 5, .int .i64 7] 3)) (some ⟨w.heap.size + 1 + 1 + 1, 0, none⟩) [2] ∧ IsInts (((u.alloc (.cells #[.int .i64 1] 3)).alloc (.cells #[.int .i64 2] 3)).alloc (.cells #[.int .i64 5, .int .i64 7] 3)).heap.size (((u.alloc (.cells #[.int .i64 1] 3)).alloc (.cells #[.int .i64 2] 3)).alloc (.cells #[.int .i64 5, .int .i64 7] 3)) (some ⟨w.heap.size + 1 + 1 + 1 + 1, 0, none⟩) [5, 7]) := ⟨n0.ints, n1.ints, n2.ints⟩
  replace hb : Hid (Below w.heap.size w (((u.alloc (.cells #[.int .i64 1] 3)).alloc (.cells #[.int .i64 2] 3)).alloc (.cells #[.int .i64 5, .int .i64 7] 3))) := (((hb.out.alloc (by omega) _).alloc (by simp; omega) _).alloc (by simp; omega) _)
  replace p0 := (((p0.al (.cells #[.int .i64 1] 3)).al (.cells #[.int .i64 2] 3)).al (.cells #[.int .i64 5, .int .i64 7] 3))
  replace p1 := (((p1.al (.cells #[.int .i64 1] 3)).al (.cells #[.int .i64 2] 3)).al (.cells #[.int .i64 5, .int .i64 7] 3))
  clear n0 n1 n2 hs
  subst hu
  go_enter Try.func4, Try.ntmps4
  go_wp2_with fail
  refine (c2_ok H2 1 false none 0 [] (some ⟨w.heap.size + 1 + 1, 0, none⟩) 1 [1] false (some ⟨w.heap.size + 1 + 1 + 1, 0, none⟩) 1 [2] (some ⟨w.heap.size + 1 + 1 + 1 + 1, 0, none⟩) 2 [5, 7] _ (by unfold In64; decide) (by simp) (by simp) (by simp) (by simp) (.inl rfl) HN.out.1 HN.out.2.1 HN.out.2.2 (lit_all (by decide)) (lit_all (by decide)) (by decide)).mono ?_
  rintro e v1 ⟨f1, g1, f2, g2, he, _, hY, hB⟩
  replace hb : Hid (Below w.heap.size w v1) := hb.out.trans (hB.mono hb.out.size)
  replace p0 := p0.go hB
  replace p1 := p1.go hB
  clear hB
  clear HN
  rw [fact_v, show shp [] [2] = [2] by decide] at he
  rw [fact_v] at hY
  subst he
  have p0_0 := p0.c0
  have p0_1 := p0.c1
  have p0_2 := p0.c2
  have p1_0 := p1.c0
  have p1_1 := p1.c1
  have p1_2 := p1.c2
  replace hb : Hid (Below w.heap.size w (v1.alloc (.cells #[.bool false, .slice f1 1 g1, .slice f2 2 g2] 25))) := hb.out.alloc hb.out.size _
  replace p0 := p0.al (.cells #[.bool false, .slice f1 1 g1, .slice f2 2 g2] 25)
  replace p1 := p1.al (.cells #[.bool false, .slice f1 1 g1, .slice f2 2 g2] 25)
  replace hY := hY.al (.cells #[.bool false, .slice f1 1 g1, .slice f2 2 g2] 25)
  replace p0_0 := p0.c0
  replace p0_1 := p0.c1
  replace p0_2 := p0.c2
  replace p1_0 := p1.c0
  replace p1_1 := p1.c1
  replace p1_2 := p1.c2
  replace hb : Hid (Below w.heap.size w ((v1.alloc (.cells #[.bool false, .slice f1 1 g1, .slice f2 2 g2] 25)).alloc (.cells #[.int .i64 6, .int .i64 8] 3))) := hb.out.alloc hb.out.size _
  replace p0 := p0.al (.cells #[.int .i64 6, .int .i64 8] 3)
  replace p1 := p1.al (.cells #[.int .i64 6, .int .i64 8] 3)
  replace hY := hY.al (.cells #[.int .i64 6, .int .i64 8] 3)
  replace p0_0 := p0.c0
  replace p0_1 := p0.c1
  replace p0_2 := p0.c2
  replace p1_0 := p1.c0
  replace p1_1 := p1.c1
  replace p1_2 := p1.c2
  have nl := new_lit (v1.alloc (.cells #[.bool false, .slice f1 1 g1, .slice f2 2 g2] 25)) 3 [6, 8]
  simp only [World.size_alloc] at nl
  go_wp2_with fail
  refine (ints_any f2 g2 [6, 8] (some ⟨v1.heap.size + 1, 0, none⟩) 2 [6, 8] (by simp) _ _ hY.ints nl.ints).mono ?_
  rintro e v2 ⟨rfl, hB⟩
  replace hb : Hid (Below w.heap.size w v2) := hb.out.trans (hB.mono hb.out.size)
  replace p0 := p0.go hB
  replace p1 := p1.go hB
  replace hY := hY.go hB
  replace p0_0 := p0.c0
  replace p0_1 := p0.c1
  replace p0_2 := p0.c2
  replace p1_0 := p1.c0
  replace p1_1 := p1.c1
  replace p1_2 := p1.c2
  clear hB
  clear nl hY
  rw [eqB_true rfl]
  go_wp2_with fail
  refine (check_no c0 sa0 sc0 sz0 da0 dc0 dz0 x1 x2 _ ((HI.out.1.1.below hb.out).mono hb.out.size) ((HI.out.1.2.1.below hb.out).mono hb.out.size) F0.out).mono ?_
  rintro e v3 ⟨rfl, hB⟩
  replace hb : Hid (Below w.heap.size w v3) := hb.out.trans (hB.mono hb.out.size)
  replace p0 := p0.go hB
  replace p1 := p1.go hB
  replace p0_0 := p0.c0
  replace p0_1 := p0.c1
  replace p0_2 := p0.c2
  replace p1_0 := p1.c0
  replace p1_1 := p1.c1
  replace p1_2 := p1.c2
  clear hB
  go_wp2_with fail
  go_ret
  exact ⟨rfl, hb.out⟩
set_option maxRecDepth 100000 in
set_option maxHeartbeats 8000000 in
theorem spreads_no1 (H2 : C2) (f : Int) (hf : In64 f) (c0 : Bool) (sa0 : Option Addr) (sc0 : Nat) (sz0 : List Int) (da0 : Option Addr) (dc0 : Nat) (dz0 : List Int) (c1 : Bool) (sa1 : Option Addr) (sc1 : Nat) (sz1 : List Int) (da1 : Option Addr) (dc1 : Nat) (dz1 : List Int) (w : World) (w0 : IsArr w sa0 sz0 da0 dz0) (w1 : IsArr w sa1 sz1 da1 dz1) (hl : Hid (sz0.length = 0)) (F0 : Hid (flawE c0 sz0 dz0 = 0)) (F1 : Hid (flawE c1 sz1 dz1 ≠ 0)) :
    Calls Try.prog 4 #[.int .i64 f, .agg #[.bool c0, .slice sa0 sz0.length sc0, .slice da0 dz0.length dc0], .agg #[.bool c1, .slice sa1 sz1.length sc1, .slice da1 dz1.length dc1]] w fun e w' => e = .returned (.bool true) ∧ Below w.heap.size w w' := by
  have tl : ((sz0.length : Int) != 0) = false := by rw [hl.out]; rfl
  obtain ⟨x1, x2, x3, x4, _, T0⟩ := w0
  obtain ⟨y1, y2, y3, y4, _, T1⟩ := w1
  have HI : Hid ((IsInts w.heap.size w sa0 sz0 ∧ IsInts w.heap.size w da0 dz0 ∧ ∀ j, In64 (nth dz0 j)) ∧ (IsInts w.heap.size w sa1 sz1 ∧ IsInts w.heap.size w da1 dz1 ∧ ∀ j, In64 (nth dz1 j))) := ⟨⟨x3, x4, T0⟩, y3, y4, T1⟩
  clear x3 x4 y3 y4 T0 T1
  have p0 : Abx ((w.alloc (.cells #[.bool c0, .slice sa0 sz0.length sc0, .slice da0 dz0.length dc0] 25)).alloc (.cells #[.bool c1, .slice sa1 sz1.length sc1, .slice da1 dz1.length dc1] 25)) w.heap.size (.bool c0) (.slice sa0 sz0.length sc0) (.slice da0 dz0.length dc0) := (Abx.new w _ _ _).al _
  have p1 : Abx ((w.alloc (.cells #[.bool c0, .slice sa0 sz0.length sc0, .slice da0 dz0.length dc0] 25)).alloc (.cells #[.bool c1, .slice sa1 sz1.length sc1, .slice da1 dz1.length dc1] 25)) (w.heap.size + 1) (.bool c1) (.slice sa1 sz1.length sc1) (.slice da1 dz1.length dc1) := Abx.new1 w _ _ _ _
  have hs : ((w.alloc (.cells #[.bool c0, .slice sa0 sz0.length sc0, .slice da0 dz0.length dc0] 25)).alloc (.cells #[.bool c1, .slice sa1 sz1.length sc1, .slice da1 dz1.length dc1] 25)).heap.size = w.heap.size + 1 + 1 := by simp
  have hb : Hid (Below w.heap.size w ((w.alloc (.cells #[.bool c0, .slice sa0 sz0.length sc0, .slice da0 dz0.length dc0] 25)).alloc (.cells #[.bool c1, .slice sa1 sz1.length sc1, .slice da1 dz1.length dc1] 25))) := ((Below.refl _ w).alloc (Nat.le_refl _) _).alloc (by simp) _
  obtain ⟨u, hu⟩ : ∃ u, u = ((w.alloc (.cells #[.bool c0, .slice sa0 sz0.length sc0, .slice da0 dz0.length dc0] 25)).alloc (.cells #[.bool c1, .slice sa1 sz1.length sc1, .slice da1 dz1.length dc1] 25)) := ⟨_, rfl⟩
  rw [← hu] at p0 p1 hs hb
  have n0 : NewInts u.heap.size (((u.alloc (.cells #[.int .i64 1] 3)).alloc (.cells #[.int .i64 2] 3)).alloc (.cells #[.int .i64 5, .int .i64 7] 3)) (some ⟨u.heap.size, 0, none⟩) [1] := (((new_lit u 3 [1]).al (.cells #[.int .i64 2] 3)).al (.cells #[.int .i64 5, .int .i64 7] 3))
  have n1 : NewInts (u.alloc (.cells #[.int .i64 1] 3)).heap.size (((u.alloc (.cells #[.int .i64 1] 3)).alloc (.cells #[.int .i64 2] 3)).alloc (.cells #[.int .i64 5, .int .i64 7] 3)) (some ⟨(u.alloc (.cells #[.int .i64 1] 3)).heap.size, 0, none⟩) [2] := ((new_lit (u.alloc (.cells #[.int .i64 1] 3)) 3 [2]).al (.cells #[.int .i64 5, .int .i64 7] 3))
  have n2 : NewInts ((u.alloc (.cells #[.int .i64 1] 3)).alloc (.cells #[.int .i64 2] 3)).heap.size (((u.alloc (.cells #[.int .i64 1] 3)).alloc (.cells #[.int .i64 2] 3)).alloc (.cells #[.int .i64 5, .int .i64 7] 3)) (some ⟨((u.alloc (.cells #[.int .i64 1] 3)).alloc (.cells #[.int .i64 2] 3)).heap.size, 0, none⟩) [5, 7] := (new_lit ((u.alloc (.cells #[.int .i64 1] 3)).alloc (.cells #[.int .i64 2] 3)) 3 [5, 7])
  simp only [World.size_alloc, hs] at n0 n1 n2
  have HN : Hid (IsInts (((u.alloc (.cells #[.int .i64 1] 3)).alloc (.cells #[.int .i64 2] 3)).alloc (.cells #[.int .i64 5, .int .i64 7] 3)).heap.size (((u.alloc (.cells #[.int .i64 1] 3)).alloc (.cells #[.int .i64 2] 3)).alloc (.cells #[.int .i64 5, .int .i64 7] 3)) (some ⟨w.heap.size + 1 + 1, 0, none⟩) [1] ∧ IsInts (((u.alloc (.cells #[.int .i64 1] 3)).alloc (.cells #[.int .i64 2] 3)).alloc (.cells #[.int .i64 5, .int .i64 7] 3)).heap.size (((u.alloc (.cells #[.int .i64 1] 3)).alloc (.cells #[.int .i64 2] 3)).alloc (.cells #[.int .i64 5, .int .i64 7] 3)) (some ⟨w.heap.size + 1 + 1 + 1, 0, none⟩) [2] ∧ IsInts (((u.alloc (.cells #[.int .i64 1] 3)).alloc (.cells #[.int .i64 2] 3)).alloc (.cells #[.int .i64 5, .int .i64 7] 3)).heap.size (((u.alloc (.cells #[.int .i64 1] 3)).alloc (.cells #[.int .i64 2] 3)).alloc (.cells #[.int .i64 5, .int .i64 7] 3)) (some ⟨w.heap.size + 1 + 1 + 1 + 1, 0, none⟩) [5, 7]) := ⟨n0.ints, n1.ints, n2.ints⟩
  replace hb : Hid (Below w.heap.size w (((u.alloc (.cells #[.int .i64 1] 3)).alloc (.cells #[.int .i64 2] 3)).alloc (.cells #[.int .i64 5, .int .i64 7] 3))) := (((hb.out.alloc (by omega) _).alloc (by simp; omega) _).alloc (by simp; omega) _)
  replace p0 := (((p0.al (.cells #[.int .i64 1] 3)).al (.cells #[.int .i64 2] 3)).al (.cells #[.int .i64 5, .int .i64 7] 3))
  replace p1 := (((p1.al (.cells #[.int .i64 1] 3)).al (.cells #[.int .i64 2] 3)).al (.cells #[.int .i64 5, .int .i64 7] 3))
  clear n0 n1 n2 hs
  subst hu
  go_enter Try.func4, Try.ntmps4
  go_wp2_with fail
  refine (c2_ok H2 1 false none 0 [] (some ⟨w.heap.size + 1 + 1, 0, none⟩) 1 [1] false (some ⟨w.heap.size + 1 + 1 + 1, 0, none⟩) 1 [2] (some ⟨w.heap.size + 1 + 1 + 1 + 1, 0, none⟩) 2 [5, 7] _ (by unfold In64; decide) (by simp) (by simp) (by simp) (by simp) (.inl rfl) HN.out.1 HN.out.2.1 HN.out.2.2 (lit_all (by decide)) (lit_all (by decide)) (by decide)).mono ?_
  rintro e v1 ⟨f1, g1, f2, g2, he, _, hY, hB⟩
  replace hb : Hid (Below w.heap.size w v1) := hb.out.trans (hB.mono hb.out.size)
  replace p0 := p0.go hB
  replace p1 := p1.go hB
  clear hB
  clear HN
  rw [fact_v, show shp [] [2] = [2] by decide] at he
  rw [fact_v] at hY
  subst he
  have p0_0 := p0.c0
  have p0_1 := p0.c1
  have p0_2 := p0.c2
  have p1_0 := p1.c0
  have p1_1 := p1.c1
  have p1_2 := p1.c2
  replace hb : Hid (Below w.heap.size w (v1.alloc (.cells #[.bool false, .slice f1 1 g1, .slice f2 2 g2] 25))) := hb.out.alloc hb.out.size _
  replace p0 := p0.al (.cells #[.bool false, .slice f1 1 g1, .slice f2 2 g2] 25)
  replace p1 := p1.al (.cells #[.bool false, .slice f1 1 g1, .slice f2 2 g2] 25)
  replace hY := hY.al (.cells #[.bool false, .slice f1 1 g1, .slice f2 2 g2] 25)
  replace p0_0 := p0.c0
  replace p0_1 := p0.c1
  replace p0_2 := p0.c2
  replace p1_0 := p1.c0
  replace p1_1 := p1.c1
  replace p1_2 := p1.c2
  replace hb : Hid (Below w.heap.size w ((v1.alloc (.cells #[.bool false, .slice f1 1 g1, .slice f2 2 g2] 25)).alloc (.cells #[.int .i64 6, .int .i64 8] 3))) := hb.out.alloc hb.out.size _
  replace p0 := p0.al (.cells #[.int .i64 6, .int .i64 8] 3)
  replace p1 := p1.al (.cells #[.int .i64 6, .int .i64 8] 3)
  replace hY := hY.al (.cells #[.int .i64 6, .int .i64 8] 3)
  replace p0_0 := p0.c0
  replace p0_1 := p0.c1
  replace p0_2 := p0.c2
  replace p1_0 := p1.c0
  replace p1_1 := p1.c1
  replace p1_2 := p1.c2
  have nl := new_lit (v1.alloc (.cells #[.bool false, .slice f1 1 g1, .slice f2 2 g2] 25)) 3 [6, 8]
  simp only [World.size_alloc] at nl
  go_wp2_with fail
  refine (ints_any f2 g2 [6, 8] (some ⟨v1.heap.size + 1, 0, none⟩) 2 [6, 8] (by simp) _ _ hY.ints nl.ints).mono ?_
  rintro e v2 ⟨rfl, hB⟩
  replace hb : Hid (Below w.heap.size w v2) := hb.out.trans (hB.mono hb.out.size)
  replace p0 := p0.go hB
  replace p1 := p1.go hB
  replace hY := hY.go hB
  replace p0_0 := p0.c0
  replace p0_1 := p0.c1
  replace p0_2 := p0.c2
  replace p1_0 := p1.c0
  replace p1_1 := p1.c1
  replace p1_2 := p1.c2
  clear hB
  clear nl hY
  rw [eqB_true rfl]
  go_wp2_with fail
  refine (check_ok c0 sa0 sc0 sz0 da0 dc0 dz0 x1 x2 _ ((HI.out.1.1.below hb.out).mono hb.out.size) ((HI.out.1.2.1.below hb.out).mono hb.out.size) F0.out).mono ?_
  rintro e v3 ⟨rfl, hB⟩
  replace hb : Hid (Below w.heap.size w v3) := hb.out.trans (hB.mono hb.out.size)
  replace p0 := p0.go hB
  replace p1 := p1.go hB
  replace p0_0 := p0.c0
  replace p0_1 := p0.c1
  replace p0_2 := p0.c2
  replace p1_0 := p1.c0
  replace p1_1 := p1.c1
  replace p1_2 := p1.c2
  clear hB
  go_wp2_with fail
  refine (check_no c1 sa1 sc1 sz1 da1 dc1 dz1 y1 y2 _ ((HI.out.2.1.below hb.out).mono hb.out.size) ((HI.out.2.2.1.below hb.out).mono hb.out.size) F1.out).mono ?_
  rintro e v4 ⟨rfl, hB⟩
  replace hb : Hid (Below w.heap.size w v4) := hb.out.trans (hB.mono hb.out.size)
  replace p0 := p0.go hB
  replace p1 := p1.go hB
  replace p0_0 := p0.c0
  replace p0_1 := p0.c1
  replace p0_2 := p0.c2
  replace p1_0 := p1.c0
  replace p1_1 := p1.c1
  replace p1_2 := p1.c2
  clear hB
  go_wp2_with fail
  go_ret
  exact ⟨rfl, hb.out⟩
theorem sp_l {f : Int} {c0 : Bool} {sz0 dz0 : List Int} {c1 : Bool} {sz1 dz1 : List Int} (hl : sz0.length = 0) (F0 : flawE c0 sz0 dz0 = 0) (F1 : flawE c1 sz1 dz1 = 0) : alB false (e2S f c0 sz0 dz0 c1 sz1 dz1) (e2D f c0 sz0 dz0 c1 sz1 dz1) (e2E f c0 sz0 dz0 c1 sz1 dz1) false (e2S f c0 sz1 (cyc dz0 dz1.length (fillE c0)) c1 sz1 dz1) (e2D f c0 sz1 (cyc dz0 dz1.length (fillE c0)) c1 sz1 dz1) (e2E f c0 sz1 (cyc dz0 dz1.length (fillE c0)) c1 sz1 dz1) = true := by
  obtain rfl := List.eq_nil_of_length_eq_zero hl
  obtain ⟨x, rfl⟩ := flaw_one F0
  exact spread_l F0 F1
theorem sp_r {f : Int} {c0 : Bool} {sz0 dz0 : List Int} {c1 : Bool} {sz1 dz1 : List Int} (hl : sz0.length = 0) (F0 : flawE c0 sz0 dz0 = 0) (F1 : flawE c1 sz1 dz1 = 0) : alB false (e2S f c1 sz1 dz1 c0 sz0 dz0) (e2D f c1 sz1 dz1 c0 sz0 dz0) (e2E f c1 sz1 dz1 c0 sz0 dz0) false (e2S f c1 sz1 dz1 c0 sz1 (cyc dz0 dz1.length (fillE c0))) (e2D f c1 sz1 dz1 c0 sz1 (cyc dz0 dz1.length (fillE c0))) (e2E f c1 sz1 dz1 c0 sz1 (cyc dz0 dz1.length (fillE c0))) = true := by
  obtain rfl := List.eq_nil_of_length_eq_zero hl
  obtain ⟨x, rfl⟩ := flaw_one F0
  exact spread_r F0 F1
theorem sp_some {c0 : Bool} {sz0 dz0 : List Int} (hl : sz0.length = 0) (F0 : flawE c0 sz0 dz0 = 0) : dz0.length ≠ 0 := by
  obtain rfl := List.eq_nil_of_length_eq_zero hl
  obtain ⟨x, rfl⟩ := flaw_one F0
  simp
set_option maxRecDepth 100000 in
set_option maxHeartbeats 8000000 in
theorem spreads_ok (H2 : C2) (f : Int) (hf : In64 f) (c0 : Bool) (sa0 : Option Addr) (sc0 : Nat) (sz0 : List Int) (da0 : Option Addr) (dc0 : Nat) (dz0 : List Int) (c1 : Bool) (sa1 : Option Addr) (sc1 : Nat) (sz1 : List Int) (da1 : Option Addr) (dc1 : Nat) (dz1 : List Int) (w : World) (w0 : IsArr w sa0 sz0 da0 dz0) (w1 : IsArr w sa1 sz1 da1 dz1) (hl : Hid (sz0.length = 0)) (F0 : Hid (flawE c0 sz0 dz0 = 0)) (F1 : Hid (flawE c1 sz1 dz1 = 0)) (L0 : Hid (dz0.length ≠ 0)) :
    Calls Try.prog 4 #[.int .i64 f, .agg #[.bool c0, .slice sa0 sz0.length sc0, .slice da0 dz0.length dc0], .agg #[.bool c1, .slice sa1 sz1.length sc1, .slice da1 dz1.length dc1]] w fun e w' => e = .returned (.bool true) ∧ Below w.heap.size w w' := by
  have tl : ((sz0.length : Int) != 0) = false := by rw [hl.out]; rfl
  obtain ⟨x1, x2, x3, x4, _, T0⟩ := w0
  obtain ⟨y1, y2, y3, y4, _, T1⟩ := w1
  have HI : Hid ((IsInts w.heap.size w sa0 sz0 ∧ IsInts w.heap.size w da0 dz0 ∧ ∀ j, In64 (nth dz0 j)) ∧ (IsInts w.heap.size w sa1 sz1 ∧ IsInts w.heap.size w da1 dz1 ∧ ∀ j, In64 (nth dz1 j))) := ⟨⟨x3, x4, T0⟩, y3, y4, T1⟩
  clear x3 x4 y3 y4 T0 T1
  have p0 : Abx ((w.alloc (.cells #[.bool c0, .slice sa0 sz0.length sc0, .slice da0 dz0.length dc0] 25)).alloc (.cells #[.bool c1, .slice sa1 sz1.length sc1, .slice da1 dz1.length dc1] 25)) w.heap.size (.bool c0) (.slice sa0 sz0.length sc0) (.slice da0 dz0.length dc0) := (Abx.new w _ _ _).al _
  have p1 : Abx ((w.alloc (.cells #[.bool c0, .slice sa0 sz0.length sc0, .slice da0 dz0.length dc0] 25)).alloc (.cells #[.bool c1, .slice sa1 sz1.length sc1, .slice da1 dz1.length dc1] 25)) (w.heap.size + 1) (.bool c1) (.slice sa1 sz1.length sc1) (.slice da1 dz1.length dc1) := Abx.new1 w _ _ _ _
  have hs : ((w.alloc (.cells #[.bool c0, .slice sa0 sz0.length sc0, .slice da0 dz0.length dc0] 25)).alloc (.cells #[.bool c1, .slice sa1 sz1.length sc1, .slice da1 dz1.length dc1] 25)).heap.size = w.heap.size + 1 + 1 := by simp
  have hb : Hid (Below w.heap.size w ((w.alloc (.cells #[.bool c0, .slice sa0 sz0.length sc0, .slice da0 dz0.length dc0] 25)).alloc (.cells #[.bool c1, .slice sa1 sz1.length sc1, .slice da1 dz1.length dc1] 25))) := ((Below.refl _ w).alloc (Nat.le_refl _) _).alloc (by simp) _
  obtain ⟨u, hu⟩ : ∃ u, u = ((w.alloc (.cells #[.bool c0, .slice sa0 sz0.length sc0, .slice da0 dz0.length dc0] 25)).alloc (.cells #[.bool c1, .slice sa1 sz1.length sc1, .slice da1 dz1.length dc1] 25)) := ⟨_, rfl⟩
  rw [← hu] at p0 p1 hs hb
  have n0 : NewInts u.heap.size (((u.alloc (.cells #[.int .i64 1] 3)).alloc (.cells #[.int .i64 2] 3)).alloc (.cells #[.int .i64 5, .int .i64 7] 3)) (some ⟨u.heap.size, 0, none⟩) [1] := (((new_lit u 3 [1]).al (.cells #[.int .i64 2] 3)).al (.cells #[.int .i64 5, .int .i64 7] 3))
  have n1 : NewInts (u.alloc (.cells #[.int .i64 1] 3)).heap.size (((u.alloc (.cells #[.int .i64 1] 3)).alloc (.cells #[.int .i64 2] 3)).alloc (.cells #[.int .i64 5, .int .i64 7] 3)) (some ⟨(u.alloc (.cells #[.int .i64 1] 3)).heap.size, 0, none⟩) [2] := ((new_lit (u.alloc (.cells #[.int .i64 1] 3)) 3 [2]).al (.cells #[.int .i64 5, .int .i64 7] 3))
  have n2 : NewInts ((u.alloc (.cells #[.int .i64 1] 3)).alloc (.cells #[.int .i64 2] 3)).heap.size (((u.alloc (.cells #[.int .i64 1] 3)).alloc (.cells #[.int .i64 2] 3)).alloc (.cells #[.int .i64 5, .int .i64 7] 3)) (some ⟨((u.alloc (.cells #[.int .i64 1] 3)).alloc (.cells #[.int .i64 2] 3)).heap.size, 0, none⟩) [5, 7] := (new_lit ((u.alloc (.cells #[.int .i64 1] 3)).alloc (.cells #[.int .i64 2] 3)) 3 [5, 7])
  simp only [World.size_alloc, hs] at n0 n1 n2
  have HN : Hid (IsInts (((u.alloc (.cells #[.int .i64 1] 3)).alloc (.cells #[.int .i64 2] 3)).alloc (.cells #[.int .i64 5, .int .i64 7] 3)).heap.size (((u.alloc (.cells #[.int .i64 1] 3)).alloc (.cells #[.int .i64 2] 3)).alloc (.cells #[.int .i64 5, .int .i64 7] 3)) (some ⟨w.heap.size + 1 + 1, 0, none⟩) [1] ∧ IsInts (((u.alloc (.cells #[.int .i64 1] 3)).alloc (.cells #[.int .i64 2] 3)).alloc (.cells #[.int .i64 5, .int .i64 7] 3)).heap.size (((u.alloc (.cells #[.int .i64 1] 3)).alloc (.cells #[.int .i64 2] 3)).alloc (.cells #[.int .i64 5, .int .i64 7] 3)) (some ⟨w.heap.size + 1 + 1 + 1, 0, none⟩) [2] ∧ IsInts (((u.alloc (.cells #[.int .i64 1] 3)).alloc (.cells #[.int .i64 2] 3)).alloc (.cells #[.int .i64 5, .int .i64 7] 3)).heap.size (((u.alloc (.cells #[.int .i64 1] 3)).alloc (.cells #[.int .i64 2] 3)).alloc (.cells #[.int .i64 5, .int .i64 7] 3)) (some ⟨w.heap.size + 1 + 1 + 1 + 1, 0, none⟩) [5, 7]) := ⟨n0.ints, n1.ints, n2.ints⟩
  replace hb : Hid (Below w.heap.size w (((u.alloc (.cells #[.int .i64 1] 3)).alloc (.cells #[.int .i64 2] 3)).alloc (.cells #[.int .i64 5, .int .i64 7] 3))) := (((hb.out.alloc (by omega) _).alloc (by simp; omega) _).alloc (by simp; omega) _)
  replace p0 := (((p0.al (.cells #[.int .i64 1] 3)).al (.cells #[.int .i64 2] 3)).al (.cells #[.int .i64 5, .int .i64 7] 3))
  replace p1 := (((p1.al (.cells #[.int .i64 1] 3)).al (.cells #[.int .i64 2] 3)).al (.cells #[.int .i64 5, .int .i64 7] 3))
  clear n0 n1 n2 hs
  subst hu
  go_enter Try.func4, Try.ntmps4
  go_wp2_with fail
  refine (c2_ok H2 1 false none 0 [] (some ⟨w.heap.size + 1 + 1, 0, none⟩) 1 [1] false (some ⟨w.heap.size + 1 + 1 + 1, 0, none⟩) 1 [2] (some ⟨w.heap.size + 1 + 1 + 1 + 1, 0, none⟩) 2 [5, 7] _ (by unfold In64; decide) (by simp) (by simp) (by simp) (by simp) (.inl rfl) HN.out.1 HN.out.2.1 HN.out.2.2 (lit_all (by decide)) (lit_all (by decide)) (by decide)).mono ?_
  rintro e v1 ⟨f1, g1, f2, g2, he, _, hY, hB⟩
  replace hb : Hid (Below w.heap.size w v1) := hb.out.trans (hB.mono hb.out.size)
  replace p0 := p0.go hB
  replace p1 := p1.go hB
  clear hB
  clear HN
  rw [fact_v, show shp [] [2] = [2] by decide] at he
  rw [fact_v] at hY
  subst he
  have p0_0 := p0.c0
  have p0_1 := p0.c1
  have p0_2 := p0.c2
  have p1_0 := p1.c0
  have p1_1 := p1.c1
  have p1_2 := p1.c2
  replace hb : Hid (Below w.heap.size w (v1.alloc (.cells #[.bool false, .slice f1 1 g1, .slice f2 2 g2] 25))) := hb.out.alloc hb.out.size _
  replace p0 := p0.al (.cells #[.bool false, .slice f1 1 g1, .slice f2 2 g2] 25)
  replace p1 := p1.al (.cells #[.bool false, .slice f1 1 g1, .slice f2 2 g2] 25)
  replace hY := hY.al (.cells #[.bool false, .slice f1 1 g1, .slice f2 2 g2] 25)
  replace p0_0 := p0.c0
  replace p0_1 := p0.c1
  replace p0_2 := p0.c2
  replace p1_0 := p1.c0
  replace p1_1 := p1.c1
  replace p1_2 := p1.c2
  replace hb : Hid (Below w.heap.size w ((v1.alloc (.cells #[.bool false, .slice f1 1 g1, .slice f2 2 g2] 25)).alloc (.cells #[.int .i64 6, .int .i64 8] 3))) := hb.out.alloc hb.out.size _
  replace p0 := p0.al (.cells #[.int .i64 6, .int .i64 8] 3)
  replace p1 := p1.al (.cells #[.int .i64 6, .int .i64 8] 3)
  replace hY := hY.al (.cells #[.int .i64 6, .int .i64 8] 3)
  replace p0_0 := p0.c0
  replace p0_1 := p0.c1
  replace p0_2 := p0.c2
  replace p1_0 := p1.c0
  replace p1_1 := p1.c1
  replace p1_2 := p1.c2
  have nl := new_lit (v1.alloc (.cells #[.bool false, .slice f1 1 g1, .slice f2 2 g2] 25)) 3 [6, 8]
  simp only [World.size_alloc] at nl
  go_wp2_with fail
  refine (ints_any f2 g2 [6, 8] (some ⟨v1.heap.size + 1, 0, none⟩) 2 [6, 8] (by simp) _ _ hY.ints nl.ints).mono ?_
  rintro e v2 ⟨rfl, hB⟩
  replace hb : Hid (Below w.heap.size w v2) := hb.out.trans (hB.mono hb.out.size)
  replace p0 := p0.go hB
  replace p1 := p1.go hB
  replace hY := hY.go hB
  replace p0_0 := p0.c0
  replace p0_1 := p0.c1
  replace p0_2 := p0.c2
  replace p1_0 := p1.c0
  replace p1_1 := p1.c1
  replace p1_2 := p1.c2
  clear hB
  clear nl hY
  rw [eqB_true rfl]
  go_wp2_with fail
  refine (check_ok c0 sa0 sc0 sz0 da0 dc0 dz0 x1 x2 _ ((HI.out.1.1.below hb.out).mono hb.out.size) ((HI.out.1.2.1.below hb.out).mono hb.out.size) F0.out).mono ?_
  rintro e v3 ⟨rfl, hB⟩
  replace hb : Hid (Below w.heap.size w v3) := hb.out.trans (hB.mono hb.out.size)
  replace p0 := p0.go hB
  replace p1 := p1.go hB
  replace p0_0 := p0.c0
  replace p0_1 := p0.c1
  replace p0_2 := p0.c2
  replace p1_0 := p1.c0
  replace p1_1 := p1.c1
  replace p1_2 := p1.c2
  clear hB
  go_wp2_with fail
  refine (check_ok c1 sa1 sc1 sz1 da1 dc1 dz1 y1 y2 _ ((HI.out.2.1.below hb.out).mono hb.out.size) ((HI.out.2.2.1.below hb.out).mono hb.out.size) F1.out).mono ?_
  rintro e v4 ⟨rfl, hB⟩
  replace hb : Hid (Below w.heap.size w v4) := hb.out.trans (hB.mono hb.out.size)
  replace p0 := p0.go hB
  replace p1 := p1.go hB
  replace p0_0 := p0.c0
  replace p0_1 := p0.c1
  replace p0_2 := p0.c2
  replace p1_0 := p1.c0
  replace p1_1 := p1.c1
  replace p1_2 := p1.c2
  clear hB
  go_wp2_with fail
  refine (reshape_ok sa1 sc1 sz1 dz1.length c0 sa0 sc0 sz0 da0 dc0 dz0 y1 x1 x2 _ ((HI.out.2.1.below hb.out).mono hb.out.size) ((HI.out.1.1.below hb.out).mono hb.out.size) ((HI.out.1.2.1.below hb.out).mono hb.out.size) (flawE_zero F1.out).1 (flawE_zero F1.out).2.1 F0.out).mono ?_
  rintro e v5 ⟨xa0, xc0, ya0, yc0, rfl, hX0, hY0, hB⟩
  replace hb : Hid (Below w.heap.size w v5) := hb.out.trans (hB.mono hb.out.size)
  replace p0 := p0.go hB
  replace p1 := p1.go hB
  replace p0_0 := p0.c0
  replace p0_1 := p0.c1
  replace p0_2 := p0.c2
  replace p1_0 := p1.c0
  replace p1_1 := p1.c1
  replace p1_2 := p1.c2
  clear hB
  replace hb : Hid (Below w.heap.size w (v5.alloc (.cells #[.bool c0, .slice xa0 sz1.length xc0, .slice ya0 (cyc dz0 dz1.length (fillE c0)).length yc0] 25))) := hb.out.alloc hb.out.size _
  replace p0 := p0.al (.cells #[.bool c0, .slice xa0 sz1.length xc0, .slice ya0 (cyc dz0 dz1.length (fillE c0)).length yc0] 25)
  replace p1 := p1.al (.cells #[.bool c0, .slice xa0 sz1.length xc0, .slice ya0 (cyc dz0 dz1.length (fillE c0)).length yc0] 25)
  replace hX0 := hX0.al (.cells #[.bool c0, .slice xa0 sz1.length xc0, .slice ya0 (cyc dz0 dz1.length (fillE c0)).length yc0] 25)
  replace hY0 := hY0.al (.cells #[.bool c0, .slice xa0 sz1.length xc0, .slice ya0 (cyc dz0 dz1.length (fillE c0)).length yc0] 25)
  replace p0_0 := p0.c0
  replace p0_1 := p0.c1
  replace p0_2 := p0.c2
  replace p1_0 := p1.c0
  replace p1_1 := p1.c1
  replace p1_2 := p1.c2
  have b0 := Abx.new v5 (.bool c0) (.slice xa0 sz1.length xc0) (.slice ya0 (cyc dz0 dz1.length (fillE c0)).length yc0)
  have b0_0 := b0.c0
  have b0_1 := b0.c1
  have b0_2 := b0.c2
  go_wp2_with fail
  refine (c2_uni H2 f c0 sa0 sc0 sz0 da0 dc0 dz0 c1 sa1 sc1 sz1 da1 dc1 dz1 _ hf x1 x2 y1 y2 ((HI.out.1.1.below hb.out).mono hb.out.size) ((HI.out.1.2.1.below hb.out).mono hb.out.size) ((HI.out.2.1.below hb.out).mono hb.out.size) ((HI.out.2.2.1.below hb.out).mono hb.out.size) HI.out.1.2.2 HI.out.2.2.2).mono ?_
  rintro e v6 ⟨xa1, xc1, ya1, yc1, rfl, hX1, hY1, hB⟩
  replace hb : Hid (Below w.heap.size w v6) := hb.out.trans (hB.mono hb.out.size)
  replace p0 := p0.go hB
  replace p1 := p1.go hB
  replace hX0 := hX0.go hB
  replace hY0 := hY0.go hB
  replace b0 := b0.go hB
  replace p0_0 := p0.c0
  replace p0_1 := p0.c1
  replace p0_2 := p0.c2
  replace p1_0 := p1.c0
  replace p1_1 := p1.c1
  replace p1_2 := p1.c2
  replace b0_0 := b0.c0
  replace b0_1 := b0.c1
  replace b0_2 := b0.c2
  clear hB
  replace hb : Hid (Below w.heap.size w (v6.alloc (.cells #[.bool false, .slice xa1 (e2S f c0 sz0 dz0 c1 sz1 dz1).length xc1, .slice ya1 (e2D f c0 sz0 dz0 c1 sz1 dz1).length yc1] 25))) := hb.out.alloc hb.out.size _
  replace p0 := p0.al (.cells #[.bool false, .slice xa1 (e2S f c0 sz0 dz0 c1 sz1 dz1).length xc1, .slice ya1 (e2D f c0 sz0 dz0 c1 sz1 dz1).length yc1] 25)
  replace p1 := p1.al (.cells #[.bool false, .slice xa1 (e2S f c0 sz0 dz0 c1 sz1 dz1).length xc1, .slice ya1 (e2D f c0 sz0 dz0 c1 sz1 dz1).length yc1] 25)
  replace hX0 := hX0.al (.cells #[.bool false, .slice xa1 (e2S f c0 sz0 dz0 c1 sz1 dz1).length xc1, .slice ya1 (e2D f c0 sz0 dz0 c1 sz1 dz1).length yc1] 25)
  replace hY0 := hY0.al (.cells #[.bool false, .slice xa1 (e2S f c0 sz0 dz0 c1 sz1 dz1).length xc1, .slice ya1 (e2D f c0 sz0 dz0 c1 sz1 dz1).length yc1] 25)
  replace b0 := b0.al (.cells #[.bool false, .slice xa1 (e2S f c0 sz0 dz0 c1 sz1 dz1).length xc1, .slice ya1 (e2D f c0 sz0 dz0 c1 sz1 dz1).length yc1] 25)
  replace hX1 := hX1.al (.cells #[.bool false, .slice xa1 (e2S f c0 sz0 dz0 c1 sz1 dz1).length xc1, .slice ya1 (e2D f c0 sz0 dz0 c1 sz1 dz1).length yc1] 25)
  replace hY1 := hY1.al (.cells #[.bool false, .slice xa1 (e2S f c0 sz0 dz0 c1 sz1 dz1).length xc1, .slice ya1 (e2D f c0 sz0 dz0 c1 sz1 dz1).length yc1] 25)
  replace p0_0 := p0.c0
  replace p0_1 := p0.c1
  replace p0_2 := p0.c2
  replace p1_0 := p1.c0
  replace p1_1 := p1.c1
  replace p1_2 := p1.c2
  replace b0_0 := b0.c0
  replace b0_1 := b0.c1
  replace b0_2 := b0.c2
  have b1 := Abx.new v6 (.bool false) (.slice xa1 (e2S f c0 sz0 dz0 c1 sz1 dz1).length xc1) (.slice ya1 (e2D f c0 sz0 dz0 c1 sz1 dz1).length yc1)
  have b1_0 := b1.c0
  have b1_1 := b1.c1
  have b1_2 := b1.c2
  go_wp2_with fail
  refine (c2_uni H2 f c0 xa0 xc0 sz1 ya0 yc0 (cyc dz0 dz1.length (fillE c0)) c1 sa1 sc1 sz1 da1 dc1 dz1 _ hf y1 (by rw [cyc_length]; exact y2) y1 y2 hX0.ints hY0.ints ((HI.out.2.1.below hb.out).mono hb.out.size) ((HI.out.2.2.1.below hb.out).mono hb.out.size) (In64.cyc HI.out.1.2.2 L0.out) HI.out.2.2.2).mono ?_
  rintro e v7 ⟨xa2, xc2, ya2, yc2, rfl, hX2, hY2, hB⟩
  replace hb : Hid (Below w.heap.size w v7) := hb.out.trans (hB.mono hb.out.size)
  replace p0 := p0.go hB
  replace p1 := p1.go hB
  replace hX0 := hX0.go hB
  replace hY0 := hY0.go hB
  replace b0 := b0.go hB
  replace hX1 := hX1.go hB
  replace hY1 := hY1.go hB
  replace b1 := b1.go hB
  replace p0_0 := p0.c0
  replace p0_1 := p0.c1
  replace p0_2 := p0.c2
  replace p1_0 := p1.c0
  replace p1_1 := p1.c1
  replace p1_2 := p1.c2
  replace b0_0 := b0.c0
  replace b0_1 := b0.c1
  replace b0_2 := b0.c2
  replace b1_0 := b1.c0
  replace b1_1 := b1.c1
  replace b1_2 := b1.c2
  clear hB
  replace hb : Hid (Below w.heap.size w (v7.alloc (.cells #[.bool false, .slice xa2 (e2S f c0 sz1 (cyc dz0 dz1.length (fillE c0)) c1 sz1 dz1).length xc2, .slice ya2 (e2D f c0 sz1 (cyc dz0 dz1.length (fillE c0)) c1 sz1 dz1).length yc2] 25))) := hb.out.alloc hb.out.size _
  replace p0 := p0.al (.cells #[.bool false, .slice xa2 (e2S f c0 sz1 (cyc dz0 dz1.length (fillE c0)) c1 sz1 dz1).length xc2, .slice ya2 (e2D f c0 sz1 (cyc dz0 dz1.length (fillE c0)) c1 sz1 dz1).length yc2] 25)
  replace p1 := p1.al (.cells #[.bool false, .slice xa2 (e2S f c0 sz1 (cyc dz0 dz1.length (fillE c0)) c1 sz1 dz1).length xc2, .slice ya2 (e2D f c0 sz1 (cyc dz0 dz1.length (fillE c0)) c1 sz1 dz1).length yc2] 25)
  replace hX0 := hX0.al (.cells #[.bool false, .slice xa2 (e2S f c0 sz1 (cyc dz0 dz1.length (fillE c0)) c1 sz1 dz1).length xc2, .slice ya2 (e2D f c0 sz1 (cyc dz0 dz1.length (fillE c0)) c1 sz1 dz1).length yc2] 25)
  replace hY0 := hY0.al (.cells #[.bool false, .slice xa2 (e2S f c0 sz1 (cyc dz0 dz1.length (fillE c0)) c1 sz1 dz1).length xc2, .slice ya2 (e2D f c0 sz1 (cyc dz0 dz1.length (fillE c0)) c1 sz1 dz1).length yc2] 25)
  replace b0 := b0.al (.cells #[.bool false, .slice xa2 (e2S f c0 sz1 (cyc dz0 dz1.length (fillE c0)) c1 sz1 dz1).length xc2, .slice ya2 (e2D f c0 sz1 (cyc dz0 dz1.length (fillE c0)) c1 sz1 dz1).length yc2] 25)
  replace hX1 := hX1.al (.cells #[.bool false, .slice xa2 (e2S f c0 sz1 (cyc dz0 dz1.length (fillE c0)) c1 sz1 dz1).length xc2, .slice ya2 (e2D f c0 sz1 (cyc dz0 dz1.length (fillE c0)) c1 sz1 dz1).length yc2] 25)
  replace hY1 := hY1.al (.cells #[.bool false, .slice xa2 (e2S f c0 sz1 (cyc dz0 dz1.length (fillE c0)) c1 sz1 dz1).length xc2, .slice ya2 (e2D f c0 sz1 (cyc dz0 dz1.length (fillE c0)) c1 sz1 dz1).length yc2] 25)
  replace b1 := b1.al (.cells #[.bool false, .slice xa2 (e2S f c0 sz1 (cyc dz0 dz1.length (fillE c0)) c1 sz1 dz1).length xc2, .slice ya2 (e2D f c0 sz1 (cyc dz0 dz1.length (fillE c0)) c1 sz1 dz1).length yc2] 25)
  replace hX2 := hX2.al (.cells #[.bool false, .slice xa2 (e2S f c0 sz1 (cyc dz0 dz1.length (fillE c0)) c1 sz1 dz1).length xc2, .slice ya2 (e2D f c0 sz1 (cyc dz0 dz1.length (fillE c0)) c1 sz1 dz1).length yc2] 25)
  replace hY2 := hY2.al (.cells #[.bool false, .slice xa2 (e2S f c0 sz1 (cyc dz0 dz1.length (fillE c0)) c1 sz1 dz1).length xc2, .slice ya2 (e2D f c0 sz1 (cyc dz0 dz1.length (fillE c0)) c1 sz1 dz1).length yc2] 25)
  replace p0_0 := p0.c0
  replace p0_1 := p0.c1
  replace p0_2 := p0.c2
  replace p1_0 := p1.c0
  replace p1_1 := p1.c1
  replace p1_2 := p1.c2
  replace b0_0 := b0.c0
  replace b0_1 := b0.c1
  replace b0_2 := b0.c2
  replace b1_0 := b1.c0
  replace b1_1 := b1.c1
  replace b1_2 := b1.c2
  have b2 := Abx.new v7 (.bool false) (.slice xa2 (e2S f c0 sz1 (cyc dz0 dz1.length (fillE c0)) c1 sz1 dz1).length xc2) (.slice ya2 (e2D f c0 sz1 (cyc dz0 dz1.length (fillE c0)) c1 sz1 dz1).length yc2)
  have b2_0 := b2.c0
  have b2_1 := b2.c1
  have b2_2 := b2.c2
  go_wp2_with fail
  refine (c2_uni H2 f c1 sa1 sc1 sz1 da1 dc1 dz1 c0 sa0 sc0 sz0 da0 dc0 dz0 _ hf y1 y2 x1 x2 ((HI.out.2.1.below hb.out).mono hb.out.size) ((HI.out.2.2.1.below hb.out).mono hb.out.size) ((HI.out.1.1.below hb.out).mono hb.out.size) ((HI.out.1.2.1.below hb.out).mono hb.out.size) HI.out.2.2.2 HI.out.1.2.2).mono ?_
  rintro e v8 ⟨xa3, xc3, ya3, yc3, rfl, hX3, hY3, hB⟩
  replace hb : Hid (Below w.heap.size w v8) := hb.out.trans (hB.mono hb.out.size)
  replace p0 := p0.go hB
  replace p1 := p1.go hB
  replace hX0 := hX0.go hB
  replace hY0 := hY0.go hB
  replace b0 := b0.go hB
  replace hX1 := hX1.go hB
  replace hY1 := hY1.go hB
  replace b1 := b1.go hB
  replace hX2 := hX2.go hB
  replace hY2 := hY2.go hB
  replace b2 := b2.go hB
  replace p0_0 := p0.c0
  replace p0_1 := p0.c1
  replace p0_2 := p0.c2
  replace p1_0 := p1.c0
  replace p1_1 := p1.c1
  replace p1_2 := p1.c2
  replace b0_0 := b0.c0
  replace b0_1 := b0.c1
  replace b0_2 := b0.c2
  replace b1_0 := b1.c0
  replace b1_1 := b1.c1
  replace b1_2 := b1.c2
  replace b2_0 := b2.c0
  replace b2_1 := b2.c1
  replace b2_2 := b2.c2
  clear hB
  replace hb : Hid (Below w.heap.size w (v8.alloc (.cells #[.bool false, .slice xa3 (e2S f c1 sz1 dz1 c0 sz0 dz0).length xc3, .slice ya3 (e2D f c1 sz1 dz1 c0 sz0 dz0).length yc3] 25))) := hb.out.alloc hb.out.size _
  replace p0 := p0.al (.cells #[.bool false, .slice xa3 (e2S f c1 sz1 dz1 c0 sz0 dz0).length xc3, .slice ya3 (e2D f c1 sz1 dz1 c0 sz0 dz0).length yc3] 25)
  replace p1 := p1.al (.cells #[.bool false, .slice xa3 (e2S f c1 sz1 dz1 c0 sz0 dz0).length xc3, .slice ya3 (e2D f c1 sz1 dz1 c0 sz0 dz0).length yc3] 25)
  replace hX0 := hX0.al (.cells #[.bool false, .slice xa3 (e2S f c1 sz1 dz1 c0 sz0 dz0).length xc3, .slice ya3 (e2D f c1 sz1 dz1 c0 sz0 dz0).length yc3] 25)
  replace hY0 := hY0.al (.cells #[.bool false, .slice xa3 (e2S f c1 sz1 dz1 c0 sz0 dz0).length xc3, .slice ya3 (e2D f c1 sz1 dz1 c0 sz0 dz0).length yc3] 25)
  replace b0 := b0.al (.cells #[.bool false, .slice xa3 (e2S f c1 sz1 dz1 c0 sz0 dz0).length xc3, .slice ya3 (e2D f c1 sz1 dz1 c0 sz0 dz0).length yc3] 25)
  replace hX1 := hX1.al (.cells #[.bool false, .slice xa3 (e2S f c1 sz1 dz1 c0 sz0 dz0).length xc3, .slice ya3 (e2D f c1 sz1 dz1 c0 sz0 dz0).length yc3] 25)
  replace hY1 := hY1.al (.cells #[.bool false, .slice xa3 (e2S f c1 sz1 dz1 c0 sz0 dz0).length xc3, .slice ya3 (e2D f c1 sz1 dz1 c0 sz0 dz0).length yc3] 25)
  replace b1 := b1.al (.cells #[.bool false, .slice xa3 (e2S f c1 sz1 dz1 c0 sz0 dz0).length xc3, .slice ya3 (e2D f c1 sz1 dz1 c0 sz0 dz0).length yc3] 25)
  replace hX2 := hX2.al (.cells #[.bool false, .slice xa3 (e2S f c1 sz1 dz1 c0 sz0 dz0).length xc3, .slice ya3 (e2D f c1 sz1 dz1 c0 sz0 dz0).length yc3] 25)
  replace hY2 := hY2.al (.cells #[.bool false, .slice xa3 (e2S f c1 sz1 dz1 c0 sz0 dz0).length xc3, .slice ya3 (e2D f c1 sz1 dz1 c0 sz0 dz0).length yc3] 25)
  replace b2 := b2.al (.cells #[.bool false, .slice xa3 (e2S f c1 sz1 dz1 c0 sz0 dz0).length xc3, .slice ya3 (e2D f c1 sz1 dz1 c0 sz0 dz0).length yc3] 25)
  replace hX3 := hX3.al (.cells #[.bool false, .slice xa3 (e2S f c1 sz1 dz1 c0 sz0 dz0).length xc3, .slice ya3 (e2D f c1 sz1 dz1 c0 sz0 dz0).length yc3] 25)
  replace hY3 := hY3.al (.cells #[.bool false, .slice xa3 (e2S f c1 sz1 dz1 c0 sz0 dz0).length xc3, .slice ya3 (e2D f c1 sz1 dz1 c0 sz0 dz0).length yc3] 25)
  replace p0_0 := p0.c0
  replace p0_1 := p0.c1
  replace p0_2 := p0.c2
  replace p1_0 := p1.c0
  replace p1_1 := p1.c1
  replace p1_2 := p1.c2
  replace b0_0 := b0.c0
  replace b0_1 := b0.c1
  replace b0_2 := b0.c2
  replace b1_0 := b1.c0
  replace b1_1 := b1.c1
  replace b1_2 := b1.c2
  replace b2_0 := b2.c0
  replace b2_1 := b2.c1
  replace b2_2 := b2.c2
  have b3 := Abx.new v8 (.bool false) (.slice xa3 (e2S f c1 sz1 dz1 c0 sz0 dz0).length xc3) (.slice ya3 (e2D f c1 sz1 dz1 c0 sz0 dz0).length yc3)
  have b3_0 := b3.c0
  have b3_1 := b3.c1
  have b3_2 := b3.c2
  go_wp2_with fail
  refine (c2_uni H2 f c1 sa1 sc1 sz1 da1 dc1 dz1 c0 xa0 xc0 sz1 ya0 yc0 (cyc dz0 dz1.length (fillE c0)) _ hf y1 y2 y1 (by rw [cyc_length]; exact y2) ((HI.out.2.1.below hb.out).mono hb.out.size) ((HI.out.2.2.1.below hb.out).mono hb.out.size) hX0.ints hY0.ints HI.out.2.2.2 (In64.cyc HI.out.1.2.2 L0.out)).mono ?_
  rintro e v9 ⟨xa4, xc4, ya4, yc4, rfl, hX4, hY4, hB⟩
  replace hb : Hid (Below w.heap.size w v9) := hb.out.trans (hB.mono hb.out.size)
  replace p0 := p0.go hB
  replace p1 := p1.go hB
  replace hX0 := hX0.go hB
  replace hY0 := hY0.go hB
  replace b0 := b0.go hB
  replace hX1 := hX1.go hB
  replace hY1 := hY1.go hB
  replace b1 := b1.go hB
  replace hX2 := hX2.go hB
  replace hY2 := hY2.go hB
  replace b2 := b2.go hB
  replace hX3 := hX3.go hB
  replace hY3 := hY3.go hB
  replace b3 := b3.go hB
  replace p0_0 := p0.c0
  replace p0_1 := p0.c1
  replace p0_2 := p0.c2
  replace p1_0 := p1.c0
  replace p1_1 := p1.c1
  replace p1_2 := p1.c2
  replace b0_0 := b0.c0
  replace b0_1 := b0.c1
  replace b0_2 := b0.c2
  replace b1_0 := b1.c0
  replace b1_1 := b1.c1
  replace b1_2 := b1.c2
  replace b2_0 := b2.c0
  replace b2_1 := b2.c1
  replace b2_2 := b2.c2
  replace b3_0 := b3.c0
  replace b3_1 := b3.c1
  replace b3_2 := b3.c2
  clear hB
  replace hb : Hid (Below w.heap.size w (v9.alloc (.cells #[.bool false, .slice xa4 (e2S f c1 sz1 dz1 c0 sz1 (cyc dz0 dz1.length (fillE c0))).length xc4, .slice ya4 (e2D f c1 sz1 dz1 c0 sz1 (cyc dz0 dz1.length (fillE c0))).length yc4] 25))) := hb.out.alloc hb.out.size _
  replace p0 := p0.al (.cells #[.bool false, .slice xa4 (e2S f c1 sz1 dz1 c0 sz1 (cyc dz0 dz1.length (fillE c0))).length xc4, .slice ya4 (e2D f c1 sz1 dz1 c0 sz1 (cyc dz0 dz1.length (fillE c0))).length yc4] 25)
  replace p1 := p1.al (.cells #[.bool false, .slice xa4 (e2S f c1 sz1 dz1 c0 sz1 (cyc dz0 dz1.length (fillE c0))).length xc4, .slice ya4 (e2D f c1 sz1 dz1 c0 sz1 (cyc dz0 dz1.length (fillE c0))).length yc4] 25)
  replace hX0 := hX0.al (.cells #[.bool false, .slice xa4 (e2S f c1 sz1 dz1 c0 sz1 (cyc dz0 dz1.length (fillE c0))).length xc4, .slice ya4 (e2D f c1 sz1 dz1 c0 sz1 (cyc dz0 dz1.length (fillE c0))).length yc4] 25)
  replace hY0 := hY0.al (.cells #[.bool false, .slice xa4 (e2S f c1 sz1 dz1 c0 sz1 (cyc dz0 dz1.length (fillE c0))).length xc4, .slice ya4 (e2D f c1 sz1 dz1 c0 sz1 (cyc dz0 dz1.length (fillE c0))).length yc4] 25)
  replace b0 := b0.al (.cells #[.bool false, .slice xa4 (e2S f c1 sz1 dz1 c0 sz1 (cyc dz0 dz1.length (fillE c0))).length xc4, .slice ya4 (e2D f c1 sz1 dz1 c0 sz1 (cyc dz0 dz1.length (fillE c0))).length yc4] 25)
  replace hX1 := hX1.al (.cells #[.bool false, .slice xa4 (e2S f c1 sz1 dz1 c0 sz1 (cyc dz0 dz1.length (fillE c0))).length xc4, .slice ya4 (e2D f c1 sz1 dz1 c0 sz1 (cyc dz0 dz1.length (fillE c0))).length yc4] 25)
  replace hY1 := hY1.al (.cells #[.bool false, .slice xa4 (e2S f c1 sz1 dz1 c0 sz1 (cyc dz0 dz1.length (fillE c0))).length xc4, .slice ya4 (e2D f c1 sz1 dz1 c0 sz1 (cyc dz0 dz1.length (fillE c0))).length yc4] 25)
  replace b1 := b1.al (.cells #[.bool false, .slice xa4 (e2S f c1 sz1 dz1 c0 sz1 (cyc dz0 dz1.length (fillE c0))).length xc4, .slice ya4 (e2D f c1 sz1 dz1 c0 sz1 (cyc dz0 dz1.length (fillE c0))).length yc4] 25)
  replace hX2 := hX2.al (.cells #[.bool false, .slice xa4 (e2S f c1 sz1 dz1 c0 sz1 (cyc dz0 dz1.length (fillE c0))).length xc4, .slice ya4 (e2D f c1 sz1 dz1 c0 sz1 (cyc dz0 dz1.length (fillE c0))).length yc4] 25)
  replace hY2 := hY2.al (.cells #[.bool false, .slice xa4 (e2S f c1 sz1 dz1 c0 sz1 (cyc dz0 dz1.length (fillE c0))).length xc4, .slice ya4 (e2D f c1 sz1 dz1 c0 sz1 (cyc dz0 dz1.length (fillE c0))).length yc4] 25)
  replace b2 := b2.al (.cells #[.bool false, .slice xa4 (e2S f c1 sz1 dz1 c0 sz1 (cyc dz0 dz1.length (fillE c0))).length xc4, .slice ya4 (e2D f c1 sz1 dz1 c0 sz1 (cyc dz0 dz1.length (fillE c0))).length yc4] 25)
  replace hX3 := hX3.al (.cells #[.bool false, .slice xa4 (e2S f c1 sz1 dz1 c0 sz1 (cyc dz0 dz1.length (fillE c0))).length xc4, .slice ya4 (e2D f c1 sz1 dz1 c0 sz1 (cyc dz0 dz1.length (fillE c0))).length yc4] 25)
  replace hY3 := hY3.al (.cells #[.bool false, .slice xa4 (e2S f c1 sz1 dz1 c0 sz1 (cyc dz0 dz1.length (fillE c0))).length xc4, .slice ya4 (e2D f c1 sz1 dz1 c0 sz1 (cyc dz0 dz1.length (fillE c0))).length yc4] 25)
  replace b3 := b3.al (.cells #[.bool false, .slice xa4 (e2S f c1 sz1 dz1 c0 sz1 (cyc dz0 dz1.length (fillE c0))).length xc4, .slice ya4 (e2D f c1 sz1 dz1 c0 sz1 (cyc dz0 dz1.length (fillE c0))).length yc4] 25)
  replace hX4 := hX4.al (.cells #[.bool false, .slice xa4 (e2S f c1 sz1 dz1 c0 sz1 (cyc dz0 dz1.length (fillE c0))).length xc4, .slice ya4 (e2D f c1 sz1 dz1 c0 sz1 (cyc dz0 dz1.length (fillE c0))).length yc4] 25)
  replace hY4 := hY4.al (.cells #[.bool false, .slice xa4 (e2S f c1 sz1 dz1 c0 sz1 (cyc dz0 dz1.length (fillE c0))).length xc4, .slice ya4 (e2D f c1 sz1 dz1 c0 sz1 (cyc dz0 dz1.length (fillE c0))).length yc4] 25)
  replace p0_0 := p0.c0
  replace p0_1 := p0.c1
  replace p0_2 := p0.c2
  replace p1_0 := p1.c0
  replace p1_1 := p1.c1
  replace p1_2 := p1.c2
  replace b0_0 := b0.c0
  replace b0_1 := b0.c1
  replace b0_2 := b0.c2
  replace b1_0 := b1.c0
  replace b1_1 := b1.c1
  replace b1_2 := b1.c2
  replace b2_0 := b2.c0
  replace b2_1 := b2.c1
  replace b2_2 := b2.c2
  replace b3_0 := b3.c0
  replace b3_1 := b3.c1
  replace b3_2 := b3.c2
  have b4 := Abx.new v9 (.bool false) (.slice xa4 (e2S f c1 sz1 dz1 c0 sz1 (cyc dz0 dz1.length (fillE c0))).length xc4) (.slice ya4 (e2D f c1 sz1 dz1 c0 sz1 (cyc dz0 dz1.length (fillE c0))).length yc4)
  have b4_0 := b4.c0
  have b4_1 := b4.c1
  have b4_2 := b4.c2
  go_wp2_with fail
  refine (matches_any false false xa1 xc1 (e2S f c0 sz0 dz0 c1 sz1 dz1) ya1 yc1 (e2D f c0 sz0 dz0 c1 sz1 dz1) (e2E f c0 sz0 dz0 c1 sz1 dz1) xa2 xc2 (e2S f c0 sz1 (cyc dz0 dz1.length (fillE c0)) c1 sz1 dz1) ya2 yc2 (e2D f c0 sz1 (cyc dz0 dz1.length (fillE c0)) c1 sz1 dz1) (e2E f c0 sz1 (cyc dz0 dz1.length (fillE c0)) c1 sz1 dz1) (Nat.le_trans e2_short.1 (by decide)) (Nat.le_trans e2_short.2 (by decide)) (Nat.le_trans e2_short.1 (by decide)) (Nat.le_trans e2_short.2 (by decide)) _ hX1.ints hY1.ints hX2.ints hY2.ints).mono ?_
  rintro e v10 ⟨rfl, hB⟩
  replace hb : Hid (Below w.heap.size w v10) := hb.out.trans (hB.mono hb.out.size)
  replace p0 := p0.go hB
  replace p1 := p1.go hB
  replace hX0 := hX0.go hB
  replace hY0 := hY0.go hB
  replace b0 := b0.go hB
  replace hX1 := hX1.go hB
  replace hY1 := hY1.go hB
  replace b1 := b1.go hB
  replace hX2 := hX2.go hB
  replace hY2 := hY2.go hB
  replace b2 := b2.go hB
  replace hX3 := hX3.go hB
  replace hY3 := hY3.go hB
  replace b3 := b3.go hB
  replace hX4 := hX4.go hB
  replace hY4 := hY4.go hB
  replace b4 := b4.go hB
  replace p0_0 := p0.c0
  replace p0_1 := p0.c1
  replace p0_2 := p0.c2
  replace p1_0 := p1.c0
  replace p1_1 := p1.c1
  replace p1_2 := p1.c2
  replace b0_0 := b0.c0
  replace b0_1 := b0.c1
  replace b0_2 := b0.c2
  replace b1_0 := b1.c0
  replace b1_1 := b1.c1
  replace b1_2 := b1.c2
  replace b2_0 := b2.c0
  replace b2_1 := b2.c1
  replace b2_2 := b2.c2
  replace b3_0 := b3.c0
  replace b3_1 := b3.c1
  replace b3_2 := b3.c2
  replace b4_0 := b4.c0
  replace b4_1 := b4.c1
  replace b4_2 := b4.c2
  clear hB
  rw [sp_l hl.out F0.out F1.out]
  go_wp2_with fail
  refine (matches_any false false xa3 xc3 (e2S f c1 sz1 dz1 c0 sz0 dz0) ya3 yc3 (e2D f c1 sz1 dz1 c0 sz0 dz0) (e2E f c1 sz1 dz1 c0 sz0 dz0) xa4 xc4 (e2S f c1 sz1 dz1 c0 sz1 (cyc dz0 dz1.length (fillE c0))) ya4 yc4 (e2D f c1 sz1 dz1 c0 sz1 (cyc dz0 dz1.length (fillE c0))) (e2E f c1 sz1 dz1 c0 sz1 (cyc dz0 dz1.length (fillE c0))) (Nat.le_trans e2_short.1 (by decide)) (Nat.le_trans e2_short.2 (by decide)) (Nat.le_trans e2_short.1 (by decide)) (Nat.le_trans e2_short.2 (by decide)) _ hX3.ints hY3.ints hX4.ints hY4.ints).mono ?_
  rintro e v11 ⟨rfl, hB⟩
  replace hb : Hid (Below w.heap.size w v11) := hb.out.trans (hB.mono hb.out.size)
  replace p0 := p0.go hB
  replace p1 := p1.go hB
  replace hX0 := hX0.go hB
  replace hY0 := hY0.go hB
  replace b0 := b0.go hB
  replace hX1 := hX1.go hB
  replace hY1 := hY1.go hB
  replace b1 := b1.go hB
  replace hX2 := hX2.go hB
  replace hY2 := hY2.go hB
  replace b2 := b2.go hB
  replace hX3 := hX3.go hB
  replace hY3 := hY3.go hB
  replace b3 := b3.go hB
  replace hX4 := hX4.go hB
  replace hY4 := hY4.go hB
  replace b4 := b4.go hB
  replace p0_0 := p0.c0
  replace p0_1 := p0.c1
  replace p0_2 := p0.c2
  replace p1_0 := p1.c0
  replace p1_1 := p1.c1
  replace p1_2 := p1.c2
  replace b0_0 := b0.c0
  replace b0_1 := b0.c1
  replace b0_2 := b0.c2
  replace b1_0 := b1.c0
  replace b1_1 := b1.c1
  replace b1_2 := b1.c2
  replace b2_0 := b2.c0
  replace b2_1 := b2.c1
  replace b2_2 := b2.c2
  replace b3_0 := b3.c0
  replace b3_1 := b3.c1
  replace b3_2 := b3.c2
  replace b4_0 := b4.c0
  replace b4_1 := b4.c1
  replace b4_2 := b4.c2
  clear hB
  rw [sp_r hl.out F0.out F1.out]
  go_wp2_with fail
  go_ret
  exact ⟨rfl, hb.out⟩
theorem spreads_walk (H2 : C2) (f : Int) (hf : In64 f) (c0 : Bool) (sa0 : Option Addr) (sc0 : Nat) (sz0 : List Int) (da0 : Option Addr) (dc0 : Nat) (dz0 : List Int) (c1 : Bool) (sa1 : Option Addr) (sc1 : Nat) (sz1 : List Int) (da1 : Option Addr) (dc1 : Nat) (dz1 : List Int) (w : World) (w0 : IsArr w sa0 sz0 da0 dz0) (w1 : IsArr w sa1 sz1 da1 dz1) :
    Calls Try.prog 4 #[.int .i64 f, .agg #[.bool c0, .slice sa0 sz0.length sc0, .slice da0 dz0.length dc0], .agg #[.bool c1, .slice sa1 sz1.length sc1, .slice da1 dz1.length dc1]] w fun e w' => e = .returned (.bool true) ∧ Below w.heap.size w w' := by
  by_cases hl : sz0.length = 0
  · by_cases f0 : flawE c0 sz0 dz0 = 0
    · by_cases f1 : flawE c1 sz1 dz1 = 0
      · exact spreads_ok H2 f hf c0 sa0 sc0 sz0 da0 dc0 dz0 c1 sa1 sc1 sz1 da1 dc1 dz1 w w0 w1 hl f0 f1 (sp_some hl f0)
      · exact spreads_no1 H2 f hf c0 sa0 sc0 sz0 da0 dc0 dz0 c1 sa1 sc1 sz1 da1 dc1 dz1 w w0 w1 hl f0 f1
    · exact spreads_no0 H2 f hf c0 sa0 sc0 sz0 da0 dc0 dz0 c1 sa1 sc1 sz1 da1 dc1 dz1 w w0 w1 hl f0
  · exact spreads_axes H2 f hf c0 sa0 sc0 sz0 da0 dc0 dz0 c1 sa1 sc1 sz1 da1 dc1 dz1 w w0 w1 hl
end Go.Proofs.Ytmbgomljofngnaa
