/-
  The walk of the statement that arrays of one shape are a ring, given what the program tells cell by cell.
-/
import Derived.Test.YtmbgomljofngnaaBase
import Derived.Test.YtmbgomljofngnaaEachr
namespace Go.Proofs.Ytmbgomljofngnaa
open Go.RowKit
set_option linter.unusedVariables false

theorem lit_in (x : Int) (h : -9223372036854775808 ≤ x ∧ x ≤ 9223372036854775807) : ∀ j, In64 (nth [x] j) := fun j => by
  cases j with
  | zero => exact h
  | succ j => rw [nth_succ, nth_nil]; unfold In64; decide
theorem fact_v : e2V 3 false [] [3] false [] [4] = [12] := by
  have h : e2V 3 false [] [3] false [] [4] = [twoV 3 3 4] := rfl
  rw [h, tv3, In64.same (n := 3 * 4) (by unfold In64; decide)]
  rfl
set_option maxRecDepth 100000 in
set_option maxHeartbeats 16000000 in
theorem ering_no0 (H2 : C2) (c0 : Bool) (sa0 : Option Addr) (sc0 : Nat) (sz0 : List Int) (da0 : Option Addr) (dc0 : Nat) (dz0 : List Int) (c1 : Bool) (sa1 : Option Addr) (sc1 : Nat) (sz1 : List Int) (da1 : Option Addr) (dc1 : Nat) (dz1 : List Int) (c2 : Bool) (sa2 : Option Addr) (sc2 : Nat) (sz2 : List Int) (da2 : Option Addr) (dc2 : Nat) (dz2 : List Int) (w : World) (w0 : IsArr w sa0 sz0 da0 dz0) (w1 : IsArr w sa1 sz1 da1 dz1) (w2 : IsArr w sa2 sz2 da2 dz2) (F0 : Hid (flawE c0 sz0 dz0 ≠ 0)) :
    Calls Try.prog 5 #[.agg #[.bool c0, .slice sa0 sz0.length sc0, .slice da0 dz0.length dc0], .agg #[.bool c1, .slice sa1 sz1.length sc1, .slice da1 dz1.length dc1], .agg #[.bool c2, .slice sa2 sz2.length sc2, .slice da2 dz2.length dc2]] w fun e w' => e = .returned (.bool true) ∧ Below w.heap.size w w' := by
  obtain ⟨x1, x2, x3, x4, _, T0⟩ := w0
  obtain ⟨y1, y2, y3, y4, _, T1⟩ := w1
  obtain ⟨z1, z2, z3, z4, _, T2⟩ := w2
  have HI : Hid ((IsInts w.heap.size w sa0 sz0 ∧ IsInts w.heap.size w da0 dz0 ∧ ∀ j, In64 (nth dz0 j)) ∧ (IsInts w.heap.size w sa1 sz1 ∧ IsInts w.heap.size w da1 dz1 ∧ ∀ j, In64 (nth dz1 j)) ∧ (IsInts w.heap.size w sa2 sz2 ∧ IsInts w.heap.size w da2 dz2 ∧ ∀ j, In64 (nth dz2 j))) := ⟨⟨x3, x4, T0⟩, ⟨y3, y4, T1⟩, ⟨z3, z4, T2⟩⟩
  clear x3 x4 T0 y3 y4 T1 z3 z4 T2
  have p0 : Abx (((w.alloc (.cells #[.bool c0, .slice sa0 sz0.length sc0, .slice da0 dz0.length dc0] 25)).alloc (.cells #[.bool c1, .slice sa1 sz1.length sc1, .slice da1 dz1.length dc1] 25)).alloc (.cells #[.bool c2, .slice sa2 sz2.length sc2, .slice da2 dz2.length dc2] 25)) w.heap.size (.bool c0) (.slice sa0 sz0.length sc0) (.slice da0 dz0.length dc0) := ((Abx.new w _ _ _).al _).al _
  have p1 : Abx (((w.alloc (.cells #[.bool c0, .slice sa0 sz0.length sc0, .slice da0 dz0.length dc0] 25)).alloc (.cells #[.bool c1, .slice sa1 sz1.length sc1, .slice da1 dz1.length dc1] 25)).alloc (.cells #[.bool c2, .slice sa2 sz2.length sc2, .slice da2 dz2.length dc2] 25)) (w.heap.size + 1) (.bool c1) (.slice sa1 sz1.length sc1) (.slice da1 dz1.length dc1) := (Abx.new1 w _ _ _ _).al _
  have p2 := Abx.new ((w.alloc (.cells #[.bool c0, .slice sa0 sz0.length sc0, .slice da0 dz0.length dc0] 25)).alloc (.cells #[.bool c1, .slice sa1 sz1.length sc1, .slice da1 dz1.length dc1] 25)) (.bool c2) (.slice sa2 sz2.length sc2) (.slice da2 dz2.length dc2)
  simp only [World.size_alloc] at p2
  have hs : (((w.alloc (.cells #[.bool c0, .slice sa0 sz0.length sc0, .slice da0 dz0.length dc0] 25)).alloc (.cells #[.bool c1, .slice sa1 sz1.length sc1, .slice da1 dz1.length dc1] 25)).alloc (.cells #[.bool c2, .slice sa2 sz2.length sc2, .slice da2 dz2.length dc2] 25)).heap.size = w.heap.size + 1 + 1 + 1 := by simp
  have hb : Hid (Below w.heap.size w (((w.alloc (.cells #[.bool c0, .slice sa0 sz0.length sc0, .slice da0 dz0.length dc0] 25)).alloc (.cells #[.bool c1, .slice sa1 sz1.length sc1, .slice da1 dz1.length dc1] 25)).alloc (.cells #[.bool c2, .slice sa2 sz2.length sc2, .slice da2 dz2.length dc2] 25))) := (((Below.refl _ w).alloc (Nat.le_refl _) _).alloc (by simp) _).alloc (by simp; omega) _
  obtain ⟨u, hu⟩ : ∃ u, u = (((w.alloc (.cells #[.bool c0, .slice sa0 sz0.length sc0, .slice da0 dz0.length dc0] 25)).alloc (.cells #[.bool c1, .slice sa1 sz1.length sc1, .slice da1 dz1.length dc1] 25)).alloc (.cells #[.bool c2, .slice sa2 sz2.length sc2, .slice da2 dz2.length dc2] 25)) := ⟨_, rfl⟩
  rw [← hu] at p0 p1 p2 hs hb
  have n1 : NewInts u.heap.size ((u.alloc (.cells #[.int .i64 3] 3)).alloc (.cells #[.int .i64 4] 3)) (some ⟨u.heap.size, 0, none⟩) [3] := (new_lit u 3 [3]).al _
  have n2 : NewInts (u.alloc (.cells #[.int .i64 3] 3)).heap.size ((u.alloc (.cells #[.int .i64 3] 3)).alloc (.cells #[.int .i64 4] 3)) (some ⟨(u.alloc (.cells #[.int .i64 3] 3)).heap.size, 0, none⟩) [4] := new_lit (u.alloc (.cells #[.int .i64 3] 3)) 3 [4]
  simp only [World.size_alloc, hs] at n1 n2
  have HN : Hid (IsInts ((u.alloc (.cells #[.int .i64 3] 3)).alloc (.cells #[.int .i64 4] 3)).heap.size ((u.alloc (.cells #[.int .i64 3] 3)).alloc (.cells #[.int .i64 4] 3)) (some ⟨w.heap.size + 1 + 1 + 1, 0, none⟩) [3] ∧ IsInts ((u.alloc (.cells #[.int .i64 3] 3)).alloc (.cells #[.int .i64 4] 3)).heap.size ((u.alloc (.cells #[.int .i64 3] 3)).alloc (.cells #[.int .i64 4] 3)) (some ⟨w.heap.size + 1 + 1 + 1 + 1, 0, none⟩) [4]) := ⟨n1.ints, n2.ints⟩
  replace hb : Hid (Below w.heap.size w ((u.alloc (.cells #[.int .i64 3] 3)).alloc (.cells #[.int .i64 4] 3))) := (hb.out.alloc (by omega) _).alloc (by simp; omega) _
  replace p0 := (p0.al (.cells #[.int .i64 3] 3)).al (.cells #[.int .i64 4] 3)
  replace p1 := (p1.al (.cells #[.int .i64 3] 3)).al (.cells #[.int .i64 4] 3)
  replace p2 := (p2.al (.cells #[.int .i64 3] 3)).al (.cells #[.int .i64 4] 3)
  clear n1 n2 hs
  subst hu
  go_enter Try.func5, Try.ntmps5
  go_wp2_with fail
  refine (c2_ok H2 3 false none 0 [] (some ⟨w.heap.size + 1 + 1 + 1, 0, none⟩) 1 [3] false none 0 [] (some ⟨w.heap.size + 1 + 1 + 1 + 1, 0, none⟩) 1 [4] _ (by unfold In64; decide) (by simp) (by simp) (by simp) (by simp) (.inl rfl) HN.out.1 (.inl rfl) HN.out.2 (lit_in 3 (by decide)) (lit_in 4 (by decide)) (by decide)).mono ?_
  rintro e v1 ⟨f1, g1, f2, g2, he, _, hY, hB⟩
  replace hb : Hid (Below w.heap.size w v1) := hb.out.trans (hB.mono hb.out.size)
  replace p0 := p0.go hB
  replace p1 := p1.go hB
  replace p2 := p2.go hB
  clear hB
  clear HN
  rw [fact_v, show shp [] [] = [] by decide] at he
  rw [fact_v] at hY
  subst he
  obtain ⟨b, off, rfl, _, hcell⟩ := hY.ints.at (q := 0) (by simp)
  have hc := hcell 0 (by simp)
  rw [Nat.add_zero, nth_zero] at hc
  have hlb := World.block_lt_of_cell? _ _ hc
  clear hcell hY
  have p0_0 := p0.c0
  have p0_1 := p0.c1
  have p0_2 := p0.c2
  have p1_0 := p1.c0
  have p1_1 := p1.c1
  have p1_2 := p1.c2
  have p2_0 := p2.c0
  have p2_1 := p2.c1
  have p2_2 := p2.c2
  replace hb : Hid (Below w.heap.size w (v1.alloc (.cells #[.bool false, .slice f1 0 g1, .slice (some ⟨b, off, none⟩) 1 g2] 25))) := hb.out.alloc hb.out.size _
  replace p0 := p0.al (.cells #[.bool false, .slice f1 0 g1, .slice (some ⟨b, off, none⟩) 1 g2] 25)
  replace p1 := p1.al (.cells #[.bool false, .slice f1 0 g1, .slice (some ⟨b, off, none⟩) 1 g2] 25)
  replace p2 := p2.al (.cells #[.bool false, .slice f1 0 g1, .slice (some ⟨b, off, none⟩) 1 g2] 25)
  replace p0_0 := p0.c0
  replace p0_1 := p0.c1
  replace p0_2 := p0.c2
  replace p1_0 := p1.c0
  replace p1_1 := p1.c1
  replace p1_2 := p1.c2
  replace p2_0 := p2.c0
  replace p2_1 := p2.c1
  replace p2_2 := p2.c2
  replace hc : (v1.alloc (.cells #[.bool false, .slice f1 0 g1, .slice (some ⟨b, off, none⟩) 1 g2] 25)).cell? ⟨b, off, none⟩ = some (.int .i64 12) := (World.cell?_alloc_lt _ _ ⟨b, off, none⟩ hlb).trans hc
  go_wp2_with fail
  clear hc hlb
  refine (ints_any sa0 sc0 sz0 sa1 sc1 sz1 x1 _ _ ((HI.out.1.1.below hb.out).mono hb.out.size) ((HI.out.2.1.1.below hb.out).mono hb.out.size)).mono ?_
  rintro e v2 ⟨rfl, hB⟩
  replace hb : Hid (Below w.heap.size w v2) := hb.out.trans (hB.mono hb.out.size)
  replace p0 := p0.go hB
  replace p1 := p1.go hB
  replace p2 := p2.go hB
  replace p0_0 := p0.c0
  replace p0_1 := p0.c1
  replace p0_2 := p0.c2
  replace p1_0 := p1.c0
  replace p1_1 := p1.c1
  replace p1_2 := p1.c2
  replace p2_0 := p2.c0
  replace p2_1 := p2.c1
  replace p2_2 := p2.c2
  clear hB
  go_wp2_with fail
  refine (ints_any sa1 sc1 sz1 sa2 sc2 sz2 y1 _ _ ((HI.out.2.1.1.below hb.out).mono hb.out.size) ((HI.out.2.2.1.below hb.out).mono hb.out.size)).mono ?_
  rintro e v3 ⟨rfl, hB⟩
  replace hb : Hid (Below w.heap.size w v3) := hb.out.trans (hB.mono hb.out.size)
  replace p0 := p0.go hB
  replace p1 := p1.go hB
  replace p2 := p2.go hB
  replace p0_0 := p0.c0
  replace p0_1 := p0.c1
  replace p0_2 := p0.c2
  replace p1_0 := p1.c0
  replace p1_1 := p1.c1
  replace p1_2 := p1.c2
  replace p2_0 := p2.c0
  replace p2_1 := p2.c1
  replace p2_2 := p2.c2
  clear hB
  go_wp2_with fail
  refine (check_no c0 sa0 sc0 sz0 da0 dc0 dz0 x1 x2 _ ((HI.out.1.1.below hb.out).mono hb.out.size) ((HI.out.1.2.1.below hb.out).mono hb.out.size) F0.out).mono ?_
  rintro e v4 ⟨rfl, hB⟩
  replace hb : Hid (Below w.heap.size w v4) := hb.out.trans (hB.mono hb.out.size)
  replace p0 := p0.go hB
  replace p1 := p1.go hB
  replace p2 := p2.go hB
  replace p0_0 := p0.c0
  replace p0_1 := p0.c1
  replace p0_2 := p0.c2
  replace p1_0 := p1.c0
  replace p1_1 := p1.c1
  replace p1_2 := p1.c2
  replace p2_0 := p2.c0
  replace p2_1 := p2.c1
  replace p2_2 := p2.c2
  clear hB
  go_wp2_with fail
  go_ret
  exact ⟨rfl, hb.out⟩
set_option maxRecDepth 100000 in
set_option maxHeartbeats 16000000 in
theorem ering_no1 (H2 : C2) (c0 : Bool) (sa0 : Option Addr) (sc0 : Nat) (sz0 : List Int) (da0 : Option Addr) (dc0 : Nat) (dz0 : List Int) (c1 : Bool) (sa1 : Option Addr) (sc1 : Nat) (sz1 : List Int) (da1 : Option Addr) (dc1 : Nat) (dz1 : List Int) (c2 : Bool) (sa2 : Option Addr) (sc2 : Nat) (sz2 : List Int) (da2 : Option Addr) (dc2 : Nat) (dz2 : List Int) (w : World) (w0 : IsArr w sa0 sz0 da0 dz0) (w1 : IsArr w sa1 sz1 da1 dz1) (w2 : IsArr w sa2 sz2 da2 dz2) (F0 : Hid (flawE c0 sz0 dz0 = 0)) (F1 : Hid (flawE c1 sz1 dz1 ≠ 0)) :
    Calls Try.prog 5 #[.agg #[.bool c0, .slice sa0 sz0.length sc0, .slice da0 dz0.length dc0], .agg #[.bool c1, .slice sa1 sz1.length sc1, .slice da1 dz1.length dc1], .agg #[.bool c2, .slice sa2 sz2.length sc2, .slice da2 dz2.length dc2]] w fun e w' => e = .returned (.bool true) ∧ Below w.heap.size w w' := by
  obtain ⟨x1, x2, x3, x4, _, T0⟩ := w0
  obtain ⟨y1, y2, y3, y4, _, T1⟩ := w1
  obtain ⟨z1, z2, z3, z4, _, T2⟩ := w2
  have HI : Hid ((IsInts w.heap.size w sa0 sz0 ∧ IsInts w.heap.size w da0 dz0 ∧ ∀ j, In64 (nth dz0 j)) ∧ (IsInts w.heap.size w sa1 sz1 ∧ IsInts w.heap.size w da1 dz1 ∧ ∀ j, In64 (nth dz1 j)) ∧ (IsInts w.heap.size w sa2 sz2 ∧ IsInts w.heap.size w da2 dz2 ∧ ∀ j, In64 (nth dz2 j))) := ⟨⟨x3, x4, T0⟩, ⟨y3, y4, T1⟩, ⟨z3, z4, T2⟩⟩
  clear x3 x4 T0 y3 y4 T1 z3 z4 T2
  have p0 : Abx (((w.alloc (.cells #[.bool c0, .slice sa0 sz0.length sc0, .slice da0 dz0.length dc0] 25)).alloc (.cells #[.bool c1, .slice sa1 sz1.length sc1, .slice da1 dz1.length dc1] 25)).alloc (.cells #[.bool c2, .slice sa2 sz2.length sc2, .slice da2 dz2.length dc2] 25)) w.heap.size (.bool c0) (.slice sa0 sz0.length sc0) (.slice da0 dz0.length dc0) := ((Abx.new w _ _ _).al _).al _
  have p1 : Abx (((w.alloc (.cells #[.bool c0, .slice sa0 sz0.length sc0, .slice da0 dz0.length dc0] 25)).alloc (.cells #[.bool c1, .slice sa1 sz1.length sc1, .slice da1 dz1.length dc1] 25)).alloc (.cells #[.bool c2, .slice sa2 sz2.length sc2, .slice da2 dz2.length dc2] 25)) (w.heap.size + 1) (.bool c1) (.slice sa1 sz1.length sc1) (.slice da1 dz1.length dc1) := (Abx.new1 w _ _ _ _).al _
  have p2 := Abx.new ((w.alloc (.cells #[.bool c0, .slice sa0 sz0.length sc0, .slice da0 dz0.length dc0] 25)).alloc (.cells #[.bool c1, .slice sa1 sz1.length sc1, .slice da1 dz1.length dc1] 25)) (.bool c2) (.slice sa2 sz2.length sc2) (.slice da2 dz2.length dc2)
  simp only [World.size_alloc] at p2
  have hs : (((w.alloc (.cells #[.bool c0, .slice sa0 sz0.length sc0, .slice da0 dz0.length dc0] 25)).alloc (.cells #[.bool c1, .slice sa1 sz1.length sc1, .slice da1 dz1.length dc1] 25)).alloc (.cells #[.bool c2, .slice sa2 sz2.length sc2, .slice da2 dz2.length dc2] 25)).heap.size = w.heap.size + 1 + 1 + 1 := by simp
  have hb : Hid (Below w.heap.size w (((w.alloc (.cells #[.bool c0, .slice sa0 sz0.length sc0, .slice da0 dz0.length dc0] 25)).alloc (.cells #[.bool c1, .slice sa1 sz1.length sc1, .slice da1 dz1.length dc1] 25)).alloc (.cells #[.bool c2, .slice sa2 sz2.length sc2, .slice da2 dz2.length dc2] 25))) := (((Below.refl _ w).alloc (Nat.le_refl _) _).alloc (by simp) _).alloc (by simp; omega) _
  obtain ⟨u, hu⟩ : ∃ u, u = (((w.alloc (.cells #[.bool c0, .slice sa0 sz0.length sc0, .slice da0 dz0.length dc0] 25)).alloc (.cells #[.bool c1, .slice sa1 sz1.length sc1, .slice da1 dz1.length dc1] 25)).alloc (.cells #[.bool c2, .slice sa2 sz2.length sc2, .slice da2 dz2.length dc2] 25)) := ⟨_, rfl⟩
  rw [← hu] at p0 p1 p2 hs hb
  have n1 : NewInts u.heap.size ((u.alloc (.cells #[.int .i64 3] 3)).alloc (.cells #[.int .i64 4] 3)) (some ⟨u.heap.size, 0, none⟩) [3] := (new_lit u 3 [3]).al _
  have n2 : NewInts (u.alloc (.cells #[.int .i64 3] 3)).heap.size ((u.alloc (.cells #[.int .i64 3] 3)).alloc (.cells #[.int .i64 4] 3)) (some ⟨(u.alloc (.cells #[.int .i64 3] 3)).heap.size, 0, none⟩) [4] := new_lit (u.alloc (.cells #[.int .i64 3] 3)) 3 [4]
  simp only [World.size_alloc, hs] at n1 n2
  have HN : Hid (IsInts ((u.alloc (.cells #[.int .i64 3] 3)).alloc (.cells #[.int .i64 4] 3)).heap.size ((u.alloc (.cells #[.int .i64 3] 3)).alloc (.cells #[.int .i64 4] 3)) (some ⟨w.heap.size + 1 + 1 + 1, 0, none⟩) [3] ∧ IsInts ((u.alloc (.cells #[.int .i64 3] 3)).alloc (.cells #[.int .i64 4] 3)).heap.size ((u.alloc (.cells #[.int .i64 3] 3)).alloc (.cells #[.int .i64 4] 3)) (some ⟨w.heap.size + 1 + 1 + 1 + 1, 0, none⟩) [4]) := ⟨n1.ints, n2.ints⟩
  replace hb : Hid (Below w.heap.size w ((u.alloc (.cells #[.int .i64 3] 3)).alloc (.cells #[.int .i64 4] 3))) := (hb.out.alloc (by omega) _).alloc (by simp; omega) _
  replace p0 := (p0.al (.cells #[.int .i64 3] 3)).al (.cells #[.int .i64 4] 3)
  replace p1 := (p1.al (.cells #[.int .i64 3] 3)).al (.cells #[.int .i64 4] 3)
  replace p2 := (p2.al (.cells #[.int .i64 3] 3)).al (.cells #[.int .i64 4] 3)
  clear n1 n2 hs
  subst hu
  go_enter Try.func5, Try.ntmps5
  go_wp2_with fail
  refine (c2_ok H2 3 false none 0 [] (some ⟨w.heap.size + 1 + 1 + 1, 0, none⟩) 1 [3] false none 0 [] (some ⟨w.heap.size + 1 + 1 + 1 + 1, 0, none⟩) 1 [4] _ (by unfold In64; decide) (by simp) (by simp) (by simp) (by simp) (.inl rfl) HN.out.1 (.inl rfl) HN.out.2 (lit_in 3 (by decide)) (lit_in 4 (by decide)) (by decide)).mono ?_
  rintro e v1 ⟨f1, g1, f2, g2, he, _, hY, hB⟩
  replace hb : Hid (Below w.heap.size w v1) := hb.out.trans (hB.mono hb.out.size)
  replace p0 := p0.go hB
  replace p1 := p1.go hB
  replace p2 := p2.go hB
  clear hB
  clear HN
  rw [fact_v, show shp [] [] = [] by decide] at he
  rw [fact_v] at hY
  subst he
  obtain ⟨b, off, rfl, _, hcell⟩ := hY.ints.at (q := 0) (by simp)
  have hc := hcell 0 (by simp)
  rw [Nat.add_zero, nth_zero] at hc
  have hlb := World.block_lt_of_cell? _ _ hc
  clear hcell hY
  have p0_0 := p0.c0
  have p0_1 := p0.c1
  have p0_2 := p0.c2
  have p1_0 := p1.c0
  have p1_1 := p1.c1
  have p1_2 := p1.c2
  have p2_0 := p2.c0
  have p2_1 := p2.c1
  have p2_2 := p2.c2
  replace hb : Hid (Below w.heap.size w (v1.alloc (.cells #[.bool false, .slice f1 0 g1, .slice (some ⟨b, off, none⟩) 1 g2] 25))) := hb.out.alloc hb.out.size _
  replace p0 := p0.al (.cells #[.bool false, .slice f1 0 g1, .slice (some ⟨b, off, none⟩) 1 g2] 25)
  replace p1 := p1.al (.cells #[.bool false, .slice f1 0 g1, .slice (some ⟨b, off, none⟩) 1 g2] 25)
  replace p2 := p2.al (.cells #[.bool false, .slice f1 0 g1, .slice (some ⟨b, off, none⟩) 1 g2] 25)
  replace p0_0 := p0.c0
  replace p0_1 := p0.c1
  replace p0_2 := p0.c2
  replace p1_0 := p1.c0
  replace p1_1 := p1.c1
  replace p1_2 := p1.c2
  replace p2_0 := p2.c0
  replace p2_1 := p2.c1
  replace p2_2 := p2.c2
  replace hc : (v1.alloc (.cells #[.bool false, .slice f1 0 g1, .slice (some ⟨b, off, none⟩) 1 g2] 25)).cell? ⟨b, off, none⟩ = some (.int .i64 12) := (World.cell?_alloc_lt _ _ ⟨b, off, none⟩ hlb).trans hc
  go_wp2_with fail
  clear hc hlb
  refine (ints_any sa0 sc0 sz0 sa1 sc1 sz1 x1 _ _ ((HI.out.1.1.below hb.out).mono hb.out.size) ((HI.out.2.1.1.below hb.out).mono hb.out.size)).mono ?_
  rintro e v2 ⟨rfl, hB⟩
  replace hb : Hid (Below w.heap.size w v2) := hb.out.trans (hB.mono hb.out.size)
  replace p0 := p0.go hB
  replace p1 := p1.go hB
  replace p2 := p2.go hB
  replace p0_0 := p0.c0
  replace p0_1 := p0.c1
  replace p0_2 := p0.c2
  replace p1_0 := p1.c0
  replace p1_1 := p1.c1
  replace p1_2 := p1.c2
  replace p2_0 := p2.c0
  replace p2_1 := p2.c1
  replace p2_2 := p2.c2
  clear hB
  go_wp2_with fail
  refine (ints_any sa1 sc1 sz1 sa2 sc2 sz2 y1 _ _ ((HI.out.2.1.1.below hb.out).mono hb.out.size) ((HI.out.2.2.1.below hb.out).mono hb.out.size)).mono ?_
  rintro e v3 ⟨rfl, hB⟩
  replace hb : Hid (Below w.heap.size w v3) := hb.out.trans (hB.mono hb.out.size)
  replace p0 := p0.go hB
  replace p1 := p1.go hB
  replace p2 := p2.go hB
  replace p0_0 := p0.c0
  replace p0_1 := p0.c1
  replace p0_2 := p0.c2
  replace p1_0 := p1.c0
  replace p1_1 := p1.c1
  replace p1_2 := p1.c2
  replace p2_0 := p2.c0
  replace p2_1 := p2.c1
  replace p2_2 := p2.c2
  clear hB
  go_wp2_with fail
  refine (check_ok c0 sa0 sc0 sz0 da0 dc0 dz0 x1 x2 _ ((HI.out.1.1.below hb.out).mono hb.out.size) ((HI.out.1.2.1.below hb.out).mono hb.out.size) F0.out).mono ?_
  rintro e v4 ⟨rfl, hB⟩
  replace hb : Hid (Below w.heap.size w v4) := hb.out.trans (hB.mono hb.out.size)
  replace p0 := p0.go hB
  replace p1 := p1.go hB
  replace p2 := p2.go hB
  replace p0_0 := p0.c0
  replace p0_1 := p0.c1
  replace p0_2 := p0.c2
  replace p1_0 := p1.c0
  replace p1_1 := p1.c1
  replace p1_2 := p1.c2
  replace p2_0 := p2.c0
  replace p2_1 := p2.c1
  replace p2_2 := p2.c2
  clear hB
  go_wp2_with fail
  refine (check_no c1 sa1 sc1 sz1 da1 dc1 dz1 y1 y2 _ ((HI.out.2.1.1.below hb.out).mono hb.out.size) ((HI.out.2.1.2.1.below hb.out).mono hb.out.size) F1.out).mono ?_
  rintro e v5 ⟨rfl, hB⟩
  replace hb : Hid (Below w.heap.size w v5) := hb.out.trans (hB.mono hb.out.size)
  replace p0 := p0.go hB
  replace p1 := p1.go hB
  replace p2 := p2.go hB
  replace p0_0 := p0.c0
  replace p0_1 := p0.c1
  replace p0_2 := p0.c2
  replace p1_0 := p1.c0
  replace p1_1 := p1.c1
  replace p1_2 := p1.c2
  replace p2_0 := p2.c0
  replace p2_1 := p2.c1
  replace p2_2 := p2.c2
  clear hB
  go_wp2_with fail
  go_ret
  exact ⟨rfl, hb.out⟩
set_option maxRecDepth 100000 in
set_option maxHeartbeats 16000000 in
theorem ering_no2 (H2 : C2) (c0 : Bool) (sa0 : Option Addr) (sc0 : Nat) (sz0 : List Int) (da0 : Option Addr) (dc0 : Nat) (dz0 : List Int) (c1 : Bool) (sa1 : Option Addr) (sc1 : Nat) (sz1 : List Int) (da1 : Option Addr) (dc1 : Nat) (dz1 : List Int) (c2 : Bool) (sa2 : Option Addr) (sc2 : Nat) (sz2 : List Int) (da2 : Option Addr) (dc2 : Nat) (dz2 : List Int) (w : World) (w0 : IsArr w sa0 sz0 da0 dz0) (w1 : IsArr w sa1 sz1 da1 dz1) (w2 : IsArr w sa2 sz2 da2 dz2) (F0 : Hid (flawE c0 sz0 dz0 = 0)) (F1 : Hid (flawE c1 sz1 dz1 = 0)) (F2 : Hid (flawE c2 sz2 dz2 ≠ 0)) :
    Calls Try.prog 5 #[.agg #[.bool c0, .slice sa0 sz0.length sc0, .slice da0 dz0.length dc0], .agg #[.bool c1, .slice sa1 sz1.length sc1, .slice da1 dz1.length dc1], .agg #[.bool c2, .slice sa2 sz2.length sc2, .slice da2 dz2.length dc2]] w fun e w' => e = .returned (.bool true) ∧ Below w.heap.size w w' := by
  obtain ⟨x1, x2, x3, x4, _, T0⟩ := w0
  obtain ⟨y1, y2, y3, y4, _, T1⟩ := w1
  obtain ⟨z1, z2, z3, z4, _, T2⟩ := w2
  have HI : Hid ((IsInts w.heap.size w sa0 sz0 ∧ IsInts w.heap.size w da0 dz0 ∧ ∀ j, In64 (nth dz0 j)) ∧ (IsInts w.heap.size w sa1 sz1 ∧ IsInts w.heap.size w da1 dz1 ∧ ∀ j, In64 (nth dz1 j)) ∧ (IsInts w.heap.size w sa2 sz2 ∧ IsInts w.heap.size w da2 dz2 ∧ ∀ j, In64 (nth dz2 j))) := ⟨⟨x3, x4, T0⟩, ⟨y3, y4, T1⟩, ⟨z3, z4, T2⟩⟩
  clear x3 x4 T0 y3 y4 T1 z3 z4 T2
  have p0 : Abx (((w.alloc (.cells #[.bool c0, .slice sa0 sz0.length sc0, .slice da0 dz0.length dc0] 25)).alloc (.cells #[.bool c1, .slice sa1 sz1.length sc1, .slice da1 dz1.length dc1] 25)).alloc (.cells #[.bool c2, .slice sa2 sz2.length sc2, .slice da2 dz2.length dc2] 25)) w.heap.size (.bool c0) (.slice sa0 sz0.length sc0) (.slice da0 dz0.length dc0) := ((Abx.new w _ _ _).al _).al _
  have p1 : Abx (((w.alloc (.cells #[.bool c0, .slice sa0 sz0.length sc0, .slice da0 dz0.length dc0] 25)).alloc (.cells #[.bool c1, .slice sa1 sz1.length sc1, .slice da1 dz1.length dc1] 25)).alloc (.cells #[.bool c2, .slice sa2 sz2.length sc2, .slice da2 dz2.length dc2] 25)) (w.heap.size + 1) (.bool c1) (.slice sa1 sz1.length sc1) (.slice da1 dz1.length dc1) := (Abx.new1 w _ _ _ _).al _
  have p2 := Abx.new ((w.alloc (.cells #[.bool c0, .slice sa0 sz0.length sc0, .slice da0 dz0.length dc0] 25)).alloc (.cells #[.bool c1, .slice sa1 sz1.length sc1, .slice da1 dz1.length dc1] 25)) (.bool c2) (.slice sa2 sz2.length sc2) (.slice da2 dz2.length dc2)
  simp only [World.size_alloc] at p2
  have hs : (((w.alloc (.cells #[.bool c0, .slice sa0 sz0.length sc0, .slice da0 dz0.length dc0] 25)).alloc (.cells #[.bool c1, .slice sa1 sz1.length sc1, .slice da1 dz1.length dc1] 25)).alloc (.cells #[.bool c2, .slice sa2 sz2.length sc2, .slice da2 dz2.length dc2] 25)).heap.size = w.heap.size + 1 + 1 + 1 := by simp
  have hb : Hid (Below w.heap.size w (((w.alloc (.cells #[.bool c0, .slice sa0 sz0.length sc0, .slice da0 dz0.length dc0] 25)).alloc (.cells #[.bool c1, .slice sa1 sz1.length sc1, .slice da1 dz1.length dc1] 25)).alloc (.cells #[.bool c2, .slice sa2 sz2.length sc2, .slice da2 dz2.length dc2] 25))) := (((Below.refl _ w).alloc (Nat.le_refl _) _).alloc (by simp) _).alloc (by simp; omega) _
  obtain ⟨u, hu⟩ : ∃ u, u = (((w.alloc (.cells #[.bool c0, .slice sa0 sz0.length sc0, .slice da0 dz0.length dc0] 25)).alloc (.cells #[.bool c1, .slice sa1 sz1.length sc1, .slice da1 dz1.length dc1] 25)).alloc (.cells #[.bool c2, .slice sa2 sz2.length sc2, .slice da2 dz2.length dc2] 25)) := ⟨_, rfl⟩
  rw [← hu] at p0 p1 p2 hs hb
  have n1 : NewInts u.heap.size ((u.alloc (.cells #[.int .i64 3] 3)).alloc (.cells #[.int .i64 4] 3)) (some ⟨u.heap.size, 0, none⟩) [3] := (new_lit u 3 [3]).al _
  have n2 : NewInts (u.alloc (.cells #[.int .i64 3] 3)).heap.size ((u.alloc (.cells #[.int .i64 3] 3)).alloc (.cells #[.int .i64 4] 3)) (some ⟨(u.alloc (.cells #[.int .i64 3] 3)).heap.size, 0, none⟩) [4] := new_lit (u.alloc (.cells #[.int .i64 3] 3)) 3 [4]
  simp only [World.size_alloc, hs] at n1 n2
  have HN : Hid (IsInts ((u.alloc (.cells #[.int .i64 3] 3)).alloc (.cells #[.int .i64 4] 3)).heap.size ((u.alloc (.cells #[.int .i64 3] 3)).alloc (.cells #[.int .i64 4] 3)) (some ⟨w.heap.size + 1 + 1 + 1, 0, none⟩) [3] ∧ IsInts ((u.alloc (.cells #[.int .i64 3] 3)).alloc (.cells #[.int .i64 4] 3)).heap.size ((u.alloc (.cells #[.int .i64 3] 3)).alloc (.cells #[.int .i64 4] 3)) (some ⟨w.heap.size + 1 + 1 + 1 + 1, 0, none⟩) [4]) := ⟨n1.ints, n2.ints⟩
  replace hb : Hid (Below w.heap.size w ((u.alloc (.cells #[.int .i64 3] 3)).alloc (.cells #[.int .i64 4] 3))) := (hb.out.alloc (by omega) _).alloc (by simp; omega) _
  replace p0 := (p0.al (.cells #[.int .i64 3] 3)).al (.cells #[.int .i64 4] 3)
  replace p1 := (p1.al (.cells #[.int .i64 3] 3)).al (.cells #[.int .i64 4] 3)
  replace p2 := (p2.al (.cells #[.int .i64 3] 3)).al (.cells #[.int .i64 4] 3)
  clear n1 n2 hs
  subst hu
  go_enter Try.func5, Try.ntmps5
  go_wp2_with fail
  refine (c2_ok H2 3 false none 0 [] (some ⟨w.heap.size + 1 + 1 + 1, 0, none⟩) 1 [3] false none 0 [] (some ⟨w.heap.size + 1 + 1 + 1 + 1, 0, none⟩) 1 [4] _ (by unfold In64; decide) (by simp) (by simp) (by simp) (by simp) (.inl rfl) HN.out.1 (.inl rfl) HN.out.2 (lit_in 3 (by decide)) (lit_in 4 (by decide)) (by decide)).mono ?_
  rintro e v1 ⟨f1, g1, f2, g2, he, _, hY, hB⟩
  replace hb : Hid (Below w.heap.size w v1) := hb.out.trans (hB.mono hb.out.size)
  replace p0 := p0.go hB
  replace p1 := p1.go hB
  replace p2 := p2.go hB
  clear hB
  clear HN
  rw [fact_v, show shp [] [] = [] by decide] at he
  rw [fact_v] at hY
  subst he
  obtain ⟨b, off, rfl, _, hcell⟩ := hY.ints.at (q := 0) (by simp)
  have hc := hcell 0 (by simp)
  rw [Nat.add_zero, nth_zero] at hc
  have hlb := World.block_lt_of_cell? _ _ hc
  clear hcell hY
  have p0_0 := p0.c0
  have p0_1 := p0.c1
  have p0_2 := p0.c2
  have p1_0 := p1.c0
  have p1_1 := p1.c1
  have p1_2 := p1.c2
  have p2_0 := p2.c0
  have p2_1 := p2.c1
  have p2_2 := p2.c2
  replace hb : Hid (Below w.heap.size w (v1.alloc (.cells #[.bool false, .slice f1 0 g1, .slice (some ⟨b, off, none⟩) 1 g2] 25))) := hb.out.alloc hb.out.size _
  replace p0 := p0.al (.cells #[.bool false, .slice f1 0 g1, .slice (some ⟨b, off, none⟩) 1 g2] 25)
  replace p1 := p1.al (.cells #[.bool false, .slice f1 0 g1, .slice (some ⟨b, off, none⟩) 1 g2] 25)
  replace p2 := p2.al (.cells #[.bool false, .slice f1 0 g1, .slice (some ⟨b, off, none⟩) 1 g2] 25)
  replace p0_0 := p0.c0
  replace p0_1 := p0.c1
  replace p0_2 := p0.c2
  replace p1_0 := p1.c0
  replace p1_1 := p1.c1
  replace p1_2 := p1.c2
  replace p2_0 := p2.c0
  replace p2_1 := p2.c1
  replace p2_2 := p2.c2
  replace hc : (v1.alloc (.cells #[.bool false, .slice f1 0 g1, .slice (some ⟨b, off, none⟩) 1 g2] 25)).cell? ⟨b, off, none⟩ = some (.int .i64 12) := (World.cell?_alloc_lt _ _ ⟨b, off, none⟩ hlb).trans hc
  go_wp2_with fail
  clear hc hlb
  refine (ints_any sa0 sc0 sz0 sa1 sc1 sz1 x1 _ _ ((HI.out.1.1.below hb.out).mono hb.out.size) ((HI.out.2.1.1.below hb.out).mono hb.out.size)).mono ?_
  rintro e v2 ⟨rfl, hB⟩
  replace hb : Hid (Below w.heap.size w v2) := hb.out.trans (hB.mono hb.out.size)
  replace p0 := p0.go hB
  replace p1 := p1.go hB
  replace p2 := p2.go hB
  replace p0_0 := p0.c0
  replace p0_1 := p0.c1
  replace p0_2 := p0.c2
  replace p1_0 := p1.c0
  replace p1_1 := p1.c1
  replace p1_2 := p1.c2
  replace p2_0 := p2.c0
  replace p2_1 := p2.c1
  replace p2_2 := p2.c2
  clear hB
  go_wp2_with fail
  refine (ints_any sa1 sc1 sz1 sa2 sc2 sz2 y1 _ _ ((HI.out.2.1.1.below hb.out).mono hb.out.size) ((HI.out.2.2.1.below hb.out).mono hb.out.size)).mono ?_
  rintro e v3 ⟨rfl, hB⟩
  replace hb : Hid (Below w.heap.size w v3) := hb.out.trans (hB.mono hb.out.size)
  replace p0 := p0.go hB
  replace p1 := p1.go hB
  replace p2 := p2.go hB
  replace p0_0 := p0.c0
  replace p0_1 := p0.c1
  replace p0_2 := p0.c2
  replace p1_0 := p1.c0
  replace p1_1 := p1.c1
  replace p1_2 := p1.c2
  replace p2_0 := p2.c0
  replace p2_1 := p2.c1
  replace p2_2 := p2.c2
  clear hB
  go_wp2_with fail
  refine (check_ok c0 sa0 sc0 sz0 da0 dc0 dz0 x1 x2 _ ((HI.out.1.1.below hb.out).mono hb.out.size) ((HI.out.1.2.1.below hb.out).mono hb.out.size) F0.out).mono ?_
  rintro e v4 ⟨rfl, hB⟩
  replace hb : Hid (Below w.heap.size w v4) := hb.out.trans (hB.mono hb.out.size)
  replace p0 := p0.go hB
  replace p1 := p1.go hB
  replace p2 := p2.go hB
  replace p0_0 := p0.c0
  replace p0_1 := p0.c1
  replace p0_2 := p0.c2
  replace p1_0 := p1.c0
  replace p1_1 := p1.c1
  replace p1_2 := p1.c2
  replace p2_0 := p2.c0
  replace p2_1 := p2.c1
  replace p2_2 := p2.c2
  clear hB
  go_wp2_with fail
  refine (check_ok c1 sa1 sc1 sz1 da1 dc1 dz1 y1 y2 _ ((HI.out.2.1.1.below hb.out).mono hb.out.size) ((HI.out.2.1.2.1.below hb.out).mono hb.out.size) F1.out).mono ?_
  rintro e v5 ⟨rfl, hB⟩
  replace hb : Hid (Below w.heap.size w v5) := hb.out.trans (hB.mono hb.out.size)
  replace p0 := p0.go hB
  replace p1 := p1.go hB
  replace p2 := p2.go hB
  replace p0_0 := p0.c0
  replace p0_1 := p0.c1
  replace p0_2 := p0.c2
  replace p1_0 := p1.c0
  replace p1_1 := p1.c1
  replace p1_2 := p1.c2
  replace p2_0 := p2.c0
  replace p2_1 := p2.c1
  replace p2_2 := p2.c2
  clear hB
  go_wp2_with fail
  refine (check_no c2 sa2 sc2 sz2 da2 dc2 dz2 z1 z2 _ ((HI.out.2.2.1.below hb.out).mono hb.out.size) ((HI.out.2.2.2.1.below hb.out).mono hb.out.size) F2.out).mono ?_
  rintro e v6 ⟨rfl, hB⟩
  replace hb : Hid (Below w.heap.size w v6) := hb.out.trans (hB.mono hb.out.size)
  replace p0 := p0.go hB
  replace p1 := p1.go hB
  replace p2 := p2.go hB
  replace p0_0 := p0.c0
  replace p0_1 := p0.c1
  replace p0_2 := p0.c2
  replace p1_0 := p1.c0
  replace p1_1 := p1.c1
  replace p1_2 := p1.c2
  replace p2_0 := p2.c0
  replace p2_1 := p2.c1
  replace p2_2 := p2.c2
  clear hB
  go_wp2_with fail
  go_ret
  exact ⟨rfl, hb.out⟩
set_option maxRecDepth 100000 in
set_option maxHeartbeats 16000000 in
theorem ering_char0 (H2 : C2) (sa0 : Option Addr) (sc0 : Nat) (sz0 : List Int) (da0 : Option Addr) (dc0 : Nat) (dz0 : List Int) (c1 : Bool) (sa1 : Option Addr) (sc1 : Nat) (sz1 : List Int) (da1 : Option Addr) (dc1 : Nat) (dz1 : List Int) (c2 : Bool) (sa2 : Option Addr) (sc2 : Nat) (sz2 : List Int) (da2 : Option Addr) (dc2 : Nat) (dz2 : List Int) (w : World) (w0 : IsArr w sa0 sz0 da0 dz0) (w1 : IsArr w sa1 sz1 da1 dz1) (w2 : IsArr w sa2 sz2 da2 dz2) (F0 : Hid (flawE true sz0 dz0 = 0)) (F1 : Hid (flawE c1 sz1 dz1 = 0)) (F2 : Hid (flawE c2 sz2 dz2 = 0)) :
    Calls Try.prog 5 #[.agg #[.bool true, .slice sa0 sz0.length sc0, .slice da0 dz0.length dc0], .agg #[.bool c1, .slice sa1 sz1.length sc1, .slice da1 dz1.length dc1], .agg #[.bool c2, .slice sa2 sz2.length sc2, .slice da2 dz2.length dc2]] w fun e w' => e = .returned (.bool true) ∧ Below w.heap.size w w' := by
  obtain ⟨x1, x2, x3, x4, _, T0⟩ := w0
  obtain ⟨y1, y2, y3, y4, _, T1⟩ := w1
  obtain ⟨z1, z2, z3, z4, _, T2⟩ := w2
  have HI : Hid ((IsInts w.heap.size w sa0 sz0 ∧ IsInts w.heap.size w da0 dz0 ∧ ∀ j, In64 (nth dz0 j)) ∧ (IsInts w.heap.size w sa1 sz1 ∧ IsInts w.heap.size w da1 dz1 ∧ ∀ j, In64 (nth dz1 j)) ∧ (IsInts w.heap.size w sa2 sz2 ∧ IsInts w.heap.size w da2 dz2 ∧ ∀ j, In64 (nth dz2 j))) := ⟨⟨x3, x4, T0⟩, ⟨y3, y4, T1⟩, ⟨z3, z4, T2⟩⟩
  clear x3 x4 T0 y3 y4 T1 z3 z4 T2
  have p0 : Abx (((w.alloc (.cells #[.bool true, .slice sa0 sz0.length sc0, .slice da0 dz0.length dc0] 25)).alloc (.cells #[.bool c1, .slice sa1 sz1.length sc1, .slice da1 dz1.length dc1] 25)).alloc (.cells #[.bool c2, .slice sa2 sz2.length sc2, .slice da2 dz2.length dc2] 25)) w.heap.size (.bool true) (.slice sa0 sz0.length sc0) (.slice da0 dz0.length dc0) := ((Abx.new w _ _ _).al _).al _
  have p1 : Abx (((w.alloc (.cells #[.bool true, .slice sa0 sz0.length sc0, .slice da0 dz0.length dc0] 25)).alloc (.cells #[.bool c1, .slice sa1 sz1.length sc1, .slice da1 dz1.length dc1] 25)).alloc (.cells #[.bool c2, .slice sa2 sz2.length sc2, .slice da2 dz2.length dc2] 25)) (w.heap.size + 1) (.bool c1) (.slice sa1 sz1.length sc1) (.slice da1 dz1.length dc1) := (Abx.new1 w _ _ _ _).al _
  have p2 := Abx.new ((w.alloc (.cells #[.bool true, .slice sa0 sz0.length sc0, .slice da0 dz0.length dc0] 25)).alloc (.cells #[.bool c1, .slice sa1 sz1.length sc1, .slice da1 dz1.length dc1] 25)) (.bool c2) (.slice sa2 sz2.length sc2) (.slice da2 dz2.length dc2)
  simp only [World.size_alloc] at p2
  have hs : (((w.alloc (.cells #[.bool true, .slice sa0 sz0.length sc0, .slice da0 dz0.length dc0] 25)).alloc (.cells #[.bool c1, .slice sa1 sz1.length sc1, .slice da1 dz1.length dc1] 25)).alloc (.cells #[.bool c2, .slice sa2 sz2.length sc2, .slice da2 dz2.length dc2] 25)).heap.size = w.heap.size + 1 + 1 + 1 := by simp
  have hb : Hid (Below w.heap.size w (((w.alloc (.cells #[.bool true, .slice sa0 sz0.length sc0, .slice da0 dz0.length dc0] 25)).alloc (.cells #[.bool c1, .slice sa1 sz1.length sc1, .slice da1 dz1.length dc1] 25)).alloc (.cells #[.bool c2, .slice sa2 sz2.length sc2, .slice da2 dz2.length dc2] 25))) := (((Below.refl _ w).alloc (Nat.le_refl _) _).alloc (by simp) _).alloc (by simp; omega) _
  obtain ⟨u, hu⟩ : ∃ u, u = (((w.alloc (.cells #[.bool true, .slice sa0 sz0.length sc0, .slice da0 dz0.length dc0] 25)).alloc (.cells #[.bool c1, .slice sa1 sz1.length sc1, .slice da1 dz1.length dc1] 25)).alloc (.cells #[.bool c2, .slice sa2 sz2.length sc2, .slice da2 dz2.length dc2] 25)) := ⟨_, rfl⟩
  rw [← hu] at p0 p1 p2 hs hb
  have n1 : NewInts u.heap.size ((u.alloc (.cells #[.int .i64 3] 3)).alloc (.cells #[.int .i64 4] 3)) (some ⟨u.heap.size, 0, none⟩) [3] := (new_lit u 3 [3]).al _
  have n2 : NewInts (u.alloc (.cells #[.int .i64 3] 3)).heap.size ((u.alloc (.cells #[.int .i64 3] 3)).alloc (.cells #[.int .i64 4] 3)) (some ⟨(u.alloc (.cells #[.int .i64 3] 3)).heap.size, 0, none⟩) [4] := new_lit (u.alloc (.cells #[.int .i64 3] 3)) 3 [4]
  simp only [World.size_alloc, hs] at n1 n2
  have HN : Hid (IsInts ((u.alloc (.cells #[.int .i64 3] 3)).alloc (.cells #[.int .i64 4] 3)).heap.size ((u.alloc (.cells #[.int .i64 3] 3)).alloc (.cells #[.int .i64 4] 3)) (some ⟨w.heap.size + 1 + 1 + 1, 0, none⟩) [3] ∧ IsInts ((u.alloc (.cells #[.int .i64 3] 3)).alloc (.cells #[.int .i64 4] 3)).heap.size ((u.alloc (.cells #[.int .i64 3] 3)).alloc (.cells #[.int .i64 4] 3)) (some ⟨w.heap.size + 1 + 1 + 1 + 1, 0, none⟩) [4]) := ⟨n1.ints, n2.ints⟩
  replace hb : Hid (Below w.heap.size w ((u.alloc (.cells #[.int .i64 3] 3)).alloc (.cells #[.int .i64 4] 3))) := (hb.out.alloc (by omega) _).alloc (by simp; omega) _
  replace p0 := (p0.al (.cells #[.int .i64 3] 3)).al (.cells #[.int .i64 4] 3)
  replace p1 := (p1.al (.cells #[.int .i64 3] 3)).al (.cells #[.int .i64 4] 3)
  replace p2 := (p2.al (.cells #[.int .i64 3] 3)).al (.cells #[.int .i64 4] 3)
  clear n1 n2 hs
  subst hu
  go_enter Try.func5, Try.ntmps5
  go_wp2_with fail
  refine (c2_ok H2 3 false none 0 [] (some ⟨w.heap.size + 1 + 1 + 1, 0, none⟩) 1 [3] false none 0 [] (some ⟨w.heap.size + 1 + 1 + 1 + 1, 0, none⟩) 1 [4] _ (by unfold In64; decide) (by simp) (by simp) (by simp) (by simp) (.inl rfl) HN.out.1 (.inl rfl) HN.out.2 (lit_in 3 (by decide)) (lit_in 4 (by decide)) (by decide)).mono ?_
  rintro e v1 ⟨f1, g1, f2, g2, he, _, hY, hB⟩
  replace hb : Hid (Below w.heap.size w v1) := hb.out.trans (hB.mono hb.out.size)
  replace p0 := p0.go hB
  replace p1 := p1.go hB
  replace p2 := p2.go hB
  clear hB
  clear HN
  rw [fact_v, show shp [] [] = [] by decide] at he
  rw [fact_v] at hY
  subst he
  obtain ⟨b, off, rfl, _, hcell⟩ := hY.ints.at (q := 0) (by simp)
  have hc := hcell 0 (by simp)
  rw [Nat.add_zero, nth_zero] at hc
  have hlb := World.block_lt_of_cell? _ _ hc
  clear hcell hY
  have p0_0 := p0.c0
  have p0_1 := p0.c1
  have p0_2 := p0.c2
  have p1_0 := p1.c0
  have p1_1 := p1.c1
  have p1_2 := p1.c2
  have p2_0 := p2.c0
  have p2_1 := p2.c1
  have p2_2 := p2.c2
  replace hb : Hid (Below w.heap.size w (v1.alloc (.cells #[.bool false, .slice f1 0 g1, .slice (some ⟨b, off, none⟩) 1 g2] 25))) := hb.out.alloc hb.out.size _
  replace p0 := p0.al (.cells #[.bool false, .slice f1 0 g1, .slice (some ⟨b, off, none⟩) 1 g2] 25)
  replace p1 := p1.al (.cells #[.bool false, .slice f1 0 g1, .slice (some ⟨b, off, none⟩) 1 g2] 25)
  replace p2 := p2.al (.cells #[.bool false, .slice f1 0 g1, .slice (some ⟨b, off, none⟩) 1 g2] 25)
  replace p0_0 := p0.c0
  replace p0_1 := p0.c1
  replace p0_2 := p0.c2
  replace p1_0 := p1.c0
  replace p1_1 := p1.c1
  replace p1_2 := p1.c2
  replace p2_0 := p2.c0
  replace p2_1 := p2.c1
  replace p2_2 := p2.c2
  replace hc : (v1.alloc (.cells #[.bool false, .slice f1 0 g1, .slice (some ⟨b, off, none⟩) 1 g2] 25)).cell? ⟨b, off, none⟩ = some (.int .i64 12) := (World.cell?_alloc_lt _ _ ⟨b, off, none⟩ hlb).trans hc
  go_wp2_with fail
  clear hc hlb
  refine (ints_any sa0 sc0 sz0 sa1 sc1 sz1 x1 _ _ ((HI.out.1.1.below hb.out).mono hb.out.size) ((HI.out.2.1.1.below hb.out).mono hb.out.size)).mono ?_
  rintro e v2 ⟨rfl, hB⟩
  replace hb : Hid (Below w.heap.size w v2) := hb.out.trans (hB.mono hb.out.size)
  replace p0 := p0.go hB
  replace p1 := p1.go hB
  replace p2 := p2.go hB
  replace p0_0 := p0.c0
  replace p0_1 := p0.c1
  replace p0_2 := p0.c2
  replace p1_0 := p1.c0
  replace p1_1 := p1.c1
  replace p1_2 := p1.c2
  replace p2_0 := p2.c0
  replace p2_1 := p2.c1
  replace p2_2 := p2.c2
  clear hB
  go_wp2_with fail
  refine (ints_any sa1 sc1 sz1 sa2 sc2 sz2 y1 _ _ ((HI.out.2.1.1.below hb.out).mono hb.out.size) ((HI.out.2.2.1.below hb.out).mono hb.out.size)).mono ?_
  rintro e v3 ⟨rfl, hB⟩
  replace hb : Hid (Below w.heap.size w v3) := hb.out.trans (hB.mono hb.out.size)
  replace p0 := p0.go hB
  replace p1 := p1.go hB
  replace p2 := p2.go hB
  replace p0_0 := p0.c0
  replace p0_1 := p0.c1
  replace p0_2 := p0.c2
  replace p1_0 := p1.c0
  replace p1_1 := p1.c1
  replace p1_2 := p1.c2
  replace p2_0 := p2.c0
  replace p2_1 := p2.c1
  replace p2_2 := p2.c2
  clear hB
  go_wp2_with fail
  refine (check_ok true sa0 sc0 sz0 da0 dc0 dz0 x1 x2 _ ((HI.out.1.1.below hb.out).mono hb.out.size) ((HI.out.1.2.1.below hb.out).mono hb.out.size) F0.out).mono ?_
  rintro e v4 ⟨rfl, hB⟩
  replace hb : Hid (Below w.heap.size w v4) := hb.out.trans (hB.mono hb.out.size)
  replace p0 := p0.go hB
  replace p1 := p1.go hB
  replace p2 := p2.go hB
  replace p0_0 := p0.c0
  replace p0_1 := p0.c1
  replace p0_2 := p0.c2
  replace p1_0 := p1.c0
  replace p1_1 := p1.c1
  replace p1_2 := p1.c2
  replace p2_0 := p2.c0
  replace p2_1 := p2.c1
  replace p2_2 := p2.c2
  clear hB
  go_wp2_with fail
  refine (check_ok c1 sa1 sc1 sz1 da1 dc1 dz1 y1 y2 _ ((HI.out.2.1.1.below hb.out).mono hb.out.size) ((HI.out.2.1.2.1.below hb.out).mono hb.out.size) F1.out).mono ?_
  rintro e v5 ⟨rfl, hB⟩
  replace hb : Hid (Below w.heap.size w v5) := hb.out.trans (hB.mono hb.out.size)
  replace p0 := p0.go hB
  replace p1 := p1.go hB
  replace p2 := p2.go hB
  replace p0_0 := p0.c0
  replace p0_1 := p0.c1
  replace p0_2 := p0.c2
  replace p1_0 := p1.c0
  replace p1_1 := p1.c1
  replace p1_2 := p1.c2
  replace p2_0 := p2.c0
  replace p2_1 := p2.c1
  replace p2_2 := p2.c2
  clear hB
  go_wp2_with fail
  refine (check_ok c2 sa2 sc2 sz2 da2 dc2 dz2 z1 z2 _ ((HI.out.2.2.1.below hb.out).mono hb.out.size) ((HI.out.2.2.2.1.below hb.out).mono hb.out.size) F2.out).mono ?_
  rintro e v6 ⟨rfl, hB⟩
  replace hb : Hid (Below w.heap.size w v6) := hb.out.trans (hB.mono hb.out.size)
  replace p0 := p0.go hB
  replace p1 := p1.go hB
  replace p2 := p2.go hB
  replace p0_0 := p0.c0
  replace p0_1 := p0.c1
  replace p0_2 := p0.c2
  replace p1_0 := p1.c0
  replace p1_1 := p1.c1
  replace p1_2 := p1.c2
  replace p2_0 := p2.c0
  replace p2_1 := p2.c1
  replace p2_2 := p2.c2
  clear hB
  go_wp2_with fail
  go_ret
  exact ⟨rfl, hb.out⟩
set_option maxRecDepth 100000 in
set_option maxHeartbeats 16000000 in
theorem ering_char1 (H2 : C2) (sa0 : Option Addr) (sc0 : Nat) (sz0 : List Int) (da0 : Option Addr) (dc0 : Nat) (dz0 : List Int) (sa1 : Option Addr) (sc1 : Nat) (sz1 : List Int) (da1 : Option Addr) (dc1 : Nat) (dz1 : List Int) (c2 : Bool) (sa2 : Option Addr) (sc2 : Nat) (sz2 : List Int) (da2 : Option Addr) (dc2 : Nat) (dz2 : List Int) (w : World) (w0 : IsArr w sa0 sz0 da0 dz0) (w1 : IsArr w sa1 sz1 da1 dz1) (w2 : IsArr w sa2 sz2 da2 dz2) (F0 : Hid (flawE false sz0 dz0 = 0)) (F1 : Hid (flawE true sz1 dz1 = 0)) (F2 : Hid (flawE c2 sz2 dz2 = 0)) :
    Calls Try.prog 5 #[.agg #[.bool false, .slice sa0 sz0.length sc0, .slice da0 dz0.length dc0], .agg #[.bool true, .slice sa1 sz1.length sc1, .slice da1 dz1.length dc1], .agg #[.bool c2, .slice sa2 sz2.length sc2, .slice da2 dz2.length dc2]] w fun e w' => e = .returned (.bool true) ∧ Below w.heap.size w w' := by
  obtain ⟨x1, x2, x3, x4, _, T0⟩ := w0
  obtain ⟨y1, y2, y3, y4, _, T1⟩ := w1
  obtain ⟨z1, z2, z3, z4, _, T2⟩ := w2
  have HI : Hid ((IsInts w.heap.size w sa0 sz0 ∧ IsInts w.heap.size w da0 dz0 ∧ ∀ j, In64 (nth dz0 j)) ∧ (IsInts w.heap.size w sa1 sz1 ∧ IsInts w.heap.size w da1 dz1 ∧ ∀ j, In64 (nth dz1 j)) ∧ (IsInts w.heap.size w sa2 sz2 ∧ IsInts w.heap.size w da2 dz2 ∧ ∀ j, In64 (nth dz2 j))) := ⟨⟨x3, x4, T0⟩, ⟨y3, y4, T1⟩, ⟨z3, z4, T2⟩⟩
  clear x3 x4 T0 y3 y4 T1 z3 z4 T2
  have p0 : Abx (((w.alloc (.cells #[.bool false, .slice sa0 sz0.length sc0, .slice da0 dz0.length dc0] 25)).alloc (.cells #[.bool true, .slice sa1 sz1.length sc1, .slice da1 dz1.length dc1] 25)).alloc (.cells #[.bool c2, .slice sa2 sz2.length sc2, .slice da2 dz2.length dc2] 25)) w.heap.size (.bool false) (.slice sa0 sz0.length sc0) (.slice da0 dz0.length dc0) := ((Abx.new w _ _ _).al _).al _
  have p1 : Abx (((w.alloc (.cells #[.bool false, .slice sa0 sz0.length sc0, .slice da0 dz0.length dc0] 25)).alloc (.cells #[.bool true, .slice sa1 sz1.length sc1, .slice da1 dz1.length dc1] 25)).alloc (.cells #[.bool c2, .slice sa2 sz2.length sc2, .slice da2 dz2.length dc2] 25)) (w.heap.size + 1) (.bool true) (.slice sa1 sz1.length sc1) (.slice da1 dz1.length dc1) := (Abx.new1 w _ _ _ _).al _
  have p2 := Abx.new ((w.alloc (.cells #[.bool false, .slice sa0 sz0.length sc0, .slice da0 dz0.length dc0] 25)).alloc (.cells #[.bool true, .slice sa1 sz1.length sc1, .slice da1 dz1.length dc1] 25)) (.bool c2) (.slice sa2 sz2.length sc2) (.slice da2 dz2.length dc2)
  simp only [World.size_alloc] at p2
  have hs : (((w.alloc (.cells #[.bool false, .slice sa0 sz0.length sc0, .slice da0 dz0.length dc0] 25)).alloc (.cells #[.bool true, .slice sa1 sz1.length sc1, .slice da1 dz1.length dc1] 25)).alloc (.cells #[.bool c2, .slice sa2 sz2.length sc2, .slice da2 dz2.length dc2] 25)).heap.size = w.heap.size + 1 + 1 + 1 := by simp
  have hb : Hid (Below w.heap.size w (((w.alloc (.cells #[.bool false, .slice sa0 sz0.length sc0, .slice da0 dz0.length dc0] 25)).alloc (.cells #[.bool true, .slice sa1 sz1.length sc1, .slice da1 dz1.length dc1] 25)).alloc (.cells #[.bool c2, .slice sa2 sz2.length sc2, .slice da2 dz2.length dc2] 25))) := (((Below.refl _ w).alloc (Nat.le_refl _) _).alloc (by simp) _).alloc (by simp; omega) _
  obtain ⟨u, hu⟩ : ∃ u, u = (((w.alloc (.cells #[.bool false, .slice sa0 sz0.length sc0, .slice da0 dz0.length dc0] 25)).alloc (.cells #[.bool true, .slice sa1 sz1.length sc1, .slice da1 dz1.length dc1] 25)).alloc (.cells #[.bool c2, .slice sa2 sz2.length sc2, .slice da2 dz2.length dc2] 25)) := ⟨_, rfl⟩
  rw [← hu] at p0 p1 p2 hs hb
  have n1 : NewInts u.heap.size ((u.alloc (.cells #[.int .i64 3] 3)).alloc (.cells #[.int .i64 4] 3)) (some ⟨u.heap.size, 0, none⟩) [3] := (new_lit u 3 [3]).al _
  have n2 : NewInts (u.alloc (.cells #[.int .i64 3] 3)).heap.size ((u.alloc (.cells #[.int .i64 3] 3)).alloc (.cells #[.int .i64 4] 3)) (some ⟨(u.alloc (.cells #[.int .i64 3] 3)).heap.size, 0, none⟩) [4] := new_lit (u.alloc (.cells #[.int .i64 3] 3)) 3 [4]
  simp only [World.size_alloc, hs] at n1 n2
  have HN : Hid (IsInts ((u.alloc (.cells #[.int .i64 3] 3)).alloc (.cells #[.int .i64 4] 3)).heap.size ((u.alloc (.cells #[.int .i64 3] 3)).alloc (.cells #[.int .i64 4] 3)) (some ⟨w.heap.size + 1 + 1 + 1, 0, none⟩) [3] ∧ IsInts ((u.alloc (.cells #[.int .i64 3] 3)).alloc (.cells #[.int .i64 4] 3)).heap.size ((u.alloc (.cells #[.int .i64 3] 3)).alloc (.cells #[.int .i64 4] 3)) (some ⟨w.heap.size + 1 + 1 + 1 + 1, 0, none⟩) [4]) := ⟨n1.ints, n2.ints⟩
  replace hb : Hid (Below w.heap.size w ((u.alloc (.cells #[.int .i64 3] 3)).alloc (.cells #[.int .i64 4] 3))) := (hb.out.alloc (by omega) _).alloc (by simp; omega) _
  replace p0 := (p0.al (.cells #[.int .i64 3] 3)).al (.cells #[.int .i64 4] 3)
  replace p1 := (p1.al (.cells #[.int .i64 3] 3)).al (.cells #[.int .i64 4] 3)
  replace p2 := (p2.al (.cells #[.int .i64 3] 3)).al (.cells #[.int .i64 4] 3)
  clear n1 n2 hs
  subst hu
  go_enter Try.func5, Try.ntmps5
  go_wp2_with fail
  refine (c2_ok H2 3 false none 0 [] (some ⟨w.heap.size + 1 + 1 + 1, 0, none⟩) 1 [3] false none 0 [] (some ⟨w.heap.size + 1 + 1 + 1 + 1, 0, none⟩) 1 [4] _ (by unfold In64; decide) (by simp) (by simp) (by simp) (by simp) (.inl rfl) HN.out.1 (.inl rfl) HN.out.2 (lit_in 3 (by decide)) (lit_in 4 (by decide)) (by decide)).mono ?_
  rintro e v1 ⟨f1, g1, f2, g2, he, _, hY, hB⟩
  replace hb : Hid (Below w.heap.size w v1) := hb.out.trans (hB.mono hb.out.size)
  replace p0 := p0.go hB
  replace p1 := p1.go hB
  replace p2 := p2.go hB
  clear hB
  clear HN
  rw [fact_v, show shp [] [] = [] by decide] at he
  rw [fact_v] at hY
  subst he
  obtain ⟨b, off, rfl, _, hcell⟩ := hY.ints.at (q := 0) (by simp)
  have hc := hcell 0 (by simp)
  rw [Nat.add_zero, nth_zero] at hc
  have hlb := World.block_lt_of_cell? _ _ hc
  clear hcell hY
  have p0_0 := p0.c0
  have p0_1 := p0.c1
  have p0_2 := p0.c2
  have p1_0 := p1.c0
  have p1_1 := p1.c1
  have p1_2 := p1.c2
  have p2_0 := p2.c0
  have p2_1 := p2.c1
  have p2_2 := p2.c2
  replace hb : Hid (Below w.heap.size w (v1.alloc (.cells #[.bool false, .slice f1 0 g1, .slice (some ⟨b, off, none⟩) 1 g2] 25))) := hb.out.alloc hb.out.size _
  replace p0 := p0.al (.cells #[.bool false, .slice f1 0 g1, .slice (some ⟨b, off, none⟩) 1 g2] 25)
  replace p1 := p1.al (.cells #[.bool false, .slice f1 0 g1, .slice (some ⟨b, off, none⟩) 1 g2] 25)
  replace p2 := p2.al (.cells #[.bool false, .slice f1 0 g1, .slice (some ⟨b, off, none⟩) 1 g2] 25)
  replace p0_0 := p0.c0
  replace p0_1 := p0.c1
  replace p0_2 := p0.c2
  replace p1_0 := p1.c0
  replace p1_1 := p1.c1
  replace p1_2 := p1.c2
  replace p2_0 := p2.c0
  replace p2_1 := p2.c1
  replace p2_2 := p2.c2
  replace hc : (v1.alloc (.cells #[.bool false, .slice f1 0 g1, .slice (some ⟨b, off, none⟩) 1 g2] 25)).cell? ⟨b, off, none⟩ = some (.int .i64 12) := (World.cell?_alloc_lt _ _ ⟨b, off, none⟩ hlb).trans hc
  go_wp2_with fail
  clear hc hlb
  refine (ints_any sa0 sc0 sz0 sa1 sc1 sz1 x1 _ _ ((HI.out.1.1.below hb.out).mono hb.out.size) ((HI.out.2.1.1.below hb.out).mono hb.out.size)).mono ?_
  rintro e v2 ⟨rfl, hB⟩
  replace hb : Hid (Below w.heap.size w v2) := hb.out.trans (hB.mono hb.out.size)
  replace p0 := p0.go hB
  replace p1 := p1.go hB
  replace p2 := p2.go hB
  replace p0_0 := p0.c0
  replace p0_1 := p0.c1
  replace p0_2 := p0.c2
  replace p1_0 := p1.c0
  replace p1_1 := p1.c1
  replace p1_2 := p1.c2
  replace p2_0 := p2.c0
  replace p2_1 := p2.c1
  replace p2_2 := p2.c2
  clear hB
  go_wp2_with fail
  refine (ints_any sa1 sc1 sz1 sa2 sc2 sz2 y1 _ _ ((HI.out.2.1.1.below hb.out).mono hb.out.size) ((HI.out.2.2.1.below hb.out).mono hb.out.size)).mono ?_
  rintro e v3 ⟨rfl, hB⟩
  replace hb : Hid (Below w.heap.size w v3) := hb.out.trans (hB.mono hb.out.size)
  replace p0 := p0.go hB
  replace p1 := p1.go hB
  replace p2 := p2.go hB
  replace p0_0 := p0.c0
  replace p0_1 := p0.c1
  replace p0_2 := p0.c2
  replace p1_0 := p1.c0
  replace p1_1 := p1.c1
  replace p1_2 := p1.c2
  replace p2_0 := p2.c0
  replace p2_1 := p2.c1
  replace p2_2 := p2.c2
  clear hB
  go_wp2_with fail
  refine (check_ok false sa0 sc0 sz0 da0 dc0 dz0 x1 x2 _ ((HI.out.1.1.below hb.out).mono hb.out.size) ((HI.out.1.2.1.below hb.out).mono hb.out.size) F0.out).mono ?_
  rintro e v4 ⟨rfl, hB⟩
  replace hb : Hid (Below w.heap.size w v4) := hb.out.trans (hB.mono hb.out.size)
  replace p0 := p0.go hB
  replace p1 := p1.go hB
  replace p2 := p2.go hB
  replace p0_0 := p0.c0
  replace p0_1 := p0.c1
  replace p0_2 := p0.c2
  replace p1_0 := p1.c0
  replace p1_1 := p1.c1
  replace p1_2 := p1.c2
  replace p2_0 := p2.c0
  replace p2_1 := p2.c1
  replace p2_2 := p2.c2
  clear hB
  go_wp2_with fail
  refine (check_ok true sa1 sc1 sz1 da1 dc1 dz1 y1 y2 _ ((HI.out.2.1.1.below hb.out).mono hb.out.size) ((HI.out.2.1.2.1.below hb.out).mono hb.out.size) F1.out).mono ?_
  rintro e v5 ⟨rfl, hB⟩
  replace hb : Hid (Below w.heap.size w v5) := hb.out.trans (hB.mono hb.out.size)
  replace p0 := p0.go hB
  replace p1 := p1.go hB
  replace p2 := p2.go hB
  replace p0_0 := p0.c0
  replace p0_1 := p0.c1
  replace p0_2 := p0.c2
  replace p1_0 := p1.c0
  replace p1_1 := p1.c1
  replace p1_2 := p1.c2
  replace p2_0 := p2.c0
  replace p2_1 := p2.c1
  replace p2_2 := p2.c2
  clear hB
  go_wp2_with fail
  refine (check_ok c2 sa2 sc2 sz2 da2 dc2 dz2 z1 z2 _ ((HI.out.2.2.1.below hb.out).mono hb.out.size) ((HI.out.2.2.2.1.below hb.out).mono hb.out.size) F2.out).mono ?_
  rintro e v6 ⟨rfl, hB⟩
  replace hb : Hid (Below w.heap.size w v6) := hb.out.trans (hB.mono hb.out.size)
  replace p0 := p0.go hB
  replace p1 := p1.go hB
  replace p2 := p2.go hB
  replace p0_0 := p0.c0
  replace p0_1 := p0.c1
  replace p0_2 := p0.c2
  replace p1_0 := p1.c0
  replace p1_1 := p1.c1
  replace p1_2 := p1.c2
  replace p2_0 := p2.c0
  replace p2_1 := p2.c1
  replace p2_2 := p2.c2
  clear hB
  go_wp2_with fail
  go_ret
  exact ⟨rfl, hb.out⟩
set_option maxRecDepth 100000 in
set_option maxHeartbeats 16000000 in
theorem ering_char2 (H2 : C2) (sa0 : Option Addr) (sc0 : Nat) (sz0 : List Int) (da0 : Option Addr) (dc0 : Nat) (dz0 : List Int) (sa1 : Option Addr) (sc1 : Nat) (sz1 : List Int) (da1 : Option Addr) (dc1 : Nat) (dz1 : List Int) (sa2 : Option Addr) (sc2 : Nat) (sz2 : List Int) (da2 : Option Addr) (dc2 : Nat) (dz2 : List Int) (w : World) (w0 : IsArr w sa0 sz0 da0 dz0) (w1 : IsArr w sa1 sz1 da1 dz1) (w2 : IsArr w sa2 sz2 da2 dz2) (F0 : Hid (flawE false sz0 dz0 = 0)) (F1 : Hid (flawE false sz1 dz1 = 0)) (F2 : Hid (flawE true sz2 dz2 = 0)) :
    Calls Try.prog 5 #[.agg #[.bool false, .slice sa0 sz0.length sc0, .slice da0 dz0.length dc0], .agg #[.bool false, .slice sa1 sz1.length sc1, .slice da1 dz1.length dc1], .agg #[.bool true, .slice sa2 sz2.length sc2, .slice da2 dz2.length dc2]] w fun e w' => e = .returned (.bool true) ∧ Below w.heap.size w w' := by
  obtain ⟨x1, x2, x3, x4, _, T0⟩ := w0
  obtain ⟨y1, y2, y3, y4, _, T1⟩ := w1
  obtain ⟨z1, z2, z3, z4, _, T2⟩ := w2
  have HI : Hid ((IsInts w.heap.size w sa0 sz0 ∧ IsInts w.heap.size w da0 dz0 ∧ ∀ j, In64 (nth dz0 j)) ∧ (IsInts w.heap.size w sa1 sz1 ∧ IsInts w.heap.size w da1 dz1 ∧ ∀ j, In64 (nth dz1 j)) ∧ (IsInts w.heap.size w sa2 sz2 ∧ IsInts w.heap.size w da2 dz2 ∧ ∀ j, In64 (nth dz2 j))) := ⟨⟨x3, x4, T0⟩, ⟨y3, y4, T1⟩, ⟨z3, z4, T2⟩⟩
  clear x3 x4 T0 y3 y4 T1 z3 z4 T2
  have p0 : Abx (((w.alloc (.cells #[.bool false, .slice sa0 sz0.length sc0, .slice da0 dz0.length dc0] 25)).alloc (.cells #[.bool false, .slice sa1 sz1.length sc1, .slice da1 dz1.length dc1] 25)).alloc (.cells #[.bool true, .slice sa2 sz2.length sc2, .slice da2 dz2.length dc2] 25)) w.heap.size (.bool false) (.slice sa0 sz0.length sc0) (.slice da0 dz0.length dc0) := ((Abx.new w _ _ _).al _).al _
  have p1 : Abx (((w.alloc (.cells #[.bool false, .slice sa0 sz0.length sc0, .slice da0 dz0.length dc0] 25)).alloc (.cells #[.bool false, .slice sa1 sz1.length sc1, .slice da1 dz1.length dc1] 25)).alloc (.cells #[.bool true, .slice sa2 sz2.length sc2, .slice da2 dz2.length dc2] 25)) (w.heap.size + 1) (.bool false) (.slice sa1 sz1.length sc1) (.slice da1 dz1.length dc1) := (Abx.new1 w _ _ _ _).al _
  have p2 := Abx.new ((w.alloc (.cells #[.bool false, .slice sa0 sz0.length sc0, .slice da0 dz0.length dc0] 25)).alloc (.cells #[.bool false, .slice sa1 sz1.length sc1, .slice da1 dz1.length dc1] 25)) (.bool true) (.slice sa2 sz2.length sc2) (.slice da2 dz2.length dc2)
  simp only [World.size_alloc] at p2
  have hs : (((w.alloc (.cells #[.bool false, .slice sa0 sz0.length sc0, .slice da0 dz0.length dc0] 25)).alloc (.cells #[.bool false, .slice sa1 sz1.length sc1, .slice da1 dz1.length dc1] 25)).alloc (.cells #[.bool true, .slice sa2 sz2.length sc2, .slice da2 dz2.length dc2] 25)).heap.size = w.heap.size + 1 + 1 + 1 := by simp
  have hb : Hid (Below w.heap.size w (((w.alloc (.cells #[.bool false, .slice sa0 sz0.length sc0, .slice da0 dz0.length dc0] 25)).alloc (.cells #[.bool false, .slice sa1 sz1.length sc1, .slice da1 dz1.length dc1] 25)).alloc (.cells #[.bool true, .slice sa2 sz2.length sc2, .slice da2 dz2.length dc2] 25))) := (((Below.refl _ w).alloc (Nat.le_refl _) _).alloc (by simp) _).alloc (by simp; omega) _
  obtain ⟨u, hu⟩ : ∃ u, u = (((w.alloc (.cells #[.bool false, .slice sa0 sz0.length sc0, .slice da0 dz0.length dc0] 25)).alloc (.cells #[.bool false, .slice sa1 sz1.length sc1, .slice da1 dz1.length dc1] 25)).alloc (.cells #[.bool true, .slice sa2 sz2.length sc2, .slice da2 dz2.length dc2] 25)) := ⟨_, rfl⟩
  rw [← hu] at p0 p1 p2 hs hb
  have n1 : NewInts u.heap.size ((u.alloc (.cells #[.int .i64 3] 3)).alloc (.cells #[.int .i64 4] 3)) (some ⟨u.heap.size, 0, none⟩) [3] := (new_lit u 3 [3]).al _
  have n2 : NewInts (u.alloc (.cells #[.int .i64 3] 3)).heap.size ((u.alloc (.cells #[.int .i64 3] 3)).alloc (.cells #[.int .i64 4] 3)) (some ⟨(u.alloc (.cells #[.int .i64 3] 3)).heap.size, 0, none⟩) [4] := new_lit (u.alloc (.cells #[.int .i64 3] 3)) 3 [4]
  simp only [World.size_alloc, hs] at n1 n2
  have HN : Hid (IsInts ((u.alloc (.cells #[.int .i64 3] 3)).alloc (.cells #[.int .i64 4] 3)).heap.size ((u.alloc (.cells #[.int .i64 3] 3)).alloc (.cells #[.int .i64 4] 3)) (some ⟨w.heap.size + 1 + 1 + 1, 0, none⟩) [3] ∧ IsInts ((u.alloc (.cells #[.int .i64 3] 3)).alloc (.cells #[.int .i64 4] 3)).heap.size ((u.alloc (.cells #[.int .i64 3] 3)).alloc (.cells #[.int .i64 4] 3)) (some ⟨w.heap.size + 1 + 1 + 1 + 1, 0, none⟩) [4]) := ⟨n1.ints, n2.ints⟩
  replace hb : Hid (Below w.heap.size w ((u.alloc (.cells #[.int .i64 3] 3)).alloc (.cells #[.int .i64 4] 3))) := (hb.out.alloc (by omega) _).alloc (by simp; omega) _
  replace p0 := (p0.al (.cells #[.int .i64 3] 3)).al (.cells #[.int .i64 4] 3)
  replace p1 := (p1.al (.cells #[.int .i64 3] 3)).al (.cells #[.int .i64 4] 3)
  replace p2 := (p2.al (.cells #[.int .i64 3] 3)).al (.cells #[.int .i64 4] 3)
  clear n1 n2 hs
  subst hu
  go_enter Try.func5, Try.ntmps5
  go_wp2_with fail
  refine (c2_ok H2 3 false none 0 [] (some ⟨w.heap.size + 1 + 1 + 1, 0, none⟩) 1 [3] false none 0 [] (some ⟨w.heap.size + 1 + 1 + 1 + 1, 0, none⟩) 1 [4] _ (by unfold In64; decide) (by simp) (by simp) (by simp) (by simp) (.inl rfl) HN.out.1 (.inl rfl) HN.out.2 (lit_in 3 (by decide)) (lit_in 4 (by decide)) (by decide)).mono ?_
  rintro e v1 ⟨f1, g1, f2, g2, he, _, hY, hB⟩
  replace hb : Hid (Below w.heap.size w v1) := hb.out.trans (hB.mono hb.out.size)
  replace p0 := p0.go hB
  replace p1 := p1.go hB
  replace p2 := p2.go hB
  clear hB
  clear HN
  rw [fact_v, show shp [] [] = [] by decide] at he
  rw [fact_v] at hY
  subst he
  obtain ⟨b, off, rfl, _, hcell⟩ := hY.ints.at (q := 0) (by simp)
  have hc := hcell 0 (by simp)
  rw [Nat.add_zero, nth_zero] at hc
  have hlb := World.block_lt_of_cell? _ _ hc
  clear hcell hY
  have p0_0 := p0.c0
  have p0_1 := p0.c1
  have p0_2 := p0.c2
  have p1_0 := p1.c0
  have p1_1 := p1.c1
  have p1_2 := p1.c2
  have p2_0 := p2.c0
  have p2_1 := p2.c1
  have p2_2 := p2.c2
  replace hb : Hid (Below w.heap.size w (v1.alloc (.cells #[.bool false, .slice f1 0 g1, .slice (some ⟨b, off, none⟩) 1 g2] 25))) := hb.out.alloc hb.out.size _
  replace p0 := p0.al (.cells #[.bool false, .slice f1 0 g1, .slice (some ⟨b, off, none⟩) 1 g2] 25)
  replace p1 := p1.al (.cells #[.bool false, .slice f1 0 g1, .slice (some ⟨b, off, none⟩) 1 g2] 25)
  replace p2 := p2.al (.cells #[.bool false, .slice f1 0 g1, .slice (some ⟨b, off, none⟩) 1 g2] 25)
  replace p0_0 := p0.c0
  replace p0_1 := p0.c1
  replace p0_2 := p0.c2
  replace p1_0 := p1.c0
  replace p1_1 := p1.c1
  replace p1_2 := p1.c2
  replace p2_0 := p2.c0
  replace p2_1 := p2.c1
  replace p2_2 := p2.c2
  replace hc : (v1.alloc (.cells #[.bool false, .slice f1 0 g1, .slice (some ⟨b, off, none⟩) 1 g2] 25)).cell? ⟨b, off, none⟩ = some (.int .i64 12) := (World.cell?_alloc_lt _ _ ⟨b, off, none⟩ hlb).trans hc
  go_wp2_with fail
  clear hc hlb
  refine (ints_any sa0 sc0 sz0 sa1 sc1 sz1 x1 _ _ ((HI.out.1.1.below hb.out).mono hb.out.size) ((HI.out.2.1.1.below hb.out).mono hb.out.size)).mono ?_
  rintro e v2 ⟨rfl, hB⟩
  replace hb : Hid (Below w.heap.size w v2) := hb.out.trans (hB.mono hb.out.size)
  replace p0 := p0.go hB
  replace p1 := p1.go hB
  replace p2 := p2.go hB
  replace p0_0 := p0.c0
  replace p0_1 := p0.c1
  replace p0_2 := p0.c2
  replace p1_0 := p1.c0
  replace p1_1 := p1.c1
  replace p1_2 := p1.c2
  replace p2_0 := p2.c0
  replace p2_1 := p2.c1
  replace p2_2 := p2.c2
  clear hB
  go_wp2_with fail
  refine (ints_any sa1 sc1 sz1 sa2 sc2 sz2 y1 _ _ ((HI.out.2.1.1.below hb.out).mono hb.out.size) ((HI.out.2.2.1.below hb.out).mono hb.out.size)).mono ?_
  rintro e v3 ⟨rfl, hB⟩
  replace hb : Hid (Below w.heap.size w v3) := hb.out.trans (hB.mono hb.out.size)
  replace p0 := p0.go hB
  replace p1 := p1.go hB
  replace p2 := p2.go hB
  replace p0_0 := p0.c0
  replace p0_1 := p0.c1
  replace p0_2 := p0.c2
  replace p1_0 := p1.c0
  replace p1_1 := p1.c1
  replace p1_2 := p1.c2
  replace p2_0 := p2.c0
  replace p2_1 := p2.c1
  replace p2_2 := p2.c2
  clear hB
  go_wp2_with fail
  refine (check_ok false sa0 sc0 sz0 da0 dc0 dz0 x1 x2 _ ((HI.out.1.1.below hb.out).mono hb.out.size) ((HI.out.1.2.1.below hb.out).mono hb.out.size) F0.out).mono ?_
  rintro e v4 ⟨rfl, hB⟩
  replace hb : Hid (Below w.heap.size w v4) := hb.out.trans (hB.mono hb.out.size)
  replace p0 := p0.go hB
  replace p1 := p1.go hB
  replace p2 := p2.go hB
  replace p0_0 := p0.c0
  replace p0_1 := p0.c1
  replace p0_2 := p0.c2
  replace p1_0 := p1.c0
  replace p1_1 := p1.c1
  replace p1_2 := p1.c2
  replace p2_0 := p2.c0
  replace p2_1 := p2.c1
  replace p2_2 := p2.c2
  clear hB
  go_wp2_with fail
  refine (check_ok false sa1 sc1 sz1 da1 dc1 dz1 y1 y2 _ ((HI.out.2.1.1.below hb.out).mono hb.out.size) ((HI.out.2.1.2.1.below hb.out).mono hb.out.size) F1.out).mono ?_
  rintro e v5 ⟨rfl, hB⟩
  replace hb : Hid (Below w.heap.size w v5) := hb.out.trans (hB.mono hb.out.size)
  replace p0 := p0.go hB
  replace p1 := p1.go hB
  replace p2 := p2.go hB
  replace p0_0 := p0.c0
  replace p0_1 := p0.c1
  replace p0_2 := p0.c2
  replace p1_0 := p1.c0
  replace p1_1 := p1.c1
  replace p1_2 := p1.c2
  replace p2_0 := p2.c0
  replace p2_1 := p2.c1
  replace p2_2 := p2.c2
  clear hB
  go_wp2_with fail
  refine (check_ok true sa2 sc2 sz2 da2 dc2 dz2 z1 z2 _ ((HI.out.2.2.1.below hb.out).mono hb.out.size) ((HI.out.2.2.2.1.below hb.out).mono hb.out.size) F2.out).mono ?_
  rintro e v6 ⟨rfl, hB⟩
  replace hb : Hid (Below w.heap.size w v6) := hb.out.trans (hB.mono hb.out.size)
  replace p0 := p0.go hB
  replace p1 := p1.go hB
  replace p2 := p2.go hB
  replace p0_0 := p0.c0
  replace p0_1 := p0.c1
  replace p0_2 := p0.c2
  replace p1_0 := p1.c0
  replace p1_1 := p1.c1
  replace p1_2 := p1.c2
  replace p2_0 := p2.c0
  replace p2_1 := p2.c1
  replace p2_2 := p2.c2
  clear hB
  go_wp2_with fail
  go_ret
  exact ⟨rfl, hb.out⟩
set_option maxRecDepth 100000 in
set_option maxHeartbeats 16000000 in
theorem ering_shape0 (H2 : C2) (sa0 : Option Addr) (sc0 : Nat) (sz0 : List Int) (da0 : Option Addr) (dc0 : Nat) (dz0 : List Int) (sa1 : Option Addr) (sc1 : Nat) (sz1 : List Int) (da1 : Option Addr) (dc1 : Nat) (dz1 : List Int) (sa2 : Option Addr) (sc2 : Nat) (sz2 : List Int) (da2 : Option Addr) (dc2 : Nat) (dz2 : List Int) (w : World) (w0 : IsArr w sa0 sz0 da0 dz0) (w1 : IsArr w sa1 sz1 da1 dz1) (w2 : IsArr w sa2 sz2 da2 dz2) (F0 : Hid (flawE false sz0 dz0 = 0)) (F1 : Hid (flawE false sz1 dz1 = 0)) (F2 : Hid (flawE false sz2 dz2 = 0)) (G : Hid (sz0 ≠ sz1)) :
    Calls Try.prog 5 #[.agg #[.bool false, .slice sa0 sz0.length sc0, .slice da0 dz0.length dc0], .agg #[.bool false, .slice sa1 sz1.length sc1, .slice da1 dz1.length dc1], .agg #[.bool false, .slice sa2 sz2.length sc2, .slice da2 dz2.length dc2]] w fun e w' => e = .returned (.bool true) ∧ Below w.heap.size w w' := by
  obtain ⟨x1, x2, x3, x4, _, T0⟩ := w0
  obtain ⟨y1, y2, y3, y4, _, T1⟩ := w1
  obtain ⟨z1, z2, z3, z4, _, T2⟩ := w2
  have HI : Hid ((IsInts w.heap.size w sa0 sz0 ∧ IsInts w.heap.size w da0 dz0 ∧ ∀ j, In64 (nth dz0 j)) ∧ (IsInts w.heap.size w sa1 sz1 ∧ IsInts w.heap.size w da1 dz1 ∧ ∀ j, In64 (nth dz1 j)) ∧ (IsInts w.heap.size w sa2 sz2 ∧ IsInts w.heap.size w da2 dz2 ∧ ∀ j, In64 (nth dz2 j))) := ⟨⟨x3, x4, T0⟩, ⟨y3, y4, T1⟩, ⟨z3, z4, T2⟩⟩
  clear x3 x4 T0 y3 y4 T1 z3 z4 T2
  have p0 : Abx (((w.alloc (.cells #[.bool false, .slice sa0 sz0.length sc0, .slice da0 dz0.length dc0] 25)).alloc (.cells #[.bool false, .slice sa1 sz1.length sc1, .slice da1 dz1.length dc1] 25)).alloc (.cells #[.bool false, .slice sa2 sz2.length sc2, .slice da2 dz2.length dc2] 25)) w.heap.size (.bool false) (.slice sa0 sz0.length sc0) (.slice da0 dz0.length dc0) := ((Abx.new w _ _ _).al _).al _
  have p1 : Abx (((w.alloc (.cells #[.bool false, .slice sa0 sz0.length sc0, .slice da0 dz0.length dc0] 25)).alloc (.cells #[.bool false, .slice sa1 sz1.length sc1, .slice da1 dz1.length dc1] 25)).alloc (.cells #[.bool false, .slice sa2 sz2.length sc2, .slice da2 dz2.length dc2] 25)) (w.heap.size + 1) (.bool false) (.slice sa1 sz1.length sc1) (.slice da1 dz1.length dc1) := (Abx.new1 w _ _ _ _).al _
  have p2 := Abx.new ((w.alloc (.cells #[.bool false, .slice sa0 sz0.length sc0, .slice da0 dz0.length dc0] 25)).alloc (.cells #[.bool false, .slice sa1 sz1.length sc1, .slice da1 dz1.length dc1] 25)) (.bool false) (.slice sa2 sz2.length sc2) (.slice da2 dz2.length dc2)
  simp only [World.size_alloc] at p2
  have hs : (((w.alloc (.cells #[.bool false, .slice sa0 sz0.length sc0, .slice da0 dz0.length dc0] 25)).alloc (.cells #[.bool false, .slice sa1 sz1.length sc1, .slice da1 dz1.length dc1] 25)).alloc (.cells #[.bool false, .slice sa2 sz2.length sc2, .slice da2 dz2.length dc2] 25)).heap.size = w.heap.size + 1 + 1 + 1 := by simp
  have hb : Hid (Below w.heap.size w (((w.alloc (.cells #[.bool false, .slice sa0 sz0.length sc0, .slice da0 dz0.length dc0] 25)).alloc (.cells #[.bool false, .slice sa1 sz1.length sc1, .slice da1 dz1.length dc1] 25)).alloc (.cells #[.bool false, .slice sa2 sz2.length sc2, .slice da2 dz2.length dc2] 25))) := (((Below.refl _ w).alloc (Nat.le_refl _) _).alloc (by simp) _).alloc (by simp; omega) _
  obtain ⟨u, hu⟩ : ∃ u, u = (((w.alloc (.cells #[.bool false, .slice sa0 sz0.length sc0, .slice da0 dz0.length dc0] 25)).alloc (.cells #[.bool false, .slice sa1 sz1.length sc1, .slice da1 dz1.length dc1] 25)).alloc (.cells #[.bool false, .slice sa2 sz2.length sc2, .slice da2 dz2.length dc2] 25)) := ⟨_, rfl⟩
  rw [← hu] at p0 p1 p2 hs hb
  have n1 : NewInts u.heap.size ((u.alloc (.cells #[.int .i64 3] 3)).alloc (.cells #[.int .i64 4] 3)) (some ⟨u.heap.size, 0, none⟩) [3] := (new_lit u 3 [3]).al _
  have n2 : NewInts (u.alloc (.cells #[.int .i64 3] 3)).heap.size ((u.alloc (.cells #[.int .i64 3] 3)).alloc (.cells #[.int .i64 4] 3)) (some ⟨(u.alloc (.cells #[.int .i64 3] 3)).heap.size, 0, none⟩) [4] := new_lit (u.alloc (.cells #[.int .i64 3] 3)) 3 [4]
  simp only [World.size_alloc, hs] at n1 n2
  have HN : Hid (IsInts ((u.alloc (.cells #[.int .i64 3] 3)).alloc (.cells #[.int .i64 4] 3)).heap.size ((u.alloc (.cells #[.int .i64 3] 3)).alloc (.cells #[.int .i64 4] 3)) (some ⟨w.heap.size + 1 + 1 + 1, 0, none⟩) [3] ∧ IsInts ((u.alloc (.cells #[.int .i64 3] 3)).alloc (.cells #[.int .i64 4] 3)).heap.size ((u.alloc (.cells #[.int .i64 3] 3)).alloc (.cells #[.int .i64 4] 3)) (some ⟨w.heap.size + 1 + 1 + 1 + 1, 0, none⟩) [4]) := ⟨n1.ints, n2.ints⟩
  replace hb : Hid (Below w.heap.size w ((u.alloc (.cells #[.int .i64 3] 3)).alloc (.cells #[.int .i64 4] 3))) := (hb.out.alloc (by omega) _).alloc (by simp; omega) _
  replace p0 := (p0.al (.cells #[.int .i64 3] 3)).al (.cells #[.int .i64 4] 3)
  replace p1 := (p1.al (.cells #[.int .i64 3] 3)).al (.cells #[.int .i64 4] 3)
  replace p2 := (p2.al (.cells #[.int .i64 3] 3)).al (.cells #[.int .i64 4] 3)
  clear n1 n2 hs
  subst hu
  go_enter Try.func5, Try.ntmps5
  go_wp2_with fail
  refine (c2_ok H2 3 false none 0 [] (some ⟨w.heap.size + 1 + 1 + 1, 0, none⟩) 1 [3] false none 0 [] (some ⟨w.heap.size + 1 + 1 + 1 + 1, 0, none⟩) 1 [4] _ (by unfold In64; decide) (by simp) (by simp) (by simp) (by simp) (.inl rfl) HN.out.1 (.inl rfl) HN.out.2 (lit_in 3 (by decide)) (lit_in 4 (by decide)) (by decide)).mono ?_
  rintro e v1 ⟨f1, g1, f2, g2, he, _, hY, hB⟩
  replace hb : Hid (Below w.heap.size w v1) := hb.out.trans (hB.mono hb.out.size)
  replace p0 := p0.go hB
  replace p1 := p1.go hB
  replace p2 := p2.go hB
  clear hB
  clear HN
  rw [fact_v, show shp [] [] = [] by decide] at he
  rw [fact_v] at hY
  subst he
  obtain ⟨b, off, rfl, _, hcell⟩ := hY.ints.at (q := 0) (by simp)
  have hc := hcell 0 (by simp)
  rw [Nat.add_zero, nth_zero] at hc
  have hlb := World.block_lt_of_cell? _ _ hc
  clear hcell hY
  have p0_0 := p0.c0
  have p0_1 := p0.c1
  have p0_2 := p0.c2
  have p1_0 := p1.c0
  have p1_1 := p1.c1
  have p1_2 := p1.c2
  have p2_0 := p2.c0
  have p2_1 := p2.c1
  have p2_2 := p2.c2
  replace hb : Hid (Below w.heap.size w (v1.alloc (.cells #[.bool false, .slice f1 0 g1, .slice (some ⟨b, off, none⟩) 1 g2] 25))) := hb.out.alloc hb.out.size _
  replace p0 := p0.al (.cells #[.bool false, .slice f1 0 g1, .slice (some ⟨b, off, none⟩) 1 g2] 25)
  replace p1 := p1.al (.cells #[.bool false, .slice f1 0 g1, .slice (some ⟨b, off, none⟩) 1 g2] 25)
  replace p2 := p2.al (.cells #[.bool false, .slice f1 0 g1, .slice (some ⟨b, off, none⟩) 1 g2] 25)
  replace p0_0 := p0.c0
  replace p0_1 := p0.c1
  replace p0_2 := p0.c2
  replace p1_0 := p1.c0
  replace p1_1 := p1.c1
  replace p1_2 := p1.c2
  replace p2_0 := p2.c0
  replace p2_1 := p2.c1
  replace p2_2 := p2.c2
  replace hc : (v1.alloc (.cells #[.bool false, .slice f1 0 g1, .slice (some ⟨b, off, none⟩) 1 g2] 25)).cell? ⟨b, off, none⟩ = some (.int .i64 12) := (World.cell?_alloc_lt _ _ ⟨b, off, none⟩ hlb).trans hc
  go_wp2_with fail
  clear hc hlb
  refine (ints_any sa0 sc0 sz0 sa1 sc1 sz1 x1 _ _ ((HI.out.1.1.below hb.out).mono hb.out.size) ((HI.out.2.1.1.below hb.out).mono hb.out.size)).mono ?_
  rintro e v2 ⟨rfl, hB⟩
  replace hb : Hid (Below w.heap.size w v2) := hb.out.trans (hB.mono hb.out.size)
  replace p0 := p0.go hB
  replace p1 := p1.go hB
  replace p2 := p2.go hB
  replace p0_0 := p0.c0
  replace p0_1 := p0.c1
  replace p0_2 := p0.c2
  replace p1_0 := p1.c0
  replace p1_1 := p1.c1
  replace p1_2 := p1.c2
  replace p2_0 := p2.c0
  replace p2_1 := p2.c1
  replace p2_2 := p2.c2
  clear hB
  go_wp2_with fail
  refine (ints_any sa1 sc1 sz1 sa2 sc2 sz2 y1 _ _ ((HI.out.2.1.1.below hb.out).mono hb.out.size) ((HI.out.2.2.1.below hb.out).mono hb.out.size)).mono ?_
  rintro e v3 ⟨rfl, hB⟩
  replace hb : Hid (Below w.heap.size w v3) := hb.out.trans (hB.mono hb.out.size)
  replace p0 := p0.go hB
  replace p1 := p1.go hB
  replace p2 := p2.go hB
  replace p0_0 := p0.c0
  replace p0_1 := p0.c1
  replace p0_2 := p0.c2
  replace p1_0 := p1.c0
  replace p1_1 := p1.c1
  replace p1_2 := p1.c2
  replace p2_0 := p2.c0
  replace p2_1 := p2.c1
  replace p2_2 := p2.c2
  clear hB
  go_wp2_with fail
  refine (check_ok false sa0 sc0 sz0 da0 dc0 dz0 x1 x2 _ ((HI.out.1.1.below hb.out).mono hb.out.size) ((HI.out.1.2.1.below hb.out).mono hb.out.size) F0.out).mono ?_
  rintro e v4 ⟨rfl, hB⟩
  replace hb : Hid (Below w.heap.size w v4) := hb.out.trans (hB.mono hb.out.size)
  replace p0 := p0.go hB
  replace p1 := p1.go hB
  replace p2 := p2.go hB
  replace p0_0 := p0.c0
  replace p0_1 := p0.c1
  replace p0_2 := p0.c2
  replace p1_0 := p1.c0
  replace p1_1 := p1.c1
  replace p1_2 := p1.c2
  replace p2_0 := p2.c0
  replace p2_1 := p2.c1
  replace p2_2 := p2.c2
  clear hB
  go_wp2_with fail
  refine (check_ok false sa1 sc1 sz1 da1 dc1 dz1 y1 y2 _ ((HI.out.2.1.1.below hb.out).mono hb.out.size) ((HI.out.2.1.2.1.below hb.out).mono hb.out.size) F1.out).mono ?_
  rintro e v5 ⟨rfl, hB⟩
  replace hb : Hid (Below w.heap.size w v5) := hb.out.trans (hB.mono hb.out.size)
  replace p0 := p0.go hB
  replace p1 := p1.go hB
  replace p2 := p2.go hB
  replace p0_0 := p0.c0
  replace p0_1 := p0.c1
  replace p0_2 := p0.c2
  replace p1_0 := p1.c0
  replace p1_1 := p1.c1
  replace p1_2 := p1.c2
  replace p2_0 := p2.c0
  replace p2_1 := p2.c1
  replace p2_2 := p2.c2
  clear hB
  go_wp2_with fail
  refine (check_ok false sa2 sc2 sz2 da2 dc2 dz2 z1 z2 _ ((HI.out.2.2.1.below hb.out).mono hb.out.size) ((HI.out.2.2.2.1.below hb.out).mono hb.out.size) F2.out).mono ?_
  rintro e v6 ⟨rfl, hB⟩
  replace hb : Hid (Below w.heap.size w v6) := hb.out.trans (hB.mono hb.out.size)
  replace p0 := p0.go hB
  replace p1 := p1.go hB
  replace p2 := p2.go hB
  replace p0_0 := p0.c0
  replace p0_1 := p0.c1
  replace p0_2 := p0.c2
  replace p1_0 := p1.c0
  replace p1_1 := p1.c1
  replace p1_2 := p1.c2
  replace p2_0 := p2.c0
  replace p2_1 := p2.c1
  replace p2_2 := p2.c2
  clear hB
  rw [eqB_false G.out]
  go_wp2_with fail
  go_ret
  exact ⟨rfl, hb.out⟩
set_option maxRecDepth 100000 in
set_option maxHeartbeats 16000000 in
theorem ering_shape1 (H2 : C2) (sa0 : Option Addr) (sc0 : Nat) (sz0 : List Int) (da0 : Option Addr) (dc0 : Nat) (dz0 : List Int) (sa1 : Option Addr) (sc1 : Nat) (da1 : Option Addr) (dc1 : Nat) (dz1 : List Int) (sa2 : Option Addr) (sc2 : Nat) (sz2 : List Int) (da2 : Option Addr) (dc2 : Nat) (dz2 : List Int) (w : World) (w0 : IsArr w sa0 sz0 da0 dz0) (w1 : IsArr w sa1 sz0 da1 dz1) (w2 : IsArr w sa2 sz2 da2 dz2) (F0 : Hid (flawE false sz0 dz0 = 0)) (F1 : Hid (flawE false sz0 dz1 = 0)) (F2 : Hid (flawE false sz2 dz2 = 0)) (G : Hid (sz0 ≠ sz2)) :
    Calls Try.prog 5 #[.agg #[.bool false, .slice sa0 sz0.length sc0, .slice da0 dz0.length dc0], .agg #[.bool false, .slice sa1 sz0.length sc1, .slice da1 dz1.length dc1], .agg #[.bool false, .slice sa2 sz2.length sc2, .slice da2 dz2.length dc2]] w fun e w' => e = .returned (.bool true) ∧ Below w.heap.size w w' := by
  obtain ⟨x1, x2, x3, x4, _, T0⟩ := w0
  obtain ⟨y1, y2, y3, y4, _, T1⟩ := w1
  obtain ⟨z1, z2, z3, z4, _, T2⟩ := w2
  have HI : Hid ((IsInts w.heap.size w sa0 sz0 ∧ IsInts w.heap.size w da0 dz0 ∧ ∀ j, In64 (nth dz0 j)) ∧ (IsInts w.heap.size w sa1 sz0 ∧ IsInts w.heap.size w da1 dz1 ∧ ∀ j, In64 (nth dz1 j)) ∧ (IsInts w.heap.size w sa2 sz2 ∧ IsInts w.heap.size w da2 dz2 ∧ ∀ j, In64 (nth dz2 j))) := ⟨⟨x3, x4, T0⟩, ⟨y3, y4, T1⟩, ⟨z3, z4, T2⟩⟩
  clear x3 x4 T0 y3 y4 T1 z3 z4 T2
  have p0 : Abx (((w.alloc (.cells #[.bool false, .slice sa0 sz0.length sc0, .slice da0 dz0.length dc0] 25)).alloc (.cells #[.bool false, .slice sa1 sz0.length sc1, .slice da1 dz1.length dc1] 25)).alloc (.cells #[.bool false, .slice sa2 sz2.length sc2, .slice da2 dz2.length dc2] 25)) w.heap.size (.bool false) (.slice sa0 sz0.length sc0) (.slice da0 dz0.length dc0) := ((Abx.new w _ _ _).al _).al _
  have p1 : Abx (((w.alloc (.cells #[.bool false, .slice sa0 sz0.length sc0, .slice da0 dz0.length dc0] 25)).alloc (.cells #[.bool false, .slice sa1 sz0.length sc1, .slice da1 dz1.length dc1] 25)).alloc (.cells #[.bool false, .slice sa2 sz2.length sc2, .slice da2 dz2.length dc2] 25)) (w.heap.size + 1) (.bool false) (.slice sa1 sz0.length sc1) (.slice da1 dz1.length dc1) := (Abx.new1 w _ _ _ _).al _
  have p2 := Abx.new ((w.alloc (.cells #[.bool false, .slice sa0 sz0.length sc0, .slice da0 dz0.length dc0] 25)).alloc (.cells #[.bool false, .slice sa1 sz0.length sc1, .slice da1 dz1.length dc1] 25)) (.bool false) (.slice sa2 sz2.length sc2) (.slice da2 dz2.length dc2)
  simp only [World.size_alloc] at p2
  have hs : (((w.alloc (.cells #[.bool false, .slice sa0 sz0.length sc0, .slice da0 dz0.length dc0] 25)).alloc (.cells #[.bool false, .slice sa1 sz0.length sc1, .slice da1 dz1.length dc1] 25)).alloc (.cells #[.bool false, .slice sa2 sz2.length sc2, .slice da2 dz2.length dc2] 25)).heap.size = w.heap.size + 1 + 1 + 1 := by simp
  have hb : Hid (Below w.heap.size w (((w.alloc (.cells #[.bool false, .slice sa0 sz0.length sc0, .slice da0 dz0.length dc0] 25)).alloc (.cells #[.bool false, .slice sa1 sz0.length sc1, .slice da1 dz1.length dc1] 25)).alloc (.cells #[.bool false, .slice sa2 sz2.length sc2, .slice da2 dz2.length dc2] 25))) := (((Below.refl _ w).alloc (Nat.le_refl _) _).alloc (by simp) _).alloc (by simp; omega) _
  obtain ⟨u, hu⟩ : ∃ u, u = (((w.alloc (.cells #[.bool false, .slice sa0 sz0.length sc0, .slice da0 dz0.length dc0] 25)).alloc (.cells #[.bool false, .slice sa1 sz0.length sc1, .slice da1 dz1.length dc1] 25)).alloc (.cells #[.bool false, .slice sa2 sz2.length sc2, .slice da2 dz2.length dc2] 25)) := ⟨_, rfl⟩
  rw [← hu] at p0 p1 p2 hs hb
  have n1 : NewInts u.heap.size ((u.alloc (.cells #[.int .i64 3] 3)).alloc (.cells #[.int .i64 4] 3)) (some ⟨u.heap.size, 0, none⟩) [3] := (new_lit u 3 [3]).al _
  have n2 : NewInts (u.alloc (.cells #[.int .i64 3] 3)).heap.size ((u.alloc (.cells #[.int .i64 3] 3)).alloc (.cells #[.int .i64 4] 3)) (some ⟨(u.alloc (.cells #[.int .i64 3] 3)).heap.size, 0, none⟩) [4] := new_lit (u.alloc (.cells #[.int .i64 3] 3)) 3 [4]
  simp only [World.size_alloc, hs] at n1 n2
  have HN : Hid (IsInts ((u.alloc (.cells #[.int .i64 3] 3)).alloc (.cells #[.int .i64 4] 3)).heap.size ((u.alloc (.cells #[.int .i64 3] 3)).alloc (.cells #[.int .i64 4] 3)) (some ⟨w.heap.size + 1 + 1 + 1, 0, none⟩) [3] ∧ IsInts ((u.alloc (.cells #[.int .i64 3] 3)).alloc (.cells #[.int .i64 4] 3)).heap.size ((u.alloc (.cells #[.int .i64 3] 3)).alloc (.cells #[.int .i64 4] 3)) (some ⟨w.heap.size + 1 + 1 + 1 + 1, 0, none⟩) [4]) := ⟨n1.ints, n2.ints⟩
  replace hb : Hid (Below w.heap.size w ((u.alloc (.cells #[.int .i64 3] 3)).alloc (.cells #[.int .i64 4] 3))) := (hb.out.alloc (by omega) _).alloc (by simp; omega) _
  replace p0 := (p0.al (.cells #[.int .i64 3] 3)).al (.cells #[.int .i64 4] 3)
  replace p1 := (p1.al (.cells #[.int .i64 3] 3)).al (.cells #[.int .i64 4] 3)
  replace p2 := (p2.al (.cells #[.int .i64 3] 3)).al (.cells #[.int .i64 4] 3)
  clear n1 n2 hs
  subst hu
  go_enter Try.func5, Try.ntmps5
  go_wp2_with fail
  refine (c2_ok H2 3 false none 0 [] (some ⟨w.heap.size + 1 + 1 + 1, 0, none⟩) 1 [3] false none 0 [] (some ⟨w.heap.size + 1 + 1 + 1 + 1, 0, none⟩) 1 [4] _ (by unfold In64; decide) (by simp) (by simp) (by simp) (by simp) (.inl rfl) HN.out.1 (.inl rfl) HN.out.2 (lit_in 3 (by decide)) (lit_in 4 (by decide)) (by decide)).mono ?_
  rintro e v1 ⟨f1, g1, f2, g2, he, _, hY, hB⟩
  replace hb : Hid (Below w.heap.size w v1) := hb.out.trans (hB.mono hb.out.size)
  replace p0 := p0.go hB
  replace p1 := p1.go hB
  replace p2 := p2.go hB
  clear hB
  clear HN
  rw [fact_v, show shp [] [] = [] by decide] at he
  rw [fact_v] at hY
  subst he
  obtain ⟨b, off, rfl, _, hcell⟩ := hY.ints.at (q := 0) (by simp)
  have hc := hcell 0 (by simp)
  rw [Nat.add_zero, nth_zero] at hc
  have hlb := World.block_lt_of_cell? _ _ hc
  clear hcell hY
  have p0_0 := p0.c0
  have p0_1 := p0.c1
  have p0_2 := p0.c2
  have p1_0 := p1.c0
  have p1_1 := p1.c1
  have p1_2 := p1.c2
  have p2_0 := p2.c0
  have p2_1 := p2.c1
  have p2_2 := p2.c2
  replace hb : Hid (Below w.heap.size w (v1.alloc (.cells #[.bool false, .slice f1 0 g1, .slice (some ⟨b, off, none⟩) 1 g2] 25))) := hb.out.alloc hb.out.size _
  replace p0 := p0.al (.cells #[.bool false, .slice f1 0 g1, .slice (some ⟨b, off, none⟩) 1 g2] 25)
  replace p1 := p1.al (.cells #[.bool false, .slice f1 0 g1, .slice (some ⟨b, off, none⟩) 1 g2] 25)
  replace p2 := p2.al (.cells #[.bool false, .slice f1 0 g1, .slice (some ⟨b, off, none⟩) 1 g2] 25)
  replace p0_0 := p0.c0
  replace p0_1 := p0.c1
  replace p0_2 := p0.c2
  replace p1_0 := p1.c0
  replace p1_1 := p1.c1
  replace p1_2 := p1.c2
  replace p2_0 := p2.c0
  replace p2_1 := p2.c1
  replace p2_2 := p2.c2
  replace hc : (v1.alloc (.cells #[.bool false, .slice f1 0 g1, .slice (some ⟨b, off, none⟩) 1 g2] 25)).cell? ⟨b, off, none⟩ = some (.int .i64 12) := (World.cell?_alloc_lt _ _ ⟨b, off, none⟩ hlb).trans hc
  go_wp2_with fail
  clear hc hlb
  refine (ints_any sa0 sc0 sz0 sa1 sc1 sz0 x1 _ _ ((HI.out.1.1.below hb.out).mono hb.out.size) ((HI.out.2.1.1.below hb.out).mono hb.out.size)).mono ?_
  rintro e v2 ⟨rfl, hB⟩
  replace hb : Hid (Below w.heap.size w v2) := hb.out.trans (hB.mono hb.out.size)
  replace p0 := p0.go hB
  replace p1 := p1.go hB
  replace p2 := p2.go hB
  replace p0_0 := p0.c0
  replace p0_1 := p0.c1
  replace p0_2 := p0.c2
  replace p1_0 := p1.c0
  replace p1_1 := p1.c1
  replace p1_2 := p1.c2
  replace p2_0 := p2.c0
  replace p2_1 := p2.c1
  replace p2_2 := p2.c2
  clear hB
  go_wp2_with fail
  refine (ints_any sa1 sc1 sz0 sa2 sc2 sz2 y1 _ _ ((HI.out.2.1.1.below hb.out).mono hb.out.size) ((HI.out.2.2.1.below hb.out).mono hb.out.size)).mono ?_
  rintro e v3 ⟨rfl, hB⟩
  replace hb : Hid (Below w.heap.size w v3) := hb.out.trans (hB.mono hb.out.size)
  replace p0 := p0.go hB
  replace p1 := p1.go hB
  replace p2 := p2.go hB
  replace p0_0 := p0.c0
  replace p0_1 := p0.c1
  replace p0_2 := p0.c2
  replace p1_0 := p1.c0
  replace p1_1 := p1.c1
  replace p1_2 := p1.c2
  replace p2_0 := p2.c0
  replace p2_1 := p2.c1
  replace p2_2 := p2.c2
  clear hB
  go_wp2_with fail
  refine (check_ok false sa0 sc0 sz0 da0 dc0 dz0 x1 x2 _ ((HI.out.1.1.below hb.out).mono hb.out.size) ((HI.out.1.2.1.below hb.out).mono hb.out.size) F0.out).mono ?_
  rintro e v4 ⟨rfl, hB⟩
  replace hb : Hid (Below w.heap.size w v4) := hb.out.trans (hB.mono hb.out.size)
  replace p0 := p0.go hB
  replace p1 := p1.go hB
  replace p2 := p2.go hB
  replace p0_0 := p0.c0
  replace p0_1 := p0.c1
  replace p0_2 := p0.c2
  replace p1_0 := p1.c0
  replace p1_1 := p1.c1
  replace p1_2 := p1.c2
  replace p2_0 := p2.c0
  replace p2_1 := p2.c1
  replace p2_2 := p2.c2
  clear hB
  go_wp2_with fail
  refine (check_ok false sa1 sc1 sz0 da1 dc1 dz1 y1 y2 _ ((HI.out.2.1.1.below hb.out).mono hb.out.size) ((HI.out.2.1.2.1.below hb.out).mono hb.out.size) F1.out).mono ?_
  rintro e v5 ⟨rfl, hB⟩
  replace hb : Hid (Below w.heap.size w v5) := hb.out.trans (hB.mono hb.out.size)
  replace p0 := p0.go hB
  replace p1 := p1.go hB
  replace p2 := p2.go hB
  replace p0_0 := p0.c0
  replace p0_1 := p0.c1
  replace p0_2 := p0.c2
  replace p1_0 := p1.c0
  replace p1_1 := p1.c1
  replace p1_2 := p1.c2
  replace p2_0 := p2.c0
  replace p2_1 := p2.c1
  replace p2_2 := p2.c2
  clear hB
  go_wp2_with fail
  refine (check_ok false sa2 sc2 sz2 da2 dc2 dz2 z1 z2 _ ((HI.out.2.2.1.below hb.out).mono hb.out.size) ((HI.out.2.2.2.1.below hb.out).mono hb.out.size) F2.out).mono ?_
  rintro e v6 ⟨rfl, hB⟩
  replace hb : Hid (Below w.heap.size w v6) := hb.out.trans (hB.mono hb.out.size)
  replace p0 := p0.go hB
  replace p1 := p1.go hB
  replace p2 := p2.go hB
  replace p0_0 := p0.c0
  replace p0_1 := p0.c1
  replace p0_2 := p0.c2
  replace p1_0 := p1.c0
  replace p1_1 := p1.c1
  replace p1_2 := p1.c2
  replace p2_0 := p2.c0
  replace p2_1 := p2.c1
  replace p2_2 := p2.c2
  clear hB
  rw [eqB_true rfl, eqB_false G.out]
  go_wp2_with fail
  go_ret
  exact ⟨rfl, hb.out⟩
set_option maxRecDepth 100000 in
set_option maxHeartbeats 16000000 in
theorem ering_ok (H2 : C2) (sa0 : Option Addr) (sc0 : Nat) (sz0 : List Int) (da0 : Option Addr) (dc0 : Nat) (dz0 : List Int) (sa1 : Option Addr) (sc1 : Nat) (da1 : Option Addr) (dc1 : Nat) (dz1 : List Int) (sa2 : Option Addr) (sc2 : Nat) (da2 : Option Addr) (dc2 : Nat) (dz2 : List Int) (w : World) (w0 : IsArr w sa0 sz0 da0 dz0) (w1 : IsArr w sa1 sz0 da1 dz1) (w2 : IsArr w sa2 sz0 da2 dz2) (F0 : Hid (flawE false sz0 dz0 = 0)) (F1 : Hid (flawE false sz0 dz1 = 0)) (F2 : Hid (flawE false sz0 dz2 = 0)) :
    Calls Try.prog 5 #[.agg #[.bool false, .slice sa0 sz0.length sc0, .slice da0 dz0.length dc0], .agg #[.bool false, .slice sa1 sz0.length sc1, .slice da1 dz1.length dc1], .agg #[.bool false, .slice sa2 sz0.length sc2, .slice da2 dz2.length dc2]] w fun e w' => e = .returned (.bool true) ∧ Below w.heap.size w w' := by
  obtain ⟨x1, x2, x3, x4, _, T0⟩ := w0
  obtain ⟨y1, y2, y3, y4, _, T1⟩ := w1
  obtain ⟨z1, z2, z3, z4, _, T2⟩ := w2
  have HI : Hid ((IsInts w.heap.size w sa0 sz0 ∧ IsInts w.heap.size w da0 dz0 ∧ ∀ j, In64 (nth dz0 j)) ∧ (IsInts w.heap.size w sa1 sz0 ∧ IsInts w.heap.size w da1 dz1 ∧ ∀ j, In64 (nth dz1 j)) ∧ (IsInts w.heap.size w sa2 sz0 ∧ IsInts w.heap.size w da2 dz2 ∧ ∀ j, In64 (nth dz2 j))) := ⟨⟨x3, x4, T0⟩, ⟨y3, y4, T1⟩, ⟨z3, z4, T2⟩⟩
  clear x3 x4 T0 y3 y4 T1 z3 z4 T2
  have p0 : Abx (((w.alloc (.cells #[.bool false, .slice sa0 sz0.length sc0, .slice da0 dz0.length dc0] 25)).alloc (.cells #[.bool false, .slice sa1 sz0.length sc1, .slice da1 dz1.length dc1] 25)).alloc (.cells #[.bool false, .slice sa2 sz0.length sc2, .slice da2 dz2.length dc2] 25)) w.heap.size (.bool false) (.slice sa0 sz0.length sc0) (.slice da0 dz0.length dc0) := ((Abx.new w _ _ _).al _).al _
  have p1 : Abx (((w.alloc (.cells #[.bool false, .slice sa0 sz0.length sc0, .slice da0 dz0.length dc0] 25)).alloc (.cells #[.bool false, .slice sa1 sz0.length sc1, .slice da1 dz1.length dc1] 25)).alloc (.cells #[.bool false, .slice sa2 sz0.length sc2, .slice da2 dz2.length dc2] 25)) (w.heap.size + 1) (.bool false) (.slice sa1 sz0.length sc1) (.slice da1 dz1.length dc1) := (Abx.new1 w _ _ _ _).al _
  have p2 := Abx.new ((w.alloc (.cells #[.bool false, .slice sa0 sz0.length sc0, .slice da0 dz0.length dc0] 25)).alloc (.cells #[.bool false, .slice sa1 sz0.length sc1, .slice da1 dz1.length dc1] 25)) (.bool false) (.slice sa2 sz0.length sc2) (.slice da2 dz2.length dc2)
  simp only [World.size_alloc] at p2
  have hs : (((w.alloc (.cells #[.bool false, .slice sa0 sz0.length sc0, .slice da0 dz0.length dc0] 25)).alloc (.cells #[.bool false, .slice sa1 sz0.length sc1, .slice da1 dz1.length dc1] 25)).alloc (.cells #[.bool false, .slice sa2 sz0.length sc2, .slice da2 dz2.length dc2] 25)).heap.size = w.heap.size + 1 + 1 + 1 := by simp
  have hb : Hid (Below w.heap.size w (((w.alloc (.cells #[.bool false, .slice sa0 sz0.length sc0, .slice da0 dz0.length dc0] 25)).alloc (.cells #[.bool false, .slice sa1 sz0.length sc1, .slice da1 dz1.length dc1] 25)).alloc (.cells #[.bool false, .slice sa2 sz0.length sc2, .slice da2 dz2.length dc2] 25))) := (((Below.refl _ w).alloc (Nat.le_refl _) _).alloc (by simp) _).alloc (by simp; omega) _
  obtain ⟨u, hu⟩ : ∃ u, u = (((w.alloc (.cells #[.bool false, .slice sa0 sz0.length sc0, .slice da0 dz0.length dc0] 25)).alloc (.cells #[.bool false, .slice sa1 sz0.length sc1, .slice da1 dz1.length dc1] 25)).alloc (.cells #[.bool false, .slice sa2 sz0.length sc2, .slice da2 dz2.length dc2] 25)) := ⟨_, rfl⟩
  rw [← hu] at p0 p1 p2 hs hb
  have n1 : NewInts u.heap.size ((u.alloc (.cells #[.int .i64 3] 3)).alloc (.cells #[.int .i64 4] 3)) (some ⟨u.heap.size, 0, none⟩) [3] := (new_lit u 3 [3]).al _
  have n2 : NewInts (u.alloc (.cells #[.int .i64 3] 3)).heap.size ((u.alloc (.cells #[.int .i64 3] 3)).alloc (.cells #[.int .i64 4] 3)) (some ⟨(u.alloc (.cells #[.int .i64 3] 3)).heap.size, 0, none⟩) [4] := new_lit (u.alloc (.cells #[.int .i64 3] 3)) 3 [4]
  simp only [World.size_alloc, hs] at n1 n2
  have HN : Hid (IsInts ((u.alloc (.cells #[.int .i64 3] 3)).alloc (.cells #[.int .i64 4] 3)).heap.size ((u.alloc (.cells #[.int .i64 3] 3)).alloc (.cells #[.int .i64 4] 3)) (some ⟨w.heap.size + 1 + 1 + 1, 0, none⟩) [3] ∧ IsInts ((u.alloc (.cells #[.int .i64 3] 3)).alloc (.cells #[.int .i64 4] 3)).heap.size ((u.alloc (.cells #[.int .i64 3] 3)).alloc (.cells #[.int .i64 4] 3)) (some ⟨w.heap.size + 1 + 1 + 1 + 1, 0, none⟩) [4]) := ⟨n1.ints, n2.ints⟩
  replace hb : Hid (Below w.heap.size w ((u.alloc (.cells #[.int .i64 3] 3)).alloc (.cells #[.int .i64 4] 3))) := (hb.out.alloc (by omega) _).alloc (by simp; omega) _
  replace p0 := (p0.al (.cells #[.int .i64 3] 3)).al (.cells #[.int .i64 4] 3)
  replace p1 := (p1.al (.cells #[.int .i64 3] 3)).al (.cells #[.int .i64 4] 3)
  replace p2 := (p2.al (.cells #[.int .i64 3] 3)).al (.cells #[.int .i64 4] 3)
  clear n1 n2 hs
  subst hu
  go_enter Try.func5, Try.ntmps5
  go_wp2_with fail
  refine (c2_ok H2 3 false none 0 [] (some ⟨w.heap.size + 1 + 1 + 1, 0, none⟩) 1 [3] false none 0 [] (some ⟨w.heap.size + 1 + 1 + 1 + 1, 0, none⟩) 1 [4] _ (by unfold In64; decide) (by simp) (by simp) (by simp) (by simp) (.inl rfl) HN.out.1 (.inl rfl) HN.out.2 (lit_in 3 (by decide)) (lit_in 4 (by decide)) (by decide)).mono ?_
  rintro e v1 ⟨f1, g1, f2, g2, he, _, hY, hB⟩
  replace hb : Hid (Below w.heap.size w v1) := hb.out.trans (hB.mono hb.out.size)
  replace p0 := p0.go hB
  replace p1 := p1.go hB
  replace p2 := p2.go hB
  clear hB
  clear HN
  rw [fact_v, show shp [] [] = [] by decide] at he
  rw [fact_v] at hY
  subst he
  obtain ⟨b, off, rfl, _, hcell⟩ := hY.ints.at (q := 0) (by simp)
  have hc := hcell 0 (by simp)
  rw [Nat.add_zero, nth_zero] at hc
  have hlb := World.block_lt_of_cell? _ _ hc
  clear hcell hY
  have p0_0 := p0.c0
  have p0_1 := p0.c1
  have p0_2 := p0.c2
  have p1_0 := p1.c0
  have p1_1 := p1.c1
  have p1_2 := p1.c2
  have p2_0 := p2.c0
  have p2_1 := p2.c1
  have p2_2 := p2.c2
  replace hb : Hid (Below w.heap.size w (v1.alloc (.cells #[.bool false, .slice f1 0 g1, .slice (some ⟨b, off, none⟩) 1 g2] 25))) := hb.out.alloc hb.out.size _
  replace p0 := p0.al (.cells #[.bool false, .slice f1 0 g1, .slice (some ⟨b, off, none⟩) 1 g2] 25)
  replace p1 := p1.al (.cells #[.bool false, .slice f1 0 g1, .slice (some ⟨b, off, none⟩) 1 g2] 25)
  replace p2 := p2.al (.cells #[.bool false, .slice f1 0 g1, .slice (some ⟨b, off, none⟩) 1 g2] 25)
  replace p0_0 := p0.c0
  replace p0_1 := p0.c1
  replace p0_2 := p0.c2
  replace p1_0 := p1.c0
  replace p1_1 := p1.c1
  replace p1_2 := p1.c2
  replace p2_0 := p2.c0
  replace p2_1 := p2.c1
  replace p2_2 := p2.c2
  replace hc : (v1.alloc (.cells #[.bool false, .slice f1 0 g1, .slice (some ⟨b, off, none⟩) 1 g2] 25)).cell? ⟨b, off, none⟩ = some (.int .i64 12) := (World.cell?_alloc_lt _ _ ⟨b, off, none⟩ hlb).trans hc
  go_wp2_with fail
  clear hc hlb
  refine (ints_any sa0 sc0 sz0 sa1 sc1 sz0 x1 _ _ ((HI.out.1.1.below hb.out).mono hb.out.size) ((HI.out.2.1.1.below hb.out).mono hb.out.size)).mono ?_
  rintro e v2 ⟨rfl, hB⟩
  replace hb : Hid (Below w.heap.size w v2) := hb.out.trans (hB.mono hb.out.size)
  replace p0 := p0.go hB
  replace p1 := p1.go hB
  replace p2 := p2.go hB
  replace p0_0 := p0.c0
  replace p0_1 := p0.c1
  replace p0_2 := p0.c2
  replace p1_0 := p1.c0
  replace p1_1 := p1.c1
  replace p1_2 := p1.c2
  replace p2_0 := p2.c0
  replace p2_1 := p2.c1
  replace p2_2 := p2.c2
  clear hB
  go_wp2_with fail
  refine (ints_any sa1 sc1 sz0 sa2 sc2 sz0 y1 _ _ ((HI.out.2.1.1.below hb.out).mono hb.out.size) ((HI.out.2.2.1.below hb.out).mono hb.out.size)).mono ?_
  rintro e v3 ⟨rfl, hB⟩
  replace hb : Hid (Below w.heap.size w v3) := hb.out.trans (hB.mono hb.out.size)
  replace p0 := p0.go hB
  replace p1 := p1.go hB
  replace p2 := p2.go hB
  replace p0_0 := p0.c0
  replace p0_1 := p0.c1
  replace p0_2 := p0.c2
  replace p1_0 := p1.c0
  replace p1_1 := p1.c1
  replace p1_2 := p1.c2
  replace p2_0 := p2.c0
  replace p2_1 := p2.c1
  replace p2_2 := p2.c2
  clear hB
  go_wp2_with fail
  refine (check_ok false sa0 sc0 sz0 da0 dc0 dz0 x1 x2 _ ((HI.out.1.1.below hb.out).mono hb.out.size) ((HI.out.1.2.1.below hb.out).mono hb.out.size) F0.out).mono ?_
  rintro e v4 ⟨rfl, hB⟩
  replace hb : Hid (Below w.heap.size w v4) := hb.out.trans (hB.mono hb.out.size)
  replace p0 := p0.go hB
  replace p1 := p1.go hB
  replace p2 := p2.go hB
  replace p0_0 := p0.c0
  replace p0_1 := p0.c1
  replace p0_2 := p0.c2
  replace p1_0 := p1.c0
  replace p1_1 := p1.c1
  replace p1_2 := p1.c2
  replace p2_0 := p2.c0
  replace p2_1 := p2.c1
  replace p2_2 := p2.c2
  clear hB
  go_wp2_with fail
  refine (check_ok false sa1 sc1 sz0 da1 dc1 dz1 y1 y2 _ ((HI.out.2.1.1.below hb.out).mono hb.out.size) ((HI.out.2.1.2.1.below hb.out).mono hb.out.size) F1.out).mono ?_
  rintro e v5 ⟨rfl, hB⟩
  replace hb : Hid (Below w.heap.size w v5) := hb.out.trans (hB.mono hb.out.size)
  replace p0 := p0.go hB
  replace p1 := p1.go hB
  replace p2 := p2.go hB
  replace p0_0 := p0.c0
  replace p0_1 := p0.c1
  replace p0_2 := p0.c2
  replace p1_0 := p1.c0
  replace p1_1 := p1.c1
  replace p1_2 := p1.c2
  replace p2_0 := p2.c0
  replace p2_1 := p2.c1
  replace p2_2 := p2.c2
  clear hB
  go_wp2_with fail
  refine (check_ok false sa2 sc2 sz0 da2 dc2 dz2 z1 z2 _ ((HI.out.2.2.1.below hb.out).mono hb.out.size) ((HI.out.2.2.2.1.below hb.out).mono hb.out.size) F2.out).mono ?_
  rintro e v6 ⟨rfl, hB⟩
  replace hb : Hid (Below w.heap.size w v6) := hb.out.trans (hB.mono hb.out.size)
  replace p0 := p0.go hB
  replace p1 := p1.go hB
  replace p2 := p2.go hB
  replace p0_0 := p0.c0
  replace p0_1 := p0.c1
  replace p0_2 := p0.c2
  replace p1_0 := p1.c0
  replace p1_1 := p1.c1
  replace p1_2 := p1.c2
  replace p2_0 := p2.c0
  replace p2_1 := p2.c1
  replace p2_2 := p2.c2
  clear hB
  rw [eqB_true rfl]
  go_wp2_with fail
  refine (rg_two H2 1 (by omega) sa1 sc1 sz0 da1 dc1 dz1 sa2 sc2 da2 dc2 dz2 _ ((HI.out.2.1.1.below hb.out).mono hb.out.size) ((HI.out.2.1.2.1.below hb.out).mono hb.out.size) ((HI.out.2.2.1.below hb.out).mono hb.out.size) ((HI.out.2.2.2.1.below hb.out).mono hb.out.size) HI.out.2.1.2.2 HI.out.2.2.2.2 F1.out F2.out).mono ?_
  rintro e v7 ⟨xa1, xc1, ya1, yc1, rfl, hX1, hY1, hB⟩
  replace hb : Hid (Below w.heap.size w v7) := hb.out.trans (hB.mono hb.out.size)
  replace p0 := p0.go hB
  replace p1 := p1.go hB
  replace p2 := p2.go hB
  replace p0_0 := p0.c0
  replace p0_1 := p0.c1
  replace p0_2 := p0.c2
  replace p1_0 := p1.c0
  replace p1_1 := p1.c1
  replace p1_2 := p1.c2
  replace p2_0 := p2.c0
  replace p2_1 := p2.c1
  replace p2_2 := p2.c2
  clear hB
  have l_p0 := p0.lt
  have l_p1 := p1.lt
  have l_p2 := p2.lt
  have l_s := hb.out.size
  replace hb : Hid (Below w.heap.size w (v7.alloc (.cells #[.bool false, .slice xa1 sz0.length xc1, .slice ya1 (rV 1 dz1 dz2).length yc1] 25))) := hb.out.alloc hb.out.size _
  replace p0 := p0.al (.cells #[.bool false, .slice xa1 sz0.length xc1, .slice ya1 (rV 1 dz1 dz2).length yc1] 25)
  replace p1 := p1.al (.cells #[.bool false, .slice xa1 sz0.length xc1, .slice ya1 (rV 1 dz1 dz2).length yc1] 25)
  replace p2 := p2.al (.cells #[.bool false, .slice xa1 sz0.length xc1, .slice ya1 (rV 1 dz1 dz2).length yc1] 25)
  replace hX1 := hX1.al (.cells #[.bool false, .slice xa1 sz0.length xc1, .slice ya1 (rV 1 dz1 dz2).length yc1] 25)
  replace hY1 := hY1.al (.cells #[.bool false, .slice xa1 sz0.length xc1, .slice ya1 (rV 1 dz1 dz2).length yc1] 25)
  replace p0_0 := p0.c0
  replace p0_1 := p0.c1
  replace p0_2 := p0.c2
  replace p1_0 := p1.c0
  replace p1_1 := p1.c1
  replace p1_2 := p1.c2
  replace p2_0 := p2.c0
  replace p2_1 := p2.c1
  replace p2_2 := p2.c2
  have b1 := Abx.new v7 (.bool false) (.slice xa1 sz0.length xc1) (.slice ya1 (rV 1 dz1 dz2).length yc1)
  have b1_0 := b1.c0
  have b1_1 := b1.c1
  have b1_2 := b1.c2
  go_wp2_with fail
  refine (rg_two H2 3 (by omega) sa0 sc0 sz0 da0 dc0 dz0 xa1 xc1 ya1 yc1 (rV 1 dz1 dz2) _ ((HI.out.1.1.below hb.out).mono hb.out.size) ((HI.out.1.2.1.below hb.out).mono hb.out.size) hX1.ints hY1.ints HI.out.1.2.2 (fun j => rV_in (by omega) _ _ j) F0.out (rV_flaw F1.out)).mono ?_
  rintro e v8 ⟨xa2, xc2, ya2, yc2, rfl, hX2, hY2, hB⟩
  replace hb : Hid (Below w.heap.size w v8) := hb.out.trans (hB.mono hb.out.size)
  replace p0 := p0.go hB
  replace p1 := p1.go hB
  replace p2 := p2.go hB
  replace hX1 := hX1.go hB
  replace hY1 := hY1.go hB
  replace b1 := b1.go hB
  replace p0_0 := p0.c0
  replace p0_1 := p0.c1
  replace p0_2 := p0.c2
  replace p1_0 := p1.c0
  replace p1_1 := p1.c1
  replace p1_2 := p1.c2
  replace p2_0 := p2.c0
  replace p2_1 := p2.c1
  replace p2_2 := p2.c2
  replace b1_0 := b1.c0
  replace b1_1 := b1.c1
  replace b1_2 := b1.c2
  clear hB
  clear hX1
  clear hY1
  have fz_0 := b1.fr 0
  have fz_1 := b1.fr 1
  have fz_2 := b1.fr 2
  have N_p0 := p0.ot3 l_p0 (.bool false) (.slice xa2 sz0.length xc2) (.slice ya2 (rV 3 dz0 (rV 1 dz1 dz2)).length yc2)
  have N_p1 := p1.ot3 l_p1 (.bool false) (.slice xa2 sz0.length xc2) (.slice ya2 (rV 3 dz0 (rV 1 dz1 dz2)).length yc2)
  have N_p2 := p2.ot3 l_p2 (.bool false) (.slice xa2 sz0.length xc2) (.slice ya2 (rV 3 dz0 (rV 1 dz1 dz2)).length yc2)
  have N_b1 := b1.set3 (.bool false) (.slice xa2 sz0.length xc2) (.slice ya2 (rV 3 dz0 (rV 1 dz1 dz2)).length yc2)
  have N_hX2 := hX2.set3 (b := v7.heap.size) (by simp) (.bool false) (.slice xa2 sz0.length xc2) (.slice ya2 (rV 3 dz0 (rV 1 dz1 dz2)).length yc2)
  have N_hY2 := hY2.set3 (b := v7.heap.size) (by simp) (.bool false) (.slice xa2 sz0.length xc2) (.slice ya2 (rV 3 dz0 (rV 1 dz1 dz2)).length yc2)
  have N_hb : Hid (Below w.heap.size w (((v8.setCell ⟨v7.heap.size, 0, none⟩ (.bool false)).setCell ⟨v7.heap.size, 1, none⟩ (.slice xa2 sz0.length xc2)).setCell ⟨v7.heap.size, 2, none⟩ (.slice ya2 (rV 3 dz0 (rV 1 dz1 dz2)).length yc2))) := bel_set3 hb.out l_s (.bool false) (.slice xa2 sz0.length xc2) (.slice ya2 (rV 3 dz0 (rV 1 dz1 dz2)).length yc2)
  have N_p0_0 := N_p0.c0
  have N_p0_1 := N_p0.c1
  have N_p0_2 := N_p0.c2
  have N_p1_0 := N_p1.c0
  have N_p1_1 := N_p1.c1
  have N_p1_2 := N_p1.c2
  have N_p2_0 := N_p2.c0
  have N_p2_1 := N_p2.c1
  have N_p2_2 := N_p2.c2
  have N_b1_0 := N_b1.c0
  have N_b1_1 := N_b1.c1
  have N_b1_2 := N_b1.c2
  go_wp2_with fail
  clear fz_0 fz_1 fz_2 hb l_s l_p0 l_p1 l_p2 p0 p1 p2 b1 hX2 hY2 p0_0 p0_1 p0_2 p1_0 p1_1 p1_2 p2_0 p2_1 p2_2 b1_0 b1_1 b1_2
  have hb := N_hb
  have p0 := N_p0
  have p1 := N_p1
  have p2 := N_p2
  have b1 := N_b1
  have hX2 := N_hX2
  have hY2 := N_hY2
  have p0_0 := N_p0_0
  have p0_1 := N_p0_1
  have p0_2 := N_p0_2
  have p1_0 := N_p1_0
  have p1_1 := N_p1_1
  have p1_2 := N_p1_2
  have p2_0 := N_p2_0
  have p2_1 := N_p2_1
  have p2_2 := N_p2_2
  have b1_0 := N_b1_0
  have b1_1 := N_b1_1
  have b1_2 := N_b1_2
  clear N_hb N_p0 N_p1 N_p2 N_b1 N_hX2 N_hY2 N_p0_0 N_p0_1 N_p0_2 N_p1_0 N_p1_1 N_p1_2 N_p2_0 N_p2_1 N_p2_2 N_b1_0 N_b1_1 N_b1_2
  refine (rg_two H2 3 (by omega) sa0 sc0 sz0 da0 dc0 dz0 sa1 sc1 da1 dc1 dz1 _ ((HI.out.1.1.below hb.out).mono hb.out.size) ((HI.out.1.2.1.below hb.out).mono hb.out.size) ((HI.out.2.1.1.below hb.out).mono hb.out.size) ((HI.out.2.1.2.1.below hb.out).mono hb.out.size) HI.out.1.2.2 HI.out.2.1.2.2 F0.out F1.out).mono ?_
  rintro e v9 ⟨xa3, xc3, ya3, yc3, rfl, hX3, hY3, hB⟩
  replace hb : Hid (Below w.heap.size w v9) := hb.out.trans (hB.mono hb.out.size)
  replace p0 := p0.go hB
  replace p1 := p1.go hB
  replace p2 := p2.go hB
  replace b1 := b1.go hB
  replace hX2 := hX2.go hB
  replace hY2 := hY2.go hB
  replace p0_0 := p0.c0
  replace p0_1 := p0.c1
  replace p0_2 := p0.c2
  replace p1_0 := p1.c0
  replace p1_1 := p1.c1
  replace p1_2 := p1.c2
  replace p2_0 := p2.c0
  replace p2_1 := p2.c1
  replace p2_2 := p2.c2
  replace b1_0 := b1.c0
  replace b1_1 := b1.c1
  replace b1_2 := b1.c2
  clear hB
  replace hb : Hid (Below w.heap.size w (v9.alloc (.cells #[.bool false, .slice xa3 sz0.length xc3, .slice ya3 (rV 3 dz0 dz1).length yc3] 25))) := hb.out.alloc hb.out.size _
  replace p0 := p0.al (.cells #[.bool false, .slice xa3 sz0.length xc3, .slice ya3 (rV 3 dz0 dz1).length yc3] 25)
  replace p1 := p1.al (.cells #[.bool false, .slice xa3 sz0.length xc3, .slice ya3 (rV 3 dz0 dz1).length yc3] 25)
  replace p2 := p2.al (.cells #[.bool false, .slice xa3 sz0.length xc3, .slice ya3 (rV 3 dz0 dz1).length yc3] 25)
  replace b1 := b1.al (.cells #[.bool false, .slice xa3 sz0.length xc3, .slice ya3 (rV 3 dz0 dz1).length yc3] 25)
  replace hX2 := hX2.al (.cells #[.bool false, .slice xa3 sz0.length xc3, .slice ya3 (rV 3 dz0 dz1).length yc3] 25)
  replace hY2 := hY2.al (.cells #[.bool false, .slice xa3 sz0.length xc3, .slice ya3 (rV 3 dz0 dz1).length yc3] 25)
  replace hX3 := hX3.al (.cells #[.bool false, .slice xa3 sz0.length xc3, .slice ya3 (rV 3 dz0 dz1).length yc3] 25)
  replace hY3 := hY3.al (.cells #[.bool false, .slice xa3 sz0.length xc3, .slice ya3 (rV 3 dz0 dz1).length yc3] 25)
  replace p0_0 := p0.c0
  replace p0_1 := p0.c1
  replace p0_2 := p0.c2
  replace p1_0 := p1.c0
  replace p1_1 := p1.c1
  replace p1_2 := p1.c2
  replace p2_0 := p2.c0
  replace p2_1 := p2.c1
  replace p2_2 := p2.c2
  replace b1_0 := b1.c0
  replace b1_1 := b1.c1
  replace b1_2 := b1.c2
  have b3 := Abx.new v9 (.bool false) (.slice xa3 sz0.length xc3) (.slice ya3 (rV 3 dz0 dz1).length yc3)
  have b3_0 := b3.c0
  have b3_1 := b3.c1
  have b3_2 := b3.c2
  go_wp2_with fail
  refine (rg_two H2 3 (by omega) sa0 sc0 sz0 da0 dc0 dz0 sa2 sc2 da2 dc2 dz2 _ ((HI.out.1.1.below hb.out).mono hb.out.size) ((HI.out.1.2.1.below hb.out).mono hb.out.size) ((HI.out.2.2.1.below hb.out).mono hb.out.size) ((HI.out.2.2.2.1.below hb.out).mono hb.out.size) HI.out.1.2.2 HI.out.2.2.2.2 F0.out F2.out).mono ?_
  rintro e v10 ⟨xa4, xc4, ya4, yc4, rfl, hX4, hY4, hB⟩
  replace hb : Hid (Below w.heap.size w v10) := hb.out.trans (hB.mono hb.out.size)
  replace p0 := p0.go hB
  replace p1 := p1.go hB
  replace p2 := p2.go hB
  replace b1 := b1.go hB
  replace hX2 := hX2.go hB
  replace hY2 := hY2.go hB
  replace hX3 := hX3.go hB
  replace hY3 := hY3.go hB
  replace b3 := b3.go hB
  replace p0_0 := p0.c0
  replace p0_1 := p0.c1
  replace p0_2 := p0.c2
  replace p1_0 := p1.c0
  replace p1_1 := p1.c1
  replace p1_2 := p1.c2
  replace p2_0 := p2.c0
  replace p2_1 := p2.c1
  replace p2_2 := p2.c2
  replace b1_0 := b1.c0
  replace b1_1 := b1.c1
  replace b1_2 := b1.c2
  replace b3_0 := b3.c0
  replace b3_1 := b3.c1
  replace b3_2 := b3.c2
  clear hB
  replace hb : Hid (Below w.heap.size w (v10.alloc (.cells #[.bool false, .slice xa4 sz0.length xc4, .slice ya4 (rV 3 dz0 dz2).length yc4] 25))) := hb.out.alloc hb.out.size _
  replace p0 := p0.al (.cells #[.bool false, .slice xa4 sz0.length xc4, .slice ya4 (rV 3 dz0 dz2).length yc4] 25)
  replace p1 := p1.al (.cells #[.bool false, .slice xa4 sz0.length xc4, .slice ya4 (rV 3 dz0 dz2).length yc4] 25)
  replace p2 := p2.al (.cells #[.bool false, .slice xa4 sz0.length xc4, .slice ya4 (rV 3 dz0 dz2).length yc4] 25)
  replace b1 := b1.al (.cells #[.bool false, .slice xa4 sz0.length xc4, .slice ya4 (rV 3 dz0 dz2).length yc4] 25)
  replace hX2 := hX2.al (.cells #[.bool false, .slice xa4 sz0.length xc4, .slice ya4 (rV 3 dz0 dz2).length yc4] 25)
  replace hY2 := hY2.al (.cells #[.bool false, .slice xa4 sz0.length xc4, .slice ya4 (rV 3 dz0 dz2).length yc4] 25)
  replace hX3 := hX3.al (.cells #[.bool false, .slice xa4 sz0.length xc4, .slice ya4 (rV 3 dz0 dz2).length yc4] 25)
  replace hY3 := hY3.al (.cells #[.bool false, .slice xa4 sz0.length xc4, .slice ya4 (rV 3 dz0 dz2).length yc4] 25)
  replace b3 := b3.al (.cells #[.bool false, .slice xa4 sz0.length xc4, .slice ya4 (rV 3 dz0 dz2).length yc4] 25)
  replace hX4 := hX4.al (.cells #[.bool false, .slice xa4 sz0.length xc4, .slice ya4 (rV 3 dz0 dz2).length yc4] 25)
  replace hY4 := hY4.al (.cells #[.bool false, .slice xa4 sz0.length xc4, .slice ya4 (rV 3 dz0 dz2).length yc4] 25)
  replace p0_0 := p0.c0
  replace p0_1 := p0.c1
  replace p0_2 := p0.c2
  replace p1_0 := p1.c0
  replace p1_1 := p1.c1
  replace p1_2 := p1.c2
  replace p2_0 := p2.c0
  replace p2_1 := p2.c1
  replace p2_2 := p2.c2
  replace b1_0 := b1.c0
  replace b1_1 := b1.c1
  replace b1_2 := b1.c2
  replace b3_0 := b3.c0
  replace b3_1 := b3.c1
  replace b3_2 := b3.c2
  have b4 := Abx.new v10 (.bool false) (.slice xa4 sz0.length xc4) (.slice ya4 (rV 3 dz0 dz2).length yc4)
  have b4_0 := b4.c0
  have b4_1 := b4.c1
  have b4_2 := b4.c2
  go_wp2_with fail
  refine (rg_two H2 1 (by omega) xa3 xc3 sz0 ya3 yc3 (rV 3 dz0 dz1) xa4 xc4 ya4 yc4 (rV 3 dz0 dz2) _ hX3.ints hY3.ints hX4.ints hY4.ints (fun j => rV_in (by omega) _ _ j) (fun j => rV_in (by omega) _ _ j) (rV_flaw F0.out) (rV_flaw F0.out)).mono ?_
  rintro e v11 ⟨xa5, xc5, ya5, yc5, rfl, hX5, hY5, hB⟩
  replace hb : Hid (Below w.heap.size w v11) := hb.out.trans (hB.mono hb.out.size)
  replace p0 := p0.go hB
  replace p1 := p1.go hB
  replace p2 := p2.go hB
  replace b1 := b1.go hB
  replace hX2 := hX2.go hB
  replace hY2 := hY2.go hB
  replace hX3 := hX3.go hB
  replace hY3 := hY3.go hB
  replace b3 := b3.go hB
  replace hX4 := hX4.go hB
  replace hY4 := hY4.go hB
  replace b4 := b4.go hB
  replace p0_0 := p0.c0
  replace p0_1 := p0.c1
  replace p0_2 := p0.c2
  replace p1_0 := p1.c0
  replace p1_1 := p1.c1
  replace p1_2 := p1.c2
  replace p2_0 := p2.c0
  replace p2_1 := p2.c1
  replace p2_2 := p2.c2
  replace b1_0 := b1.c0
  replace b1_1 := b1.c1
  replace b1_2 := b1.c2
  replace b3_0 := b3.c0
  replace b3_1 := b3.c1
  replace b3_2 := b3.c2
  replace b4_0 := b4.c0
  replace b4_1 := b4.c1
  replace b4_2 := b4.c2
  clear hB
  replace hb : Hid (Below w.heap.size w (v11.alloc (.cells #[.bool false, .slice xa5 sz0.length xc5, .slice ya5 (rV 1 (rV 3 dz0 dz1) (rV 3 dz0 dz2)).length yc5] 25))) := hb.out.alloc hb.out.size _
  replace p0 := p0.al (.cells #[.bool false, .slice xa5 sz0.length xc5, .slice ya5 (rV 1 (rV 3 dz0 dz1) (rV 3 dz0 dz2)).length yc5] 25)
  replace p1 := p1.al (.cells #[.bool false, .slice xa5 sz0.length xc5, .slice ya5 (rV 1 (rV 3 dz0 dz1) (rV 3 dz0 dz2)).length yc5] 25)
  replace p2 := p2.al (.cells #[.bool false, .slice xa5 sz0.length xc5, .slice ya5 (rV 1 (rV 3 dz0 dz1) (rV 3 dz0 dz2)).length yc5] 25)
  replace b1 := b1.al (.cells #[.bool false, .slice xa5 sz0.length xc5, .slice ya5 (rV 1 (rV 3 dz0 dz1) (rV 3 dz0 dz2)).length yc5] 25)
  replace hX2 := hX2.al (.cells #[.bool false, .slice xa5 sz0.length xc5, .slice ya5 (rV 1 (rV 3 dz0 dz1) (rV 3 dz0 dz2)).length yc5] 25)
  replace hY2 := hY2.al (.cells #[.bool false, .slice xa5 sz0.length xc5, .slice ya5 (rV 1 (rV 3 dz0 dz1) (rV 3 dz0 dz2)).length yc5] 25)
  replace hX3 := hX3.al (.cells #[.bool false, .slice xa5 sz0.length xc5, .slice ya5 (rV 1 (rV 3 dz0 dz1) (rV 3 dz0 dz2)).length yc5] 25)
  replace hY3 := hY3.al (.cells #[.bool false, .slice xa5 sz0.length xc5, .slice ya5 (rV 1 (rV 3 dz0 dz1) (rV 3 dz0 dz2)).length yc5] 25)
  replace b3 := b3.al (.cells #[.bool false, .slice xa5 sz0.length xc5, .slice ya5 (rV 1 (rV 3 dz0 dz1) (rV 3 dz0 dz2)).length yc5] 25)
  replace hX4 := hX4.al (.cells #[.bool false, .slice xa5 sz0.length xc5, .slice ya5 (rV 1 (rV 3 dz0 dz1) (rV 3 dz0 dz2)).length yc5] 25)
  replace hY4 := hY4.al (.cells #[.bool false, .slice xa5 sz0.length xc5, .slice ya5 (rV 1 (rV 3 dz0 dz1) (rV 3 dz0 dz2)).length yc5] 25)
  replace b4 := b4.al (.cells #[.bool false, .slice xa5 sz0.length xc5, .slice ya5 (rV 1 (rV 3 dz0 dz1) (rV 3 dz0 dz2)).length yc5] 25)
  replace hX5 := hX5.al (.cells #[.bool false, .slice xa5 sz0.length xc5, .slice ya5 (rV 1 (rV 3 dz0 dz1) (rV 3 dz0 dz2)).length yc5] 25)
  replace hY5 := hY5.al (.cells #[.bool false, .slice xa5 sz0.length xc5, .slice ya5 (rV 1 (rV 3 dz0 dz1) (rV 3 dz0 dz2)).length yc5] 25)
  replace p0_0 := p0.c0
  replace p0_1 := p0.c1
  replace p0_2 := p0.c2
  replace p1_0 := p1.c0
  replace p1_1 := p1.c1
  replace p1_2 := p1.c2
  replace p2_0 := p2.c0
  replace p2_1 := p2.c1
  replace p2_2 := p2.c2
  replace b1_0 := b1.c0
  replace b1_1 := b1.c1
  replace b1_2 := b1.c2
  replace b3_0 := b3.c0
  replace b3_1 := b3.c1
  replace b3_2 := b3.c2
  replace b4_0 := b4.c0
  replace b4_1 := b4.c1
  replace b4_2 := b4.c2
  have b5 := Abx.new v11 (.bool false) (.slice xa5 sz0.length xc5) (.slice ya5 (rV 1 (rV 3 dz0 dz1) (rV 3 dz0 dz2)).length yc5)
  have b5_0 := b5.c0
  have b5_1 := b5.c1
  have b5_2 := b5.c2
  go_wp2_with fail
  have hes := matches_any false false xa2 xc2 sz0 ya2 yc2 (rV 3 dz0 (rV 1 dz1 dz2)) 0 xa5 xc5 sz0 ya5 yc5 (rV 1 (rV 3 dz0 dz1) (rV 3 dz0 dz2)) 0 (Nat.le_trans (flawE_short F0.out).1 (by decide)) (Nat.le_trans (flawE_short (rV_flaw F0.out)).2 (by decide)) (Nat.le_trans (flawE_short F0.out).1 (by decide)) (Nat.le_trans (flawE_short (rV_flaw (rV_flaw F0.out))).2 (by decide)) (v11.alloc (.cells #[.bool false, .slice xa5 sz0.length xc5, .slice ya5 (rV 1 (rV 3 dz0 dz1) (rV 3 dz0 dz2)).length yc5] 25)) hX2.ints hY2.ints hX5.ints hY5.ints
  rw [errV_zero] at hes
  refine (hes).mono ?_
  rintro e v12 ⟨rfl, hB⟩
  replace hb : Hid (Below w.heap.size w v12) := hb.out.trans (hB.mono hb.out.size)
  replace p0 := p0.go hB
  replace p1 := p1.go hB
  replace p2 := p2.go hB
  replace b1 := b1.go hB
  replace hX2 := hX2.go hB
  replace hY2 := hY2.go hB
  replace hX3 := hX3.go hB
  replace hY3 := hY3.go hB
  replace b3 := b3.go hB
  replace hX4 := hX4.go hB
  replace hY4 := hY4.go hB
  replace b4 := b4.go hB
  replace hX5 := hX5.go hB
  replace hY5 := hY5.go hB
  replace b5 := b5.go hB
  replace p0_0 := p0.c0
  replace p0_1 := p0.c1
  replace p0_2 := p0.c2
  replace p1_0 := p1.c0
  replace p1_1 := p1.c1
  replace p1_2 := p1.c2
  replace p2_0 := p2.c0
  replace p2_1 := p2.c1
  replace p2_2 := p2.c2
  replace b1_0 := b1.c0
  replace b1_1 := b1.c1
  replace b1_2 := b1.c2
  replace b3_0 := b3.c0
  replace b3_1 := b3.c1
  replace b3_2 := b3.c2
  replace b4_0 := b4.c0
  replace b4_1 := b4.c1
  replace b4_2 := b4.c2
  replace b5_0 := b5.c0
  replace b5_1 := b5.c1
  replace b5_2 := b5.c2
  clear hB
  clear hes
  rw [ring_al (rV_flaw F0.out) (ring_dist F0.out F1.out F2.out)]
  go_wp2_with fail
  clear hX2
  clear hY2
  clear hX5
  clear hY5
  clear hX4
  clear hY4
  clear b1_0 b1_1 b1_2
  clear b1
  clear b4_0 b4_1 b4_2
  clear b4
  clear b5_0 b5_1 b5_2
  clear b5
  refine (rg_two H2 3 (by omega) sa1 sc1 sz0 da1 dc1 dz1 sa0 sc0 da0 dc0 dz0 _ ((HI.out.2.1.1.below hb.out).mono hb.out.size) ((HI.out.2.1.2.1.below hb.out).mono hb.out.size) ((HI.out.1.1.below hb.out).mono hb.out.size) ((HI.out.1.2.1.below hb.out).mono hb.out.size) HI.out.2.1.2.2 HI.out.1.2.2 F1.out F0.out).mono ?_
  rintro e v13 ⟨xa6, xc6, ya6, yc6, rfl, hX6, hY6, hB⟩
  replace hb : Hid (Below w.heap.size w v13) := hb.out.trans (hB.mono hb.out.size)
  replace p0 := p0.go hB
  replace p1 := p1.go hB
  replace p2 := p2.go hB
  replace hX3 := hX3.go hB
  replace hY3 := hY3.go hB
  replace b3 := b3.go hB
  replace p0_0 := p0.c0
  replace p0_1 := p0.c1
  replace p0_2 := p0.c2
  replace p1_0 := p1.c0
  replace p1_1 := p1.c1
  replace p1_2 := p1.c2
  replace p2_0 := p2.c0
  replace p2_1 := p2.c1
  replace p2_2 := p2.c2
  replace b3_0 := b3.c0
  replace b3_1 := b3.c1
  replace b3_2 := b3.c2
  clear hB
  replace hb : Hid (Below w.heap.size w (v13.alloc (.cells #[.bool false, .slice xa6 sz0.length xc6, .slice ya6 (rV 3 dz1 dz0).length yc6] 25))) := hb.out.alloc hb.out.size _
  replace p0 := p0.al (.cells #[.bool false, .slice xa6 sz0.length xc6, .slice ya6 (rV 3 dz1 dz0).length yc6] 25)
  replace p1 := p1.al (.cells #[.bool false, .slice xa6 sz0.length xc6, .slice ya6 (rV 3 dz1 dz0).length yc6] 25)
  replace p2 := p2.al (.cells #[.bool false, .slice xa6 sz0.length xc6, .slice ya6 (rV 3 dz1 dz0).length yc6] 25)
  replace hX3 := hX3.al (.cells #[.bool false, .slice xa6 sz0.length xc6, .slice ya6 (rV 3 dz1 dz0).length yc6] 25)
  replace hY3 := hY3.al (.cells #[.bool false, .slice xa6 sz0.length xc6, .slice ya6 (rV 3 dz1 dz0).length yc6] 25)
  replace b3 := b3.al (.cells #[.bool false, .slice xa6 sz0.length xc6, .slice ya6 (rV 3 dz1 dz0).length yc6] 25)
  replace hX6 := hX6.al (.cells #[.bool false, .slice xa6 sz0.length xc6, .slice ya6 (rV 3 dz1 dz0).length yc6] 25)
  replace hY6 := hY6.al (.cells #[.bool false, .slice xa6 sz0.length xc6, .slice ya6 (rV 3 dz1 dz0).length yc6] 25)
  replace p0_0 := p0.c0
  replace p0_1 := p0.c1
  replace p0_2 := p0.c2
  replace p1_0 := p1.c0
  replace p1_1 := p1.c1
  replace p1_2 := p1.c2
  replace p2_0 := p2.c0
  replace p2_1 := p2.c1
  replace p2_2 := p2.c2
  replace b3_0 := b3.c0
  replace b3_1 := b3.c1
  replace b3_2 := b3.c2
  have b6 := Abx.new v13 (.bool false) (.slice xa6 sz0.length xc6) (.slice ya6 (rV 3 dz1 dz0).length yc6)
  have b6_0 := b6.c0
  have b6_1 := b6.c1
  have b6_2 := b6.c2
  go_wp2_with fail
  refine (rg_two H2 3 (by omega) xa3 xc3 sz0 ya3 yc3 (rV 3 dz0 dz1) sa2 sc2 da2 dc2 dz2 _ hX3.ints hY3.ints ((HI.out.2.2.1.below hb.out).mono hb.out.size) ((HI.out.2.2.2.1.below hb.out).mono hb.out.size) (fun j => rV_in (by omega) _ _ j) HI.out.2.2.2.2 (rV_flaw F0.out) F2.out).mono ?_
  rintro e v14 ⟨xa7, xc7, ya7, yc7, rfl, hX7, hY7, hB⟩
  replace hb : Hid (Below w.heap.size w v14) := hb.out.trans (hB.mono hb.out.size)
  replace p0 := p0.go hB
  replace p1 := p1.go hB
  replace p2 := p2.go hB
  replace hX3 := hX3.go hB
  replace hY3 := hY3.go hB
  replace b3 := b3.go hB
  replace hX6 := hX6.go hB
  replace hY6 := hY6.go hB
  replace b6 := b6.go hB
  replace p0_0 := p0.c0
  replace p0_1 := p0.c1
  replace p0_2 := p0.c2
  replace p1_0 := p1.c0
  replace p1_1 := p1.c1
  replace p1_2 := p1.c2
  replace p2_0 := p2.c0
  replace p2_1 := p2.c1
  replace p2_2 := p2.c2
  replace b3_0 := b3.c0
  replace b3_1 := b3.c1
  replace b3_2 := b3.c2
  replace b6_0 := b6.c0
  replace b6_1 := b6.c1
  replace b6_2 := b6.c2
  clear hB
  replace hb : Hid (Below w.heap.size w (v14.alloc (.cells #[.bool false, .slice xa7 sz0.length xc7, .slice ya7 (rV 3 (rV 3 dz0 dz1) dz2).length yc7] 25))) := hb.out.alloc hb.out.size _
  replace p0 := p0.al (.cells #[.bool false, .slice xa7 sz0.length xc7, .slice ya7 (rV 3 (rV 3 dz0 dz1) dz2).length yc7] 25)
  replace p1 := p1.al (.cells #[.bool false, .slice xa7 sz0.length xc7, .slice ya7 (rV 3 (rV 3 dz0 dz1) dz2).length yc7] 25)
  replace p2 := p2.al (.cells #[.bool false, .slice xa7 sz0.length xc7, .slice ya7 (rV 3 (rV 3 dz0 dz1) dz2).length yc7] 25)
  replace hX3 := hX3.al (.cells #[.bool false, .slice xa7 sz0.length xc7, .slice ya7 (rV 3 (rV 3 dz0 dz1) dz2).length yc7] 25)
  replace hY3 := hY3.al (.cells #[.bool false, .slice xa7 sz0.length xc7, .slice ya7 (rV 3 (rV 3 dz0 dz1) dz2).length yc7] 25)
  replace b3 := b3.al (.cells #[.bool false, .slice xa7 sz0.length xc7, .slice ya7 (rV 3 (rV 3 dz0 dz1) dz2).length yc7] 25)
  replace hX6 := hX6.al (.cells #[.bool false, .slice xa7 sz0.length xc7, .slice ya7 (rV 3 (rV 3 dz0 dz1) dz2).length yc7] 25)
  replace hY6 := hY6.al (.cells #[.bool false, .slice xa7 sz0.length xc7, .slice ya7 (rV 3 (rV 3 dz0 dz1) dz2).length yc7] 25)
  replace b6 := b6.al (.cells #[.bool false, .slice xa7 sz0.length xc7, .slice ya7 (rV 3 (rV 3 dz0 dz1) dz2).length yc7] 25)
  replace hX7 := hX7.al (.cells #[.bool false, .slice xa7 sz0.length xc7, .slice ya7 (rV 3 (rV 3 dz0 dz1) dz2).length yc7] 25)
  replace hY7 := hY7.al (.cells #[.bool false, .slice xa7 sz0.length xc7, .slice ya7 (rV 3 (rV 3 dz0 dz1) dz2).length yc7] 25)
  replace p0_0 := p0.c0
  replace p0_1 := p0.c1
  replace p0_2 := p0.c2
  replace p1_0 := p1.c0
  replace p1_1 := p1.c1
  replace p1_2 := p1.c2
  replace p2_0 := p2.c0
  replace p2_1 := p2.c1
  replace p2_2 := p2.c2
  replace b3_0 := b3.c0
  replace b3_1 := b3.c1
  replace b3_2 := b3.c2
  replace b6_0 := b6.c0
  replace b6_1 := b6.c1
  replace b6_2 := b6.c2
  have b7 := Abx.new v14 (.bool false) (.slice xa7 sz0.length xc7) (.slice ya7 (rV 3 (rV 3 dz0 dz1) dz2).length yc7)
  have b7_0 := b7.c0
  have b7_1 := b7.c1
  have b7_2 := b7.c2
  go_wp2_with fail
  refine (rg_two H2 3 (by omega) sa1 sc1 sz0 da1 dc1 dz1 sa2 sc2 da2 dc2 dz2 _ ((HI.out.2.1.1.below hb.out).mono hb.out.size) ((HI.out.2.1.2.1.below hb.out).mono hb.out.size) ((HI.out.2.2.1.below hb.out).mono hb.out.size) ((HI.out.2.2.2.1.below hb.out).mono hb.out.size) HI.out.2.1.2.2 HI.out.2.2.2.2 F1.out F2.out).mono ?_
  rintro e v15 ⟨xa8, xc8, ya8, yc8, rfl, hX8, hY8, hB⟩
  replace hb : Hid (Below w.heap.size w v15) := hb.out.trans (hB.mono hb.out.size)
  replace p0 := p0.go hB
  replace p1 := p1.go hB
  replace p2 := p2.go hB
  replace hX3 := hX3.go hB
  replace hY3 := hY3.go hB
  replace b3 := b3.go hB
  replace hX6 := hX6.go hB
  replace hY6 := hY6.go hB
  replace b6 := b6.go hB
  replace hX7 := hX7.go hB
  replace hY7 := hY7.go hB
  replace b7 := b7.go hB
  replace p0_0 := p0.c0
  replace p0_1 := p0.c1
  replace p0_2 := p0.c2
  replace p1_0 := p1.c0
  replace p1_1 := p1.c1
  replace p1_2 := p1.c2
  replace p2_0 := p2.c0
  replace p2_1 := p2.c1
  replace p2_2 := p2.c2
  replace b3_0 := b3.c0
  replace b3_1 := b3.c1
  replace b3_2 := b3.c2
  replace b6_0 := b6.c0
  replace b6_1 := b6.c1
  replace b6_2 := b6.c2
  replace b7_0 := b7.c0
  replace b7_1 := b7.c1
  replace b7_2 := b7.c2
  clear hB
  have HL : Hid ((IsInts v15.heap.size v15 xa3 sz0 ∧ IsInts v15.heap.size v15 ya3 (rV 3 dz0 dz1)) ∧ (IsInts v15.heap.size v15 xa6 sz0 ∧ IsInts v15.heap.size v15 ya6 (rV 3 dz1 dz0)) ∧ (IsInts v15.heap.size v15 xa7 sz0 ∧ IsInts v15.heap.size v15 ya7 (rV 3 (rV 3 dz0 dz1) dz2))) := ⟨⟨hX3.ints, hY3.ints⟩, ⟨hX6.ints, hY6.ints⟩, ⟨hX7.ints, hY7.ints⟩⟩
  clear hX3
  clear hY3
  clear hX6
  clear hY6
  clear hX7
  clear hY7
  have l_p0 := p0.lt
  have l_p1 := p1.lt
  have l_p2 := p2.lt
  have l_b3 := b3.lt
  have l_b6 := b6.lt
  have l_b7 := b7.lt
  have l_s := hb.out.size
  replace hb : Hid (Below w.heap.size w (v15.alloc (.cells #[.bool false, .slice xa8 sz0.length xc8, .slice ya8 (rV 3 dz1 dz2).length yc8] 25))) := hb.out.alloc hb.out.size _
  replace p0 := p0.al (.cells #[.bool false, .slice xa8 sz0.length xc8, .slice ya8 (rV 3 dz1 dz2).length yc8] 25)
  replace p1 := p1.al (.cells #[.bool false, .slice xa8 sz0.length xc8, .slice ya8 (rV 3 dz1 dz2).length yc8] 25)
  replace p2 := p2.al (.cells #[.bool false, .slice xa8 sz0.length xc8, .slice ya8 (rV 3 dz1 dz2).length yc8] 25)
  replace b3 := b3.al (.cells #[.bool false, .slice xa8 sz0.length xc8, .slice ya8 (rV 3 dz1 dz2).length yc8] 25)
  replace b6 := b6.al (.cells #[.bool false, .slice xa8 sz0.length xc8, .slice ya8 (rV 3 dz1 dz2).length yc8] 25)
  replace b7 := b7.al (.cells #[.bool false, .slice xa8 sz0.length xc8, .slice ya8 (rV 3 dz1 dz2).length yc8] 25)
  replace hX8 := hX8.al (.cells #[.bool false, .slice xa8 sz0.length xc8, .slice ya8 (rV 3 dz1 dz2).length yc8] 25)
  replace hY8 := hY8.al (.cells #[.bool false, .slice xa8 sz0.length xc8, .slice ya8 (rV 3 dz1 dz2).length yc8] 25)
  replace p0_0 := p0.c0
  replace p0_1 := p0.c1
  replace p0_2 := p0.c2
  replace p1_0 := p1.c0
  replace p1_1 := p1.c1
  replace p1_2 := p1.c2
  replace p2_0 := p2.c0
  replace p2_1 := p2.c1
  replace p2_2 := p2.c2
  replace b3_0 := b3.c0
  replace b3_1 := b3.c1
  replace b3_2 := b3.c2
  replace b6_0 := b6.c0
  replace b6_1 := b6.c1
  replace b6_2 := b6.c2
  replace b7_0 := b7.c0
  replace b7_1 := b7.c1
  replace b7_2 := b7.c2
  have b8 := Abx.new v15 (.bool false) (.slice xa8 sz0.length xc8) (.slice ya8 (rV 3 dz1 dz2).length yc8)
  have b8_0 := b8.c0
  have b8_1 := b8.c1
  have b8_2 := b8.c2
  go_wp2_with fail
  have hb2 : Hid (Below v15.heap.size v15 (v15.alloc (.cells #[.bool false, .slice xa8 sz0.length xc8, .slice ya8 (rV 3 dz1 dz2).length yc8] 25))) := (Below.refl _ v15).alloc (Nat.le_refl _) _
  refine (rg_two H2 3 (by omega) sa0 sc0 sz0 da0 dc0 dz0 xa8 xc8 ya8 yc8 (rV 3 dz1 dz2) _ ((HI.out.1.1.below hb.out).mono hb.out.size) ((HI.out.1.2.1.below hb.out).mono hb.out.size) hX8.ints hY8.ints HI.out.1.2.2 (fun j => rV_in (by omega) _ _ j) F0.out (rV_flaw F1.out)).mono ?_
  rintro e v16 ⟨xa9, xc9, ya9, yc9, rfl, hX9, hY9, hB⟩
  replace hb : Hid (Below w.heap.size w v16) := hb.out.trans (hB.mono hb.out.size)
  replace p0 := p0.go hB
  replace p1 := p1.go hB
  replace p2 := p2.go hB
  replace b3 := b3.go hB
  replace b6 := b6.go hB
  replace b7 := b7.go hB
  replace hX8 := hX8.go hB
  replace hY8 := hY8.go hB
  replace b8 := b8.go hB
  replace p0_0 := p0.c0
  replace p0_1 := p0.c1
  replace p0_2 := p0.c2
  replace p1_0 := p1.c0
  replace p1_1 := p1.c1
  replace p1_2 := p1.c2
  replace p2_0 := p2.c0
  replace p2_1 := p2.c1
  replace p2_2 := p2.c2
  replace b3_0 := b3.c0
  replace b3_1 := b3.c1
  replace b3_2 := b3.c2
  replace b6_0 := b6.c0
  replace b6_1 := b6.c1
  replace b6_2 := b6.c2
  replace b7_0 := b7.c0
  replace b7_1 := b7.c1
  replace b7_2 := b7.c2
  replace b8_0 := b8.c0
  replace b8_1 := b8.c1
  replace b8_2 := b8.c2
  replace hb2 : Hid (Below v15.heap.size v15 v16) := hb2.out.trans (hB.mono hb2.out.size)
  clear hB
  clear hX8
  clear hY8
  have N_hb2 := bel_set3 hb2.out (Nat.le_refl _) (.bool false) (.slice xa9 sz0.length xc9) (.slice ya9 (rV 3 dz0 (rV 3 dz1 dz2)).length yc9)
  have hb3 : Hid (Below v15.heap.size v15 (((v16.setCell ⟨v15.heap.size, 0, none⟩ (.bool false)).setCell ⟨v15.heap.size, 1, none⟩ (.slice xa9 sz0.length xc9)).setCell ⟨v15.heap.size, 2, none⟩ (.slice ya9 (rV 3 dz0 (rV 3 dz1 dz2)).length yc9))) := N_hb2
  clear N_hb2 hb2
  have fz_0 := b8.fr 0
  have fz_1 := b8.fr 1
  have fz_2 := b8.fr 2
  have N_p0 := p0.ot3 l_p0 (.bool false) (.slice xa9 sz0.length xc9) (.slice ya9 (rV 3 dz0 (rV 3 dz1 dz2)).length yc9)
  have N_p1 := p1.ot3 l_p1 (.bool false) (.slice xa9 sz0.length xc9) (.slice ya9 (rV 3 dz0 (rV 3 dz1 dz2)).length yc9)
  have N_p2 := p2.ot3 l_p2 (.bool false) (.slice xa9 sz0.length xc9) (.slice ya9 (rV 3 dz0 (rV 3 dz1 dz2)).length yc9)
  have N_b3 := b3.ot3 l_b3 (.bool false) (.slice xa9 sz0.length xc9) (.slice ya9 (rV 3 dz0 (rV 3 dz1 dz2)).length yc9)
  have N_b6 := b6.ot3 l_b6 (.bool false) (.slice xa9 sz0.length xc9) (.slice ya9 (rV 3 dz0 (rV 3 dz1 dz2)).length yc9)
  have N_b7 := b7.ot3 l_b7 (.bool false) (.slice xa9 sz0.length xc9) (.slice ya9 (rV 3 dz0 (rV 3 dz1 dz2)).length yc9)
  have N_b8 := b8.set3 (.bool false) (.slice xa9 sz0.length xc9) (.slice ya9 (rV 3 dz0 (rV 3 dz1 dz2)).length yc9)
  have N_hX9 := hX9.set3 (b := v15.heap.size) (by simp) (.bool false) (.slice xa9 sz0.length xc9) (.slice ya9 (rV 3 dz0 (rV 3 dz1 dz2)).length yc9)
  have N_hY9 := hY9.set3 (b := v15.heap.size) (by simp) (.bool false) (.slice xa9 sz0.length xc9) (.slice ya9 (rV 3 dz0 (rV 3 dz1 dz2)).length yc9)
  have N_hb : Hid (Below w.heap.size w (((v16.setCell ⟨v15.heap.size, 0, none⟩ (.bool false)).setCell ⟨v15.heap.size, 1, none⟩ (.slice xa9 sz0.length xc9)).setCell ⟨v15.heap.size, 2, none⟩ (.slice ya9 (rV 3 dz0 (rV 3 dz1 dz2)).length yc9))) := bel_set3 hb.out l_s (.bool false) (.slice xa9 sz0.length xc9) (.slice ya9 (rV 3 dz0 (rV 3 dz1 dz2)).length yc9)
  have N_p0_0 := N_p0.c0
  have N_p0_1 := N_p0.c1
  have N_p0_2 := N_p0.c2
  have N_p1_0 := N_p1.c0
  have N_p1_1 := N_p1.c1
  have N_p1_2 := N_p1.c2
  have N_p2_0 := N_p2.c0
  have N_p2_1 := N_p2.c1
  have N_p2_2 := N_p2.c2
  have N_b3_0 := N_b3.c0
  have N_b3_1 := N_b3.c1
  have N_b3_2 := N_b3.c2
  have N_b6_0 := N_b6.c0
  have N_b6_1 := N_b6.c1
  have N_b6_2 := N_b6.c2
  have N_b7_0 := N_b7.c0
  have N_b7_1 := N_b7.c1
  have N_b7_2 := N_b7.c2
  have N_b8_0 := N_b8.c0
  have N_b8_1 := N_b8.c1
  have N_b8_2 := N_b8.c2
  go_wp2_with fail
  clear fz_0 fz_1 fz_2 hb l_s l_p0 l_p1 l_p2 l_b3 l_b6 l_b7 p0 p1 p2 b3 b6 b7 b8 hX9 hY9 p0_0 p0_1 p0_2 p1_0 p1_1 p1_2 p2_0 p2_1 p2_2 b3_0 b3_1 b3_2 b6_0 b6_1 b6_2 b7_0 b7_1 b7_2 b8_0 b8_1 b8_2
  have hb := N_hb
  have p0 := N_p0
  have p1 := N_p1
  have p2 := N_p2
  have b3 := N_b3
  have b6 := N_b6
  have b7 := N_b7
  have b8 := N_b8
  have hX9 := N_hX9
  have hY9 := N_hY9
  have p0_0 := N_p0_0
  have p0_1 := N_p0_1
  have p0_2 := N_p0_2
  have p1_0 := N_p1_0
  have p1_1 := N_p1_1
  have p1_2 := N_p1_2
  have p2_0 := N_p2_0
  have p2_1 := N_p2_1
  have p2_2 := N_p2_2
  have b3_0 := N_b3_0
  have b3_1 := N_b3_1
  have b3_2 := N_b3_2
  have b6_0 := N_b6_0
  have b6_1 := N_b6_1
  have b6_2 := N_b6_2
  have b7_0 := N_b7_0
  have b7_1 := N_b7_1
  have b7_2 := N_b7_2
  have b8_0 := N_b8_0
  have b8_1 := N_b8_1
  have b8_2 := N_b8_2
  clear N_hb N_p0 N_p1 N_p2 N_b3 N_b6 N_b7 N_b8 N_hX9 N_hY9 N_p0_0 N_p0_1 N_p0_2 N_p1_0 N_p1_1 N_p1_2 N_p2_0 N_p2_1 N_p2_2 N_b3_0 N_b3_1 N_b3_2 N_b6_0 N_b6_1 N_b6_2 N_b7_0 N_b7_1 N_b7_2 N_b8_0 N_b8_1 N_b8_2
  have hes := matches_any false false xa6 xc6 sz0 ya6 yc6 (rV 3 dz1 dz0) 0 xa3 xc3 sz0 ya3 yc3 (rV 3 dz0 dz1) 0 (Nat.le_trans (flawE_short F0.out).1 (by decide)) (Nat.le_trans (flawE_short (rV_flaw F1.out)).2 (by decide)) (Nat.le_trans (flawE_short F0.out).1 (by decide)) (Nat.le_trans (flawE_short (rV_flaw F0.out)).2 (by decide)) (((v16.setCell ⟨v15.heap.size, 0, none⟩ (.bool false)).setCell ⟨v15.heap.size, 1, none⟩ (.slice xa9 sz0.length xc9)).setCell ⟨v15.heap.size, 2, none⟩ (.slice ya9 (rV 3 dz0 (rV 3 dz1 dz2)).length yc9)) ((HL.out.2.1.1.below hb3.out).mono hb3.out.size) ((HL.out.2.1.2.below hb3.out).mono hb3.out.size) ((HL.out.1.1.below hb3.out).mono hb3.out.size) ((HL.out.1.2.below hb3.out).mono hb3.out.size)
  rw [errV_zero] at hes
  refine (hes).mono ?_
  rintro e v17 ⟨rfl, hB⟩
  replace hb : Hid (Below w.heap.size w v17) := hb.out.trans (hB.mono hb.out.size)
  replace p0 := p0.go hB
  replace p1 := p1.go hB
  replace p2 := p2.go hB
  replace b3 := b3.go hB
  replace b6 := b6.go hB
  replace b7 := b7.go hB
  replace b8 := b8.go hB
  replace hX9 := hX9.go hB
  replace hY9 := hY9.go hB
  replace p0_0 := p0.c0
  replace p0_1 := p0.c1
  replace p0_2 := p0.c2
  replace p1_0 := p1.c0
  replace p1_1 := p1.c1
  replace p1_2 := p1.c2
  replace p2_0 := p2.c0
  replace p2_1 := p2.c1
  replace p2_2 := p2.c2
  replace b3_0 := b3.c0
  replace b3_1 := b3.c1
  replace b3_2 := b3.c2
  replace b6_0 := b6.c0
  replace b6_1 := b6.c1
  replace b6_2 := b6.c2
  replace b7_0 := b7.c0
  replace b7_1 := b7.c1
  replace b7_2 := b7.c2
  replace b8_0 := b8.c0
  replace b8_1 := b8.c1
  replace b8_2 := b8.c2
  replace hb3 : Hid (Below v15.heap.size v15 v17) := hb3.out.trans (hB.mono hb3.out.size)
  clear hB
  clear hes
  rw [ring_al (rV_flaw F1.out) (ring_comm F1.out F0.out)]
  go_wp2_with fail
  have hes := matches_any false false xa7 xc7 sz0 ya7 yc7 (rV 3 (rV 3 dz0 dz1) dz2) 0 xa9 xc9 sz0 ya9 yc9 (rV 3 dz0 (rV 3 dz1 dz2)) 0 (Nat.le_trans (flawE_short F0.out).1 (by decide)) (Nat.le_trans (flawE_short (rV_flaw (rV_flaw F0.out))).2 (by decide)) (Nat.le_trans (flawE_short F0.out).1 (by decide)) (Nat.le_trans (flawE_short (rV_flaw F0.out)).2 (by decide)) v17 ((HL.out.2.2.1.below hb3.out).mono hb3.out.size) ((HL.out.2.2.2.below hb3.out).mono hb3.out.size) hX9.ints hY9.ints
  rw [errV_zero] at hes
  refine (hes).mono ?_
  rintro e v18 ⟨rfl, hB⟩
  replace hb : Hid (Below w.heap.size w v18) := hb.out.trans (hB.mono hb.out.size)
  replace p0 := p0.go hB
  replace p1 := p1.go hB
  replace p2 := p2.go hB
  replace b3 := b3.go hB
  replace b6 := b6.go hB
  replace b7 := b7.go hB
  replace b8 := b8.go hB
  replace hX9 := hX9.go hB
  replace hY9 := hY9.go hB
  replace p0_0 := p0.c0
  replace p0_1 := p0.c1
  replace p0_2 := p0.c2
  replace p1_0 := p1.c0
  replace p1_1 := p1.c1
  replace p1_2 := p1.c2
  replace p2_0 := p2.c0
  replace p2_1 := p2.c1
  replace p2_2 := p2.c2
  replace b3_0 := b3.c0
  replace b3_1 := b3.c1
  replace b3_2 := b3.c2
  replace b6_0 := b6.c0
  replace b6_1 := b6.c1
  replace b6_2 := b6.c2
  replace b7_0 := b7.c0
  replace b7_1 := b7.c1
  replace b7_2 := b7.c2
  replace b8_0 := b8.c0
  replace b8_1 := b8.c1
  replace b8_2 := b8.c2
  replace hb3 : Hid (Below v15.heap.size v15 v18) := hb3.out.trans (hB.mono hb3.out.size)
  clear hB
  clear hes
  rw [ring_al (rV_flaw (rV_flaw F0.out)) (ring_assoc F0.out F1.out F2.out)]
  go_wp2_with fail
  go_ret
  exact ⟨rfl, hb.out⟩
theorem ering_walk (H2 : C2) (c0 : Bool) (sa0 : Option Addr) (sc0 : Nat) (sz0 : List Int) (da0 : Option Addr) (dc0 : Nat) (dz0 : List Int) (c1 : Bool) (sa1 : Option Addr) (sc1 : Nat) (sz1 : List Int) (da1 : Option Addr) (dc1 : Nat) (dz1 : List Int) (c2 : Bool) (sa2 : Option Addr) (sc2 : Nat) (sz2 : List Int) (da2 : Option Addr) (dc2 : Nat) (dz2 : List Int) (w : World) (w0 : IsArr w sa0 sz0 da0 dz0) (w1 : IsArr w sa1 sz1 da1 dz1) (w2 : IsArr w sa2 sz2 da2 dz2) :
    Calls Try.prog 5 #[.agg #[.bool c0, .slice sa0 sz0.length sc0, .slice da0 dz0.length dc0], .agg #[.bool c1, .slice sa1 sz1.length sc1, .slice da1 dz1.length dc1], .agg #[.bool c2, .slice sa2 sz2.length sc2, .slice da2 dz2.length dc2]] w fun e w' => e = .returned (.bool true) ∧ Below w.heap.size w w' := by
  by_cases f0 : flawE c0 sz0 dz0 = 0
  · by_cases f1 : flawE c1 sz1 dz1 = 0
    · by_cases f2 : flawE c2 sz2 dz2 = 0
      · cases c0 with
        | true => exact ering_char0 H2 sa0 sc0 sz0 da0 dc0 dz0 c1 sa1 sc1 sz1 da1 dc1 dz1 c2 sa2 sc2 sz2 da2 dc2 dz2 w w0 w1 w2 f0 f1 f2
        | false =>
          cases c1 with
          | true => exact ering_char1 H2 sa0 sc0 sz0 da0 dc0 dz0 sa1 sc1 sz1 da1 dc1 dz1 c2 sa2 sc2 sz2 da2 dc2 dz2 w w0 w1 w2 f0 f1 f2
          | false =>
            cases c2 with
            | true => exact ering_char2 H2 sa0 sc0 sz0 da0 dc0 dz0 sa1 sc1 sz1 da1 dc1 dz1 sa2 sc2 sz2 da2 dc2 dz2 w w0 w1 w2 f0 f1 f2
            | false =>
              by_cases s : sz0 = sz1
              · subst s
                by_cases s : sz0 = sz2
                · subst s
                  exact ering_ok H2 sa0 sc0 sz0 da0 dc0 dz0 sa1 sc1 da1 dc1 dz1 sa2 sc2 da2 dc2 dz2 w w0 w1 w2 f0 f1 f2
                · exact ering_shape1 H2 sa0 sc0 sz0 da0 dc0 dz0 sa1 sc1 da1 dc1 dz1 sa2 sc2 sz2 da2 dc2 dz2 w w0 w1 w2 f0 f1 f2 s
              · exact ering_shape0 H2 sa0 sc0 sz0 da0 dc0 dz0 sa1 sc1 sz1 da1 dc1 dz1 sa2 sc2 sz2 da2 dc2 dz2 w w0 w1 w2 f0 f1 f2 s
      · exact ering_no2 H2 c0 sa0 sc0 sz0 da0 dc0 dz0 c1 sa1 sc1 sz1 da1 dc1 dz1 c2 sa2 sc2 sz2 da2 dc2 dz2 w w0 w1 w2 f0 f1 f2
    · exact ering_no1 H2 c0 sa0 sc0 sz0 da0 dc0 dz0 c1 sa1 sc1 sz1 da1 dc1 dz1 c2 sa2 sc2 sz2 da2 dc2 dz2 w w0 w1 w2 f0 f1
  · exact ering_no0 H2 c0 sa0 sc0 sz0 da0 dc0 dz0 c1 sa1 sc1 sz1 da1 dc1 dz1 c2 sa2 sc2 sz2 da2 dc2 dz2 w w0 w1 w2 f0
end Go.Proofs.Ytmbgomljofngnaa
