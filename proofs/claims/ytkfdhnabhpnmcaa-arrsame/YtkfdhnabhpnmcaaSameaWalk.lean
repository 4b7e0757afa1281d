/-
  The walk of the statement that the same is the same.
-/
import Derived.Test.YtkfdhnabhpnmcaaMatch
import Derived.Test.YtkfdhnabhpnmcaaNewi
namespace Go.Proofs.Ytkfdhnabhpnmcaa
open Go.RowKit
set_option linter.unusedVariables false

theorem new_lit (w : World) (t : TypeId) (xs : List Int) (h : xs ≠ []) : NewInts w.heap.size (w.alloc (.cells (xs.map (Value.int .i64)).toArray t)) (some ⟨w.heap.size, 0, none⟩) xs := by
  refine .inr ⟨w.heap.size, 0, rfl, Nat.le_refl _, by simp, fun j hj => ?_⟩
  have hb : (w.alloc (.cells (xs.map (Value.int .i64)).toArray t)).heap[w.heap.size]? = some (.cells (xs.map (Value.int .i64)).toArray t (0, 0)) := World.alloc_heap_new w _
  simp only [World.cell?, hb, Nat.zero_add]
  rw [nth_get xs j hj]
  simp [hj]
set_option maxRecDepth 100000 in
set_option maxHeartbeats 4000000 in
theorem same_no0 (c0 : Bool) (sa0 : Option Addr) (sc0 : Nat) (sz0 : List Int) (da0 : Option Addr) (dc0 : Nat) (dz0 : List Int) (c1 : Bool) (sa1 : Option Addr) (sc1 : Nat) (sz1 : List Int) (da1 : Option Addr) (dc1 : Nat) (dz1 : List Int) (c2 : Bool) (sa2 : Option Addr) (sc2 : Nat) (sz2 : List Int) (da2 : Option Addr) (dc2 : Nat) (dz2 : List Int) (w : World) (w0 : IsArr w sa0 sz0 da0 dz0) (w1 : IsArr w sa1 sz1 da1 dz1) (w2 : IsArr w sa2 sz2 da2 dz2) (F0 : Hid (flawE c0 sz0 dz0 ≠ 0)) :
    Calls Try.prog 3 #[.agg #[.bool c0, .slice sa0 sz0.length sc0, .slice da0 dz0.length dc0], .agg #[.bool c1, .slice sa1 sz1.length sc1, .slice da1 dz1.length dc1], .agg #[.bool c2, .slice sa2 sz2.length sc2, .slice da2 dz2.length dc2]] w fun e w' => e = .returned (.bool true) ∧ Below w.heap.size w w' := by
  obtain ⟨x1, x2, x3, x4, _, _⟩ := w0
  obtain ⟨y1, y2, y3, y4, _, _⟩ := w1
  obtain ⟨z1, z2, z3, z4, _, _⟩ := w2
  have HI : Hid ((IsInts w.heap.size w sa0 sz0 ∧ IsInts w.heap.size w da0 dz0) ∧ (IsInts w.heap.size w sa1 sz1 ∧ IsInts w.heap.size w da1 dz1) ∧ (IsInts w.heap.size w sa2 sz2 ∧ IsInts w.heap.size w da2 dz2)) := ⟨⟨x3, x4⟩, ⟨y3, y4⟩, z3, z4⟩
  clear x3 x4 y3 y4 z3 z4
  have p0 : Abx (((w.alloc (.cells #[.bool c0, .slice sa0 sz0.length sc0, .slice da0 dz0.length dc0] 24)).alloc (.cells #[.bool c1, .slice sa1 sz1.length sc1, .slice da1 dz1.length dc1] 24)).alloc (.cells #[.bool c2, .slice sa2 sz2.length sc2, .slice da2 dz2.length dc2] 24)) w.heap.size (.bool c0) (.slice sa0 sz0.length sc0) (.slice da0 dz0.length dc0) := ((Abx.new w _ _ _).al _).al _
  have p1 : Abx (((w.alloc (.cells #[.bool c0, .slice sa0 sz0.length sc0, .slice da0 dz0.length dc0] 24)).alloc (.cells #[.bool c1, .slice sa1 sz1.length sc1, .slice da1 dz1.length dc1] 24)).alloc (.cells #[.bool c2, .slice sa2 sz2.length sc2, .slice da2 dz2.length dc2] 24)) (w.heap.size + 1) (.bool c1) (.slice sa1 sz1.length sc1) (.slice da1 dz1.length dc1) := (Abx.new1 w _ _ _ _).al _
  have p2 : Abx (((w.alloc (.cells #[.bool c0, .slice sa0 sz0.length sc0, .slice da0 dz0.length dc0] 24)).alloc (.cells #[.bool c1, .slice sa1 sz1.length sc1, .slice da1 dz1.length dc1] 24)).alloc (.cells #[.bool c2, .slice sa2 sz2.length sc2, .slice da2 dz2.length dc2] 24)) (w.heap.size + 1 + 1) (.bool c2) (.slice sa2 sz2.length sc2) (.slice da2 dz2.length dc2) := by
    have := Abx.new1 (w.alloc (.cells #[.bool c0, .slice sa0 sz0.length sc0, .slice da0 dz0.length dc0] 24)) (.cells #[.bool c1, .slice sa1 sz1.length sc1, .slice da1 dz1.length dc1] 24) (.bool c2) (.slice sa2 sz2.length sc2) (.slice da2 dz2.length dc2)
    rwa [World.size_alloc] at this
  have hs : (((w.alloc (.cells #[.bool c0, .slice sa0 sz0.length sc0, .slice da0 dz0.length dc0] 24)).alloc (.cells #[.bool c1, .slice sa1 sz1.length sc1, .slice da1 dz1.length dc1] 24)).alloc (.cells #[.bool c2, .slice sa2 sz2.length sc2, .slice da2 dz2.length dc2] 24)).heap.size = w.heap.size + 1 + 1 + 1 := by simp
  have hb : Hid (Below w.heap.size w (((w.alloc (.cells #[.bool c0, .slice sa0 sz0.length sc0, .slice da0 dz0.length dc0] 24)).alloc (.cells #[.bool c1, .slice sa1 sz1.length sc1, .slice da1 dz1.length dc1] 24)).alloc (.cells #[.bool c2, .slice sa2 sz2.length sc2, .slice da2 dz2.length dc2] 24))) := (((Below.refl _ w).alloc (Nat.le_refl _) _).alloc (by simp) _).alloc (by simp; omega) _
  obtain ⟨u, hu⟩ : ∃ u, u = (((w.alloc (.cells #[.bool c0, .slice sa0 sz0.length sc0, .slice da0 dz0.length dc0] 24)).alloc (.cells #[.bool c1, .slice sa1 sz1.length sc1, .slice da1 dz1.length dc1] 24)).alloc (.cells #[.bool c2, .slice sa2 sz2.length sc2, .slice da2 dz2.length dc2] 24)) := ⟨_, rfl⟩
  rw [← hu] at p0 p1 p2 hs hb
  have n1 : NewInts u.heap.size ((((u.alloc (.cells #[.int .i64 2] 3)).alloc (.cells #[.int .i64 1, .int .i64 2] 3)).alloc (.cells #[.int .i64 2] 3)).alloc (.cells #[.int .i64 1, .int .i64 2] 3)) (some ⟨u.heap.size, 0, none⟩) [2] := (((new_lit u 3 [2] (by simp)).al _).al _).al _
  have n2 : NewInts (u.alloc (.cells #[.int .i64 2] 3)).heap.size ((((u.alloc (.cells #[.int .i64 2] 3)).alloc (.cells #[.int .i64 1, .int .i64 2] 3)).alloc (.cells #[.int .i64 2] 3)).alloc (.cells #[.int .i64 1, .int .i64 2] 3)) (some ⟨(u.alloc (.cells #[.int .i64 2] 3)).heap.size, 0, none⟩) [1, 2] := ((new_lit (u.alloc (.cells #[.int .i64 2] 3)) 3 [1, 2] (by simp)).al _).al _
  have n3 : NewInts ((u.alloc (.cells #[.int .i64 2] 3)).alloc (.cells #[.int .i64 1, .int .i64 2] 3)).heap.size ((((u.alloc (.cells #[.int .i64 2] 3)).alloc (.cells #[.int .i64 1, .int .i64 2] 3)).alloc (.cells #[.int .i64 2] 3)).alloc (.cells #[.int .i64 1, .int .i64 2] 3)) (some ⟨((u.alloc (.cells #[.int .i64 2] 3)).alloc (.cells #[.int .i64 1, .int .i64 2] 3)).heap.size, 0, none⟩) [2] := (new_lit ((u.alloc (.cells #[.int .i64 2] 3)).alloc (.cells #[.int .i64 1, .int .i64 2] 3)) 3 [2] (by simp)).al _
  have n4 : NewInts (((u.alloc (.cells #[.int .i64 2] 3)).alloc (.cells #[.int .i64 1, .int .i64 2] 3)).alloc (.cells #[.int .i64 2] 3)).heap.size ((((u.alloc (.cells #[.int .i64 2] 3)).alloc (.cells #[.int .i64 1, .int .i64 2] 3)).alloc (.cells #[.int .i64 2] 3)).alloc (.cells #[.int .i64 1, .int .i64 2] 3)) (some ⟨(((u.alloc (.cells #[.int .i64 2] 3)).alloc (.cells #[.int .i64 1, .int .i64 2] 3)).alloc (.cells #[.int .i64 2] 3)).heap.size, 0, none⟩) [1, 2] := new_lit (((u.alloc (.cells #[.int .i64 2] 3)).alloc (.cells #[.int .i64 1, .int .i64 2] 3)).alloc (.cells #[.int .i64 2] 3)) 3 [1, 2] (by simp)
  simp only [World.size_alloc, hs] at n1 n2 n3 n4
  have HN : Hid (IsInts ((((u.alloc (.cells #[.int .i64 2] 3)).alloc (.cells #[.int .i64 1, .int .i64 2] 3)).alloc (.cells #[.int .i64 2] 3)).alloc (.cells #[.int .i64 1, .int .i64 2] 3)).heap.size ((((u.alloc (.cells #[.int .i64 2] 3)).alloc (.cells #[.int .i64 1, .int .i64 2] 3)).alloc (.cells #[.int .i64 2] 3)).alloc (.cells #[.int .i64 1, .int .i64 2] 3)) (some ⟨w.heap.size + 1 + 1 + 1, 0, none⟩) [2] ∧ IsInts ((((u.alloc (.cells #[.int .i64 2] 3)).alloc (.cells #[.int .i64 1, .int .i64 2] 3)).alloc (.cells #[.int .i64 2] 3)).alloc (.cells #[.int .i64 1, .int .i64 2] 3)).heap.size ((((u.alloc (.cells #[.int .i64 2] 3)).alloc (.cells #[.int .i64 1, .int .i64 2] 3)).alloc (.cells #[.int .i64 2] 3)).alloc (.cells #[.int .i64 1, .int .i64 2] 3)) (some ⟨w.heap.size + 1 + 1 + 1 + 1, 0, none⟩) [1, 2] ∧ IsInts ((((u.alloc (.cells #[.int .i64 2] 3)).alloc (.cells #[.int .i64 1, .int .i64 2] 3)).alloc (.cells #[.int .i64 2] 3)).alloc (.cells #[.int .i64 1, .int .i64 2] 3)).heap.size ((((u.alloc (.cells #[.int .i64 2] 3)).alloc (.cells #[.int .i64 1, .int .i64 2] 3)).alloc (.cells #[.int .i64 2] 3)).alloc (.cells #[.int .i64 1, .int .i64 2] 3)) (some ⟨w.heap.size + 1 + 1 + 1 + 1 + 1, 0, none⟩) [2] ∧ IsInts ((((u.alloc (.cells #[.int .i64 2] 3)).alloc (.cells #[.int .i64 1, .int .i64 2] 3)).alloc (.cells #[.int .i64 2] 3)).alloc (.cells #[.int .i64 1, .int .i64 2] 3)).heap.size ((((u.alloc (.cells #[.int .i64 2] 3)).alloc (.cells #[.int .i64 1, .int .i64 2] 3)).alloc (.cells #[.int .i64 2] 3)).alloc (.cells #[.int .i64 1, .int .i64 2] 3)) (some ⟨w.heap.size + 1 + 1 + 1 + 1 + 1 + 1, 0, none⟩) [1, 2]) := ⟨n1.ints, n2.ints, n3.ints, n4.ints⟩
  replace hb : Hid (Below w.heap.size w ((((u.alloc (.cells #[.int .i64 2] 3)).alloc (.cells #[.int .i64 1, .int .i64 2] 3)).alloc (.cells #[.int .i64 2] 3)).alloc (.cells #[.int .i64 1, .int .i64 2] 3))) := (((hb.out.alloc (by omega) _).alloc (by simp; omega) _).alloc (by simp; omega) _).alloc (by simp; omega) _
  replace p0 := (((p0.al (.cells #[.int .i64 2] 3)).al (.cells #[.int .i64 1, .int .i64 2] 3)).al (.cells #[.int .i64 2] 3)).al (.cells #[.int .i64 1, .int .i64 2] 3)
  replace p1 := (((p1.al (.cells #[.int .i64 2] 3)).al (.cells #[.int .i64 1, .int .i64 2] 3)).al (.cells #[.int .i64 2] 3)).al (.cells #[.int .i64 1, .int .i64 2] 3)
  replace p2 := (((p2.al (.cells #[.int .i64 2] 3)).al (.cells #[.int .i64 1, .int .i64 2] 3)).al (.cells #[.int .i64 2] 3)).al (.cells #[.int .i64 1, .int .i64 2] 3)
  clear n1 n2 n3 n4 hs
  subst hu
  go_enter Try.func3, Try.ntmps3
  go_wp2_with fail
  refine (match_any false false (some ⟨w.heap.size + 1 + 1 + 1, 0, none⟩) 1 [2] (some ⟨w.heap.size + 1 + 1 + 1 + 1, 0, none⟩) 2 [1, 2] (some ⟨w.heap.size + 1 + 1 + 1 + 1 + 1, 0, none⟩) 1 [2] (some ⟨w.heap.size + 1 + 1 + 1 + 1 + 1 + 1, 0, none⟩) 2 [1, 2] (by simp) (by simp) (by simp) (by simp) _ HN.out.1 HN.out.2.1 HN.out.2.2.1 HN.out.2.2.2).mono ?_
  rintro e v1 ⟨rfl, hB⟩
  replace hb : Hid (Below w.heap.size w v1) := hb.out.trans (hB.mono hb.out.size)
  replace p0 := p0.go hB
  replace p1 := p1.go hB
  replace p2 := p2.go hB
  clear hB
  clear HN
  rw [show mtB false [2] [1, 2] false [2] [1, 2] = true by decide, show flawsE false [2] [1, 2] false [2] [1, 2] = 0 by decide, errV_zero]
  have p0_0 := p0.c0
  have p0_1 := p0.c1
  have p0_2 := p0.c2
  have p1_0 := p1.c0
  have p1_1 := p1.c1
  have p1_2 := p1.c2
  have p2_0 := p2.c0
  have p2_1 := p2.c1
  have p2_2 := p2.c2
  go_wp2_with fail
  refine (check_no c0 sa0 sc0 sz0 da0 dc0 dz0 x1 x2 v1 ((HI.out.1.1.below hb.out).mono hb.out.size) ((HI.out.1.2.below hb.out).mono hb.out.size) F0.out).mono ?_
  rintro e v2 ⟨rfl, hB⟩
  replace hb : Hid (Below w.heap.size w v2) := hb.out.trans (hB.mono hb.out.size)
  replace p0 := p0.go hB
  replace p1 := p1.go hB
  replace p2 := p2.go hB
  replace p0_0 := p0.c0
  replace p0_1 := p0.c1
  replace p0_2 := p0.c2
  replace p1_0 := p1.c0
  replace p1_1 := p1.c1
  replace p1_2 := p1.c2
  replace p2_0 := p2.c0
  replace p2_1 := p2.c1
  replace p2_2 := p2.c2
  clear hB
  go_wp2_with fail
  go_ret
  exact ⟨rfl, hb.out⟩
set_option maxRecDepth 100000 in
set_option maxHeartbeats 4000000 in
theorem same_no1 (c0 : Bool) (sa0 : Option Addr) (sc0 : Nat) (sz0 : List Int) (da0 : Option Addr) (dc0 : Nat) (dz0 : List Int) (c1 : Bool) (sa1 : Option Addr) (sc1 : Nat) (sz1 : List Int) (da1 : Option Addr) (dc1 : Nat) (dz1 : List Int) (c2 : Bool) (sa2 : Option Addr) (sc2 : Nat) (sz2 : List Int) (da2 : Option Addr) (dc2 : Nat) (dz2 : List Int) (w : World) (w0 : IsArr w sa0 sz0 da0 dz0) (w1 : IsArr w sa1 sz1 da1 dz1) (w2 : IsArr w sa2 sz2 da2 dz2) (F0 : Hid (flawE c0 sz0 dz0 = 0)) (F1 : Hid (flawE c1 sz1 dz1 ≠ 0)) :
    Calls Try.prog 3 #[.agg #[.bool c0, .slice sa0 sz0.length sc0, .slice da0 dz0.length dc0], .agg #[.bool c1, .slice sa1 sz1.length sc1, .slice da1 dz1.length dc1], .agg #[.bool c2, .slice sa2 sz2.length sc2, .slice da2 dz2.length dc2]] w fun e w' => e = .returned (.bool true) ∧ Below w.heap.size w w' := by
  obtain ⟨x1, x2, x3, x4, _, _⟩ := w0
  obtain ⟨y1, y2, y3, y4, _, _⟩ := w1
  obtain ⟨z1, z2, z3, z4, _, _⟩ := w2
  have HI : Hid ((IsInts w.heap.size w sa0 sz0 ∧ IsInts w.heap.size w da0 dz0) ∧ (IsInts w.heap.size w sa1 sz1 ∧ IsInts w.heap.size w da1 dz1) ∧ (IsInts w.heap.size w sa2 sz2 ∧ IsInts w.heap.size w da2 dz2)) := ⟨⟨x3, x4⟩, ⟨y3, y4⟩, z3, z4⟩
  clear x3 x4 y3 y4 z3 z4
  have p0 : Abx (((w.alloc (.cells #[.bool c0, .slice sa0 sz0.length sc0, .slice da0 dz0.length dc0] 24)).alloc (.cells #[.bool c1, .slice sa1 sz1.length sc1, .slice da1 dz1.length dc1] 24)).alloc (.cells #[.bool c2, .slice sa2 sz2.length sc2, .slice da2 dz2.length dc2] 24)) w.heap.size (.bool c0) (.slice sa0 sz0.length sc0) (.slice da0 dz0.length dc0) := ((Abx.new w _ _ _).al _).al _
  have p1 : Abx (((w.alloc (.cells #[.bool c0, .slice sa0 sz0.length sc0, .slice da0 dz0.length dc0] 24)).alloc (.cells #[.bool c1, .slice sa1 sz1.length sc1, .slice da1 dz1.length dc1] 24)).alloc (.cells #[.bool c2, .slice sa2 sz2.length sc2, .slice da2 dz2.length dc2] 24)) (w.heap.size + 1) (.bool c1) (.slice sa1 sz1.length sc1) (.slice da1 dz1.length dc1) := (Abx.new1 w _ _ _ _).al _
  have p2 : Abx (((w.alloc (.cells #[.bool c0, .slice sa0 sz0.length sc0, .slice da0 dz0.length dc0] 24)).alloc (.cells #[.bool c1, .slice sa1 sz1.length sc1, .slice da1 dz1.length dc1] 24)).alloc (.cells #[.bool c2, .slice sa2 sz2.length sc2, .slice da2 dz2.length dc2] 24)) (w.heap.size + 1 + 1) (.bool c2) (.slice sa2 sz2.length sc2) (.slice da2 dz2.length dc2) := by
    have := Abx.new1 (w.alloc (.cells #[.bool c0, .slice sa0 sz0.length sc0, .slice da0 dz0.length dc0] 24)) (.cells #[.bool c1, .slice sa1 sz1.length sc1, .slice da1 dz1.length dc1] 24) (.bool c2) (.slice sa2 sz2.length sc2) (.slice da2 dz2.length dc2)
    rwa [World.size_alloc] at this
  have hs : (((w.alloc (.cells #[.bool c0, .slice sa0 sz0.length sc0, .slice da0 dz0.length dc0] 24)).alloc (.cells #[.bool c1, .slice sa1 sz1.length sc1, .slice da1 dz1.length dc1] 24)).alloc (.cells #[.bool c2, .slice sa2 sz2.length sc2, .slice da2 dz2.length dc2] 24)).heap.size = w.heap.size + 1 + 1 + 1 := by simp
  have hb : Hid (Below w.heap.size w (((w.alloc (.cells #[.bool c0, .slice sa0 sz0.length sc0, .slice da0 dz0.length dc0] 24)).alloc (.cells #[.bool c1, .slice sa1 sz1.length sc1, .slice da1 dz1.length dc1] 24)).alloc (.cells #[.bool c2, .slice sa2 sz2.length sc2, .slice da2 dz2.length dc2] 24))) := (((Below.refl _ w).alloc (Nat.le_refl _) _).alloc (by simp) _).alloc (by simp; omega) _
  obtain ⟨u, hu⟩ : ∃ u, u = (((w.alloc (.cells #[.bool c0, .slice sa0 sz0.length sc0, .slice da0 dz0.length dc0] 24)).alloc (.cells #[.bool c1, .slice sa1 sz1.length sc1, .slice da1 dz1.length dc1] 24)).alloc (.cells #[.bool c2, .slice sa2 sz2.length sc2, .slice da2 dz2.length dc2] 24)) := ⟨_, rfl⟩
  rw [← hu] at p0 p1 p2 hs hb
  have n1 : NewInts u.heap.size ((((u.alloc (.cells #[.int .i64 2] 3)).alloc (.cells #[.int .i64 1, .int .i64 2] 3)).alloc (.cells #[.int .i64 2] 3)).alloc (.cells #[.int .i64 1, .int .i64 2] 3)) (some ⟨u.heap.size, 0, none⟩) [2] := (((new_lit u 3 [2] (by simp)).al _).al _).al _
  have n2 : NewInts (u.alloc (.cells #[.int .i64 2] 3)).heap.size ((((u.alloc (.cells #[.int .i64 2] 3)).alloc (.cells #[.int .i64 1, .int .i64 2] 3)).alloc (.cells #[.int .i64 2] 3)).alloc (.cells #[.int .i64 1, .int .i64 2] 3)) (some ⟨(u.alloc (.cells #[.int .i64 2] 3)).heap.size, 0, none⟩) [1, 2] := ((new_lit (u.alloc (.cells #[.int .i64 2] 3)) 3 [1, 2] (by simp)).al _).al _
  have n3 : NewInts ((u.alloc (.cells #[.int .i64 2] 3)).alloc (.cells #[.int .i64 1, .int .i64 2] 3)).heap.size ((((u.alloc (.cells #[.int .i64 2] 3)).alloc (.cells #[.int .i64 1, .int .i64 2] 3)).alloc (.cells #[.int .i64 2] 3)).alloc (.cells #[.int .i64 1, .int .i64 2] 3)) (some ⟨((u.alloc (.cells #[.int .i64 2] 3)).alloc (.cells #[.int .i64 1, .int .i64 2] 3)).heap.size, 0, none⟩) [2] := (new_lit ((u.alloc (.cells #[.int .i64 2] 3)).alloc (.cells #[.int .i64 1, .int .i64 2] 3)) 3 [2] (by simp)).al _
  have n4 : NewInts (((u.alloc (.cells #[.int .i64 2] 3)).alloc (.cells #[.int .i64 1, .int .i64 2] 3)).alloc (.cells #[.int .i64 2] 3)).heap.size ((((u.alloc (.cells #[.int .i64 2] 3)).alloc (.cells #[.int .i64 1, .int .i64 2] 3)).alloc (.cells #[.int .i64 2] 3)).alloc (.cells #[.int .i64 1, .int .i64 2] 3)) (some ⟨(((u.alloc (.cells #[.int .i64 2] 3)).alloc (.cells #[.int .i64 1, .int .i64 2] 3)).alloc (.cells #[.int .i64 2] 3)).heap.size, 0, none⟩) [1, 2] := new_lit (((u.alloc (.cells #[.int .i64 2] 3)).alloc (.cells #[.int .i64 1, .int .i64 2] 3)).alloc (.cells #[.int .i64 2] 3)) 3 [1, 2] (by simp)
  simp only [World.size_alloc, hs] at n1 n2 n3 n4
  have HN : Hid (IsInts ((((u.alloc (.cells #[.int .i64 2] 3)).alloc (.cells #[.int .i64 1, .int .i64 2] 3)).alloc (.cells #[.int .i64 2] 3)).alloc (.cells #[.int .i64 1, .int .i64 2] 3)).heap.size ((((u.alloc (.cells #[.int .i64 2] 3)).alloc (.cells #[.int .i64 1, .int .i64 2] 3)).alloc (.cells #[.int .i64 2] 3)).alloc (.cells #[.int .i64 1, .int .i64 2] 3)) (some ⟨w.heap.size + 1 + 1 + 1, 0, none⟩) [2] ∧ IsInts ((((u.alloc (.cells #[.int .i64 2] 3)).alloc (.cells #[.int .i64 1, .int .i64 2] 3)).alloc (.cells #[.int .i64 2] 3)).alloc (.cells #[.int .i64 1, .int .i64 2] 3)).heap.size ((((u.alloc (.cells #[.int .i64 2] 3)).alloc (.cells #[.int .i64 1, .int .i64 2] 3)).alloc (.cells #[.int .i64 2] 3)).alloc (.cells #[.int .i64 1, .int .i64 2] 3)) (some ⟨w.heap.size + 1 + 1 + 1 + 1, 0, none⟩) [1, 2] ∧ IsInts ((((u.alloc (.cells #[.int .i64 2] 3)).alloc (.cells #[.int .i64 1, .int .i64 2] 3)).alloc (.cells #[.int .i64 2] 3)).alloc (.cells #[.int .i64 1, .int .i64 2] 3)).heap.size ((((u.alloc (.cells #[.int .i64 2] 3)).alloc (.cells #[.int .i64 1, .int .i64 2] 3)).alloc (.cells #[.int .i64 2] 3)).alloc (.cells #[.int .i64 1, .int .i64 2] 3)) (some ⟨w.heap.size + 1 + 1 + 1 + 1 + 1, 0, none⟩) [2] ∧ IsInts ((((u.alloc (.cells #[.int .i64 2] 3)).alloc (.cells #[.int .i64 1, .int .i64 2] 3)).alloc (.cells #[.int .i64 2] 3)).alloc (.cells #[.int .i64 1, .int .i64 2] 3)).heap.size ((((u.alloc (.cells #[.int .i64 2] 3)).alloc (.cells #[.int .i64 1, .int .i64 2] 3)).alloc (.cells #[.int .i64 2] 3)).alloc (.cells #[.int .i64 1, .int .i64 2] 3)) (some ⟨w.heap.size + 1 + 1 + 1 + 1 + 1 + 1, 0, none⟩) [1, 2]) := ⟨n1.ints, n2.ints, n3.ints, n4.ints⟩
  replace hb : Hid (Below w.heap.size w ((((u.alloc (.cells #[.int .i64 2] 3)).alloc (.cells #[.int .i64 1, .int .i64 2] 3)).alloc (.cells #[.int .i64 2] 3)).alloc (.cells #[.int .i64 1, .int .i64 2] 3))) := (((hb.out.alloc (by omega) _).alloc (by simp; omega) _).alloc (by simp; omega) _).alloc (by simp; omega) _
  replace p0 := (((p0.al (.cells #[.int .i64 2] 3)).al (.cells #[.int .i64 1, .int .i64 2] 3)).al (.cells #[.int .i64 2] 3)).al (.cells #[.int .i64 1, .int .i64 2] 3)
  replace p1 := (((p1.al (.cells #[.int .i64 2] 3)).al (.cells #[.int .i64 1, .int .i64 2] 3)).al (.cells #[.int .i64 2] 3)).al (.cells #[.int .i64 1, .int .i64 2] 3)
  replace p2 := (((p2.al (.cells #[.int .i64 2] 3)).al (.cells #[.int .i64 1, .int .i64 2] 3)).al (.cells #[.int .i64 2] 3)).al (.cells #[.int .i64 1, .int .i64 2] 3)
  clear n1 n2 n3 n4 hs
  subst hu
  go_enter Try.func3, Try.ntmps3
  go_wp2_with fail
  refine (match_any false false (some ⟨w.heap.size + 1 + 1 + 1, 0, none⟩) 1 [2] (some ⟨w.heap.size + 1 + 1 + 1 + 1, 0, none⟩) 2 [1, 2] (some ⟨w.heap.size + 1 + 1 + 1 + 1 + 1, 0, none⟩) 1 [2] (some ⟨w.heap.size + 1 + 1 + 1 + 1 + 1 + 1, 0, none⟩) 2 [1, 2] (by simp) (by simp) (by simp) (by simp) _ HN.out.1 HN.out.2.1 HN.out.2.2.1 HN.out.2.2.2).mono ?_
  rintro e v1 ⟨rfl, hB⟩
  replace hb : Hid (Below w.heap.size w v1) := hb.out.trans (hB.mono hb.out.size)
  replace p0 := p0.go hB
  replace p1 := p1.go hB
  replace p2 := p2.go hB
  clear hB
  clear HN
  rw [show mtB false [2] [1, 2] false [2] [1, 2] = true by decide, show flawsE false [2] [1, 2] false [2] [1, 2] = 0 by decide, errV_zero]
  have p0_0 := p0.c0
  have p0_1 := p0.c1
  have p0_2 := p0.c2
  have p1_0 := p1.c0
  have p1_1 := p1.c1
  have p1_2 := p1.c2
  have p2_0 := p2.c0
  have p2_1 := p2.c1
  have p2_2 := p2.c2
  go_wp2_with fail
  refine (check_ok c0 sa0 sc0 sz0 da0 dc0 dz0 x1 x2 v1 ((HI.out.1.1.below hb.out).mono hb.out.size) ((HI.out.1.2.below hb.out).mono hb.out.size) F0.out).mono ?_
  rintro e v2 ⟨rfl, hB⟩
  replace hb : Hid (Below w.heap.size w v2) := hb.out.trans (hB.mono hb.out.size)
  replace p0 := p0.go hB
  replace p1 := p1.go hB
  replace p2 := p2.go hB
  replace p0_0 := p0.c0
  replace p0_1 := p0.c1
  replace p0_2 := p0.c2
  replace p1_0 := p1.c0
  replace p1_1 := p1.c1
  replace p1_2 := p1.c2
  replace p2_0 := p2.c0
  replace p2_1 := p2.c1
  replace p2_2 := p2.c2
  clear hB
  go_wp2_with fail
  refine (check_no c1 sa1 sc1 sz1 da1 dc1 dz1 y1 y2 v2 ((HI.out.2.1.1.below hb.out).mono hb.out.size) ((HI.out.2.1.2.below hb.out).mono hb.out.size) F1.out).mono ?_
  rintro e v3 ⟨rfl, hB⟩
  replace hb : Hid (Below w.heap.size w v3) := hb.out.trans (hB.mono hb.out.size)
  replace p0 := p0.go hB
  replace p1 := p1.go hB
  replace p2 := p2.go hB
  replace p0_0 := p0.c0
  replace p0_1 := p0.c1
  replace p0_2 := p0.c2
  replace p1_0 := p1.c0
  replace p1_1 := p1.c1
  replace p1_2 := p1.c2
  replace p2_0 := p2.c0
  replace p2_1 := p2.c1
  replace p2_2 := p2.c2
  clear hB
  go_wp2_with fail
  go_ret
  exact ⟨rfl, hb.out⟩
set_option maxRecDepth 100000 in
set_option maxHeartbeats 4000000 in
theorem same_no2 (c0 : Bool) (sa0 : Option Addr) (sc0 : Nat) (sz0 : List Int) (da0 : Option Addr) (dc0 : Nat) (dz0 : List Int) (c1 : Bool) (sa1 : Option Addr) (sc1 : Nat) (sz1 : List Int) (da1 : Option Addr) (dc1 : Nat) (dz1 : List Int) (c2 : Bool) (sa2 : Option Addr) (sc2 : Nat) (sz2 : List Int) (da2 : Option Addr) (dc2 : Nat) (dz2 : List Int) (w : World) (w0 : IsArr w sa0 sz0 da0 dz0) (w1 : IsArr w sa1 sz1 da1 dz1) (w2 : IsArr w sa2 sz2 da2 dz2) (F0 : Hid (flawE c0 sz0 dz0 = 0)) (F1 : Hid (flawE c1 sz1 dz1 = 0)) (F2 : Hid (flawE c2 sz2 dz2 ≠ 0)) :
    Calls Try.prog 3 #[.agg #[.bool c0, .slice sa0 sz0.length sc0, .slice da0 dz0.length dc0], .agg #[.bool c1, .slice sa1 sz1.length sc1, .slice da1 dz1.length dc1], .agg #[.bool c2, .slice sa2 sz2.length sc2, .slice da2 dz2.length dc2]] w fun e w' => e = .returned (.bool true) ∧ Below w.heap.size w w' := by
  obtain ⟨x1, x2, x3, x4, _, _⟩ := w0
  obtain ⟨y1, y2, y3, y4, _, _⟩ := w1
  obtain ⟨z1, z2, z3, z4, _, _⟩ := w2
  have HI : Hid ((IsInts w.heap.size w sa0 sz0 ∧ IsInts w.heap.size w da0 dz0) ∧ (IsInts w.heap.size w sa1 sz1 ∧ IsInts w.heap.size w da1 dz1) ∧ (IsInts w.heap.size w sa2 sz2 ∧ IsInts w.heap.size w da2 dz2)) := ⟨⟨x3, x4⟩, ⟨y3, y4⟩, z3, z4⟩
  clear x3 x4 y3 y4 z3 z4
  have p0 : Abx (((w.alloc (.cells #[.bool c0, .slice sa0 sz0.length sc0, .slice da0 dz0.length dc0] 24)).alloc (.cells #[.bool c1, .slice sa1 sz1.length sc1, .slice da1 dz1.length dc1] 24)).alloc (.cells #[.bool c2, .slice sa2 sz2.length sc2, .slice da2 dz2.length dc2] 24)) w.heap.size (.bool c0) (.slice sa0 sz0.length sc0) (.slice da0 dz0.length dc0) := ((Abx.new w _ _ _).al _).al _
  have p1 : Abx (((w.alloc (.cells #[.bool c0, .slice sa0 sz0.length sc0, .slice da0 dz0.length dc0] 24)).alloc (.cells #[.bool c1, .slice sa1 sz1.length sc1, .slice da1 dz1.length dc1] 24)).alloc (.cells #[.bool c2, .slice sa2 sz2.length sc2, .slice da2 dz2.length dc2] 24)) (w.heap.size + 1) (.bool c1) (.slice sa1 sz1.length sc1) (.slice da1 dz1.length dc1) := (Abx.new1 w _ _ _ _).al _
  have p2 : Abx (((w.alloc (.cells #[.bool c0, .slice sa0 sz0.length sc0, .slice da0 dz0.length dc0] 24)).alloc (.cells #[.bool c1, .slice sa1 sz1.length sc1, .slice da1 dz1.length dc1] 24)).alloc (.cells #[.bool c2, .slice sa2 sz2.length sc2, .slice da2 dz2.length dc2] 24)) (w.heap.size + 1 + 1) (.bool c2) (.slice sa2 sz2.length sc2) (.slice da2 dz2.length dc2) := by
    have := Abx.new1 (w.alloc (.cells #[.bool c0, .slice sa0 sz0.length sc0, .slice da0 dz0.length dc0] 24)) (.cells #[.bool c1, .slice sa1 sz1.length sc1, .slice da1 dz1.length dc1] 24) (.bool c2) (.slice sa2 sz2.length sc2) (.slice da2 dz2.length dc2)
    rwa [World.size_alloc] at this
  have hs : (((w.alloc (.cells #[.bool c0, .slice sa0 sz0.length sc0, .slice da0 dz0.length dc0] 24)).alloc (.cells #[.bool c1, .slice sa1 sz1.length sc1, .slice da1 dz1.length dc1] 24)).alloc (.cells #[.bool c2, .slice sa2 sz2.length sc2, .slice da2 dz2.length dc2] 24)).heap.size = w.heap.size + 1 + 1 + 1 := by simp
  have hb : Hid (Below w.heap.size w (((w.alloc (.cells #[.bool c0, .slice sa0 sz0.length sc0, .slice da0 dz0.length dc0] 24)).alloc (.cells #[.bool c1, .slice sa1 sz1.length sc1, .slice da1 dz1.length dc1] 24)).alloc (.cells #[.bool c2, .slice sa2 sz2.length sc2, .slice da2 dz2.length dc2] 24))) := (((Below.refl _ w).alloc (Nat.le_refl _) _).alloc (by simp) _).alloc (by simp; omega) _
  obtain ⟨u, hu⟩ : ∃ u, u = (((w.alloc (.cells #[.bool c0, .slice sa0 sz0.length sc0, .slice da0 dz0.length dc0] 24)).alloc (.cells #[.bool c1, .slice sa1 sz1.length sc1, .slice da1 dz1.length dc1] 24)).alloc (.cells #[.bool c2, .slice sa2 sz2.length sc2, .slice da2 dz2.length dc2] 24)) := ⟨_, rfl⟩
  rw [← hu] at p0 p1 p2 hs hb
  have n1 : NewInts u.heap.size ((((u.alloc (.cells #[.int .i64 2] 3)).alloc (.cells #[.int .i64 1, .int .i64 2] 3)).alloc (.cells #[.int .i64 2] 3)).alloc (.cells #[.int .i64 1, .int .i64 2] 3)) (some ⟨u.heap.size, 0, none⟩) [2] := (((new_lit u 3 [2] (by simp)).al _).al _).al _
  have n2 : NewInts (u.alloc (.cells #[.int .i64 2] 3)).heap.size ((((u.alloc (.cells #[.int .i64 2] 3)).alloc (.cells #[.int .i64 1, .int .i64 2] 3)).alloc (.cells #[.int .i64 2] 3)).alloc (.cells #[.int .i64 1, .int .i64 2] 3)) (some ⟨(u.alloc (.cells #[.int .i64 2] 3)).heap.size, 0, none⟩) [1, 2] := ((new_lit (u.alloc (.cells #[.int .i64 2] 3)) 3 [1, 2] (by simp)).al _).al _
  have n3 : NewInts ((u.alloc (.cells #[.int .i64 2] 3)).alloc (.cells #[.int .i64 1, .int .i64 2] 3)).heap.size ((((u.alloc (.cells #[.int .i64 2] 3)).alloc (.cells #[.int .i64 1, .int .i64 2] 3)).alloc (.cells #[.int .i64 2] 3)).alloc (.cells #[.int .i64 1, .int .i64 2] 3)) (some ⟨((u.alloc (.cells #[.int .i64 2] 3)).alloc (.cells #[.int .i64 1, .int .i64 2] 3)).heap.size, 0, none⟩) [2] := (new_lit ((u.alloc (.cells #[.int .i64 2] 3)).alloc (.cells #[.int .i64 1, .int .i64 2] 3)) 3 [2] (by simp)).al _
  have n4 : NewInts (((u.alloc (.cells #[.int .i64 2] 3)).alloc (.cells #[.int .i64 1, .int .i64 2] 3)).alloc (.cells #[.int .i64 2] 3)).heap.size ((((u.alloc (.cells #[.int .i64 2] 3)).alloc (.cells #[.int .i64 1, .int .i64 2] 3)).alloc (.cells #[.int .i64 2] 3)).alloc (.cells #[.int .i64 1, .int .i64 2] 3)) (some ⟨(((u.alloc (.cells #[.int .i64 2] 3)).alloc (.cells #[.int .i64 1, .int .i64 2] 3)).alloc (.cells #[.int .i64 2] 3)).heap.size, 0, none⟩) [1, 2] := new_lit (((u.alloc (.cells #[.int .i64 2] 3)).alloc (.cells #[.int .i64 1, .int .i64 2] 3)).alloc (.cells #[.int .i64 2] 3)) 3 [1, 2] (by simp)
  simp only [World.size_alloc, hs] at n1 n2 n3 n4
  have HN : Hid (IsInts ((((u.alloc (.cells #[.int .i64 2] 3)).alloc (.cells #[.int .i64 1, .int .i64 2] 3)).alloc (.cells #[.int .i64 2] 3)).alloc (.cells #[.int .i64 1, .int .i64 2] 3)).heap.size ((((u.alloc (.cells #[.int .i64 2] 3)).alloc (.cells #[.int .i64 1, .int .i64 2] 3)).alloc (.cells #[.int .i64 2] 3)).alloc (.cells #[.int .i64 1, .int .i64 2] 3)) (some ⟨w.heap.size + 1 + 1 + 1, 0, none⟩) [2] ∧ IsInts ((((u.alloc (.cells #[.int .i64 2] 3)).alloc (.cells #[.int .i64 1, .int .i64 2] 3)).alloc (.cells #[.int .i64 2] 3)).alloc (.cells #[.int .i64 1, .int .i64 2] 3)).heap.size ((((u.alloc (.cells #[.int .i64 2] 3)).alloc (.cells #[.int .i64 1, .int .i64 2] 3)).alloc (.cells #[.int .i64 2] 3)).alloc (.cells #[.int .i64 1, .int .i64 2] 3)) (some ⟨w.heap.size + 1 + 1 + 1 + 1, 0, none⟩) [1, 2] ∧ IsInts ((((u.alloc (.cells #[.int .i64 2] 3)).alloc (.cells #[.int .i64 1, .int .i64 2] 3)).alloc (.cells #[.int .i64 2] 3)).alloc (.cells #[.int .i64 1, .int .i64 2] 3)).heap.size ((((u.alloc (.cells #[.int .i64 2] 3)).alloc (.cells #[.int .i64 1, .int .i64 2] 3)).alloc (.cells #[.int .i64 2] 3)).alloc (.cells #[.int .i64 1, .int .i64 2] 3)) (some ⟨w.heap.size + 1 + 1 + 1 + 1 + 1, 0, none⟩) [2] ∧ IsInts ((((u.alloc (.cells #[.int .i64 2] 3)).alloc (.cells #[.int .i64 1, .int .i64 2] 3)).alloc (.cells #[.int .i64 2] 3)).alloc (.cells #[.int .i64 1, .int .i64 2] 3)).heap.size ((((u.alloc (.cells #[.int .i64 2] 3)).alloc (.cells #[.int .i64 1, .int .i64 2] 3)).alloc (.cells #[.int .i64 2] 3)).alloc (.cells #[.int .i64 1, .int .i64 2] 3)) (some ⟨w.heap.size + 1 + 1 + 1 + 1 + 1 + 1, 0, none⟩) [1, 2]) := ⟨n1.ints, n2.ints, n3.ints, n4.ints⟩
  replace hb : Hid (Below w.heap.size w ((((u.alloc (.cells #[.int .i64 2] 3)).alloc (.cells #[.int .i64 1, .int .i64 2] 3)).alloc (.cells #[.int .i64 2] 3)).alloc (.cells #[.int .i64 1, .int .i64 2] 3))) := (((hb.out.alloc (by omega) _).alloc (by simp; omega) _).alloc (by simp; omega) _).alloc (by simp; omega) _
  replace p0 := (((p0.al (.cells #[.int .i64 2] 3)).al (.cells #[.int .i64 1, .int .i64 2] 3)).al (.cells #[.int .i64 2] 3)).al (.cells #[.int .i64 1, .int .i64 2] 3)
  replace p1 := (((p1.al (.cells #[.int .i64 2] 3)).al (.cells #[.int .i64 1, .int .i64 2] 3)).al (.cells #[.int .i64 2] 3)).al (.cells #[.int .i64 1, .int .i64 2] 3)
  replace p2 := (((p2.al (.cells #[.int .i64 2] 3)).al (.cells #[.int .i64 1, .int .i64 2] 3)).al (.cells #[.int .i64 2] 3)).al (.cells #[.int .i64 1, .int .i64 2] 3)
  clear n1 n2 n3 n4 hs
  subst hu
  go_enter Try.func3, Try.ntmps3
  go_wp2_with fail
  refine (match_any false false (some ⟨w.heap.size + 1 + 1 + 1, 0, none⟩) 1 [2] (some ⟨w.heap.size + 1 + 1 + 1 + 1, 0, none⟩) 2 [1, 2] (some ⟨w.heap.size + 1 + 1 + 1 + 1 + 1, 0, none⟩) 1 [2] (some ⟨w.heap.size + 1 + 1 + 1 + 1 + 1 + 1, 0, none⟩) 2 [1, 2] (by simp) (by simp) (by simp) (by simp) _ HN.out.1 HN.out.2.1 HN.out.2.2.1 HN.out.2.2.2).mono ?_
  rintro e v1 ⟨rfl, hB⟩
  replace hb : Hid (Below w.heap.size w v1) := hb.out.trans (hB.mono hb.out.size)
  replace p0 := p0.go hB
  replace p1 := p1.go hB
  replace p2 := p2.go hB
  clear hB
  clear HN
  rw [show mtB false [2] [1, 2] false [2] [1, 2] = true by decide, show flawsE false [2] [1, 2] false [2] [1, 2] = 0 by decide, errV_zero]
  have p0_0 := p0.c0
  have p0_1 := p0.c1
  have p0_2 := p0.c2
  have p1_0 := p1.c0
  have p1_1 := p1.c1
  have p1_2 := p1.c2
  have p2_0 := p2.c0
  have p2_1 := p2.c1
  have p2_2 := p2.c2
  go_wp2_with fail
  refine (check_ok c0 sa0 sc0 sz0 da0 dc0 dz0 x1 x2 v1 ((HI.out.1.1.below hb.out).mono hb.out.size) ((HI.out.1.2.below hb.out).mono hb.out.size) F0.out).mono ?_
  rintro e v2 ⟨rfl, hB⟩
  replace hb : Hid (Below w.heap.size w v2) := hb.out.trans (hB.mono hb.out.size)
  replace p0 := p0.go hB
  replace p1 := p1.go hB
  replace p2 := p2.go hB
  replace p0_0 := p0.c0
  replace p0_1 := p0.c1
  replace p0_2 := p0.c2
  replace p1_0 := p1.c0
  replace p1_1 := p1.c1
  replace p1_2 := p1.c2
  replace p2_0 := p2.c0
  replace p2_1 := p2.c1
  replace p2_2 := p2.c2
  clear hB
  go_wp2_with fail
  refine (check_ok c1 sa1 sc1 sz1 da1 dc1 dz1 y1 y2 v2 ((HI.out.2.1.1.below hb.out).mono hb.out.size) ((HI.out.2.1.2.below hb.out).mono hb.out.size) F1.out).mono ?_
  rintro e v3 ⟨rfl, hB⟩
  replace hb : Hid (Below w.heap.size w v3) := hb.out.trans (hB.mono hb.out.size)
  replace p0 := p0.go hB
  replace p1 := p1.go hB
  replace p2 := p2.go hB
  replace p0_0 := p0.c0
  replace p0_1 := p0.c1
  replace p0_2 := p0.c2
  replace p1_0 := p1.c0
  replace p1_1 := p1.c1
  replace p1_2 := p1.c2
  replace p2_0 := p2.c0
  replace p2_1 := p2.c1
  replace p2_2 := p2.c2
  clear hB
  go_wp2_with fail
  refine (check_no c2 sa2 sc2 sz2 da2 dc2 dz2 z1 z2 v3 ((HI.out.2.2.1.below hb.out).mono hb.out.size) ((HI.out.2.2.2.below hb.out).mono hb.out.size) F2.out).mono ?_
  rintro e v4 ⟨rfl, hB⟩
  replace hb : Hid (Below w.heap.size w v4) := hb.out.trans (hB.mono hb.out.size)
  replace p0 := p0.go hB
  replace p1 := p1.go hB
  replace p2 := p2.go hB
  replace p0_0 := p0.c0
  replace p0_1 := p0.c1
  replace p0_2 := p0.c2
  replace p1_0 := p1.c0
  replace p1_1 := p1.c1
  replace p1_2 := p1.c2
  replace p2_0 := p2.c0
  replace p2_1 := p2.c1
  replace p2_2 := p2.c2
  clear hB
  go_wp2_with fail
  go_ret
  exact ⟨rfl, hb.out⟩
theorem arrB_comm (c c' : Bool) (sz dz sz' dz' : List Int) : arrB c sz dz c' sz' dz' = arrB c' sz' dz' c sz dz := by
  rw [Bool.eq_iff_iff, arrB_iff, arrB_iff]
  exact ⟨fun h => ⟨h.1.symm, h.2.1.symm, h.2.2.symm⟩, fun h => ⟨h.1.symm, h.2.1.symm, h.2.2.symm⟩⟩
theorem arrB_tr (c0 c1 c2 : Bool) (sz0 dz0 sz1 dz1 sz2 dz2 : List Int) : (!(arrB c0 sz0 dz0 c1 sz1 dz1 && arrB c1 sz1 dz1 c2 sz2 dz2) || arrB c0 sz0 dz0 c2 sz2 dz2) = true := by
  cases h1 : arrB c0 sz0 dz0 c1 sz1 dz1
  · rfl
  · cases h2 : arrB c1 sz1 dz1 c2 sz2 dz2
    · rfl
    · obtain ⟨a, b, d⟩ := arrB_iff.1 h1
      obtain ⟨a', b', d'⟩ := arrB_iff.1 h2
      rw [arrB_iff.2 ⟨a.trans a', b.trans b', d.trans d'⟩]
      rfl
set_option maxRecDepth 100000 in
set_option maxHeartbeats 4000000 in
theorem same_ok (c0 : Bool) (sa0 : Option Addr) (sc0 : Nat) (sz0 : List Int) (da0 : Option Addr) (dc0 : Nat) (dz0 : List Int) (c1 : Bool) (sa1 : Option Addr) (sc1 : Nat) (sz1 : List Int) (da1 : Option Addr) (dc1 : Nat) (dz1 : List Int) (c2 : Bool) (sa2 : Option Addr) (sc2 : Nat) (sz2 : List Int) (da2 : Option Addr) (dc2 : Nat) (dz2 : List Int) (w : World) (w0 : IsArr w sa0 sz0 da0 dz0) (w1 : IsArr w sa1 sz1 da1 dz1) (w2 : IsArr w sa2 sz2 da2 dz2) (F0 : Hid (flawE c0 sz0 dz0 = 0)) (F1 : Hid (flawE c1 sz1 dz1 = 0)) (F2 : Hid (flawE c2 sz2 dz2 = 0)) :
    Calls Try.prog 3 #[.agg #[.bool c0, .slice sa0 sz0.length sc0, .slice da0 dz0.length dc0], .agg #[.bool c1, .slice sa1 sz1.length sc1, .slice da1 dz1.length dc1], .agg #[.bool c2, .slice sa2 sz2.length sc2, .slice da2 dz2.length dc2]] w fun e w' => e = .returned (.bool true) ∧ Below w.heap.size w w' := by
  obtain ⟨x1, x2, x3, x4, _, _⟩ := w0
  obtain ⟨y1, y2, y3, y4, _, _⟩ := w1
  obtain ⟨z1, z2, z3, z4, _, _⟩ := w2
  have HI : Hid ((IsInts w.heap.size w sa0 sz0 ∧ IsInts w.heap.size w da0 dz0) ∧ (IsInts w.heap.size w sa1 sz1 ∧ IsInts w.heap.size w da1 dz1) ∧ (IsInts w.heap.size w sa2 sz2 ∧ IsInts w.heap.size w da2 dz2)) := ⟨⟨x3, x4⟩, ⟨y3, y4⟩, z3, z4⟩
  clear x3 x4 y3 y4 z3 z4
  have p0 : Abx (((w.alloc (.cells #[.bool c0, .slice sa0 sz0.length sc0, .slice da0 dz0.length dc0] 24)).alloc (.cells #[.bool c1, .slice sa1 sz1.length sc1, .slice da1 dz1.length dc1] 24)).alloc (.cells #[.bool c2, .slice sa2 sz2.length sc2, .slice da2 dz2.length dc2] 24)) w.heap.size (.bool c0) (.slice sa0 sz0.length sc0) (.slice da0 dz0.length dc0) := ((Abx.new w _ _ _).al _).al _
  have p1 : Abx (((w.alloc (.cells #[.bool c0, .slice sa0 sz0.length sc0, .slice da0 dz0.length dc0] 24)).alloc (.cells #[.bool c1, .slice sa1 sz1.length sc1, .slice da1 dz1.length dc1] 24)).alloc (.cells #[.bool c2, .slice sa2 sz2.length sc2, .slice da2 dz2.length dc2] 24)) (w.heap.size + 1) (.bool c1) (.slice sa1 sz1.length sc1) (.slice da1 dz1.length dc1) := (Abx.new1 w _ _ _ _).al _
  have p2 : Abx (((w.alloc (.cells #[.bool c0, .slice sa0 sz0.length sc0, .slice da0 dz0.length dc0] 24)).alloc (.cells #[.bool c1, .slice sa1 sz1.length sc1, .slice da1 dz1.length dc1] 24)).alloc (.cells #[.bool c2, .slice sa2 sz2.length sc2, .slice da2 dz2.length dc2] 24)) (w.heap.size + 1 + 1) (.bool c2) (.slice sa2 sz2.length sc2) (.slice da2 dz2.length dc2) := by
    have := Abx.new1 (w.alloc (.cells #[.bool c0, .slice sa0 sz0.length sc0, .slice da0 dz0.length dc0] 24)) (.cells #[.bool c1, .slice sa1 sz1.length sc1, .slice da1 dz1.length dc1] 24) (.bool c2) (.slice sa2 sz2.length sc2) (.slice da2 dz2.length dc2)
    rwa [World.size_alloc] at this
  have hs : (((w.alloc (.cells #[.bool c0, .slice sa0 sz0.length sc0, .slice da0 dz0.length dc0] 24)).alloc (.cells #[.bool c1, .slice sa1 sz1.length sc1, .slice da1 dz1.length dc1] 24)).alloc (.cells #[.bool c2, .slice sa2 sz2.length sc2, .slice da2 dz2.length dc2] 24)).heap.size = w.heap.size + 1 + 1 + 1 := by simp
  have hb : Hid (Below w.heap.size w (((w.alloc (.cells #[.bool c0, .slice sa0 sz0.length sc0, .slice da0 dz0.length dc0] 24)).alloc (.cells #[.bool c1, .slice sa1 sz1.length sc1, .slice da1 dz1.length dc1] 24)).alloc (.cells #[.bool c2, .slice sa2 sz2.length sc2, .slice da2 dz2.length dc2] 24))) := (((Below.refl _ w).alloc (Nat.le_refl _) _).alloc (by simp) _).alloc (by simp; omega) _
  obtain ⟨u, hu⟩ : ∃ u, u = (((w.alloc (.cells #[.bool c0, .slice sa0 sz0.length sc0, .slice da0 dz0.length dc0] 24)).alloc (.cells #[.bool c1, .slice sa1 sz1.length sc1, .slice da1 dz1.length dc1] 24)).alloc (.cells #[.bool c2, .slice sa2 sz2.length sc2, .slice da2 dz2.length dc2] 24)) := ⟨_, rfl⟩
  rw [← hu] at p0 p1 p2 hs hb
  have n1 : NewInts u.heap.size ((((u.alloc (.cells #[.int .i64 2] 3)).alloc (.cells #[.int .i64 1, .int .i64 2] 3)).alloc (.cells #[.int .i64 2] 3)).alloc (.cells #[.int .i64 1, .int .i64 2] 3)) (some ⟨u.heap.size, 0, none⟩) [2] := (((new_lit u 3 [2] (by simp)).al _).al _).al _
  have n2 : NewInts (u.alloc (.cells #[.int .i64 2] 3)).heap.size ((((u.alloc (.cells #[.int .i64 2] 3)).alloc (.cells #[.int .i64 1, .int .i64 2] 3)).alloc (.cells #[.int .i64 2] 3)).alloc (.cells #[.int .i64 1, .int .i64 2] 3)) (some ⟨(u.alloc (.cells #[.int .i64 2] 3)).heap.size, 0, none⟩) [1, 2] := ((new_lit (u.alloc (.cells #[.int .i64 2] 3)) 3 [1, 2] (by simp)).al _).al _
  have n3 : NewInts ((u.alloc (.cells #[.int .i64 2] 3)).alloc (.cells #[.int .i64 1, .int .i64 2] 3)).heap.size ((((u.alloc (.cells #[.int .i64 2] 3)).alloc (.cells #[.int .i64 1, .int .i64 2] 3)).alloc (.cells #[.int .i64 2] 3)).alloc (.cells #[.int .i64 1, .int .i64 2] 3)) (some ⟨((u.alloc (.cells #[.int .i64 2] 3)).alloc (.cells #[.int .i64 1, .int .i64 2] 3)).heap.size, 0, none⟩) [2] := (new_lit ((u.alloc (.cells #[.int .i64 2] 3)).alloc (.cells #[.int .i64 1, .int .i64 2] 3)) 3 [2] (by simp)).al _
  have n4 : NewInts (((u.alloc (.cells #[.int .i64 2] 3)).alloc (.cells #[.int .i64 1, .int .i64 2] 3)).alloc (.cells #[.int .i64 2] 3)).heap.size ((((u.alloc (.cells #[.int .i64 2] 3)).alloc (.cells #[.int .i64 1, .int .i64 2] 3)).alloc (.cells #[.int .i64 2] 3)).alloc (.cells #[.int .i64 1, .int .i64 2] 3)) (some ⟨(((u.alloc (.cells #[.int .i64 2] 3)).alloc (.cells #[.int .i64 1, .int .i64 2] 3)).alloc (.cells #[.int .i64 2] 3)).heap.size, 0, none⟩) [1, 2] := new_lit (((u.alloc (.cells #[.int .i64 2] 3)).alloc (.cells #[.int .i64 1, .int .i64 2] 3)).alloc (.cells #[.int .i64 2] 3)) 3 [1, 2] (by simp)
  simp only [World.size_alloc, hs] at n1 n2 n3 n4
  have HN : Hid (IsInts ((((u.alloc (.cells #[.int .i64 2] 3)).alloc (.cells #[.int .i64 1, .int .i64 2] 3)).alloc (.cells #[.int .i64 2] 3)).alloc (.cells #[.int .i64 1, .int .i64 2] 3)).heap.size ((((u.alloc (.cells #[.int .i64 2] 3)).alloc (.cells #[.int .i64 1, .int .i64 2] 3)).alloc (.cells #[.int .i64 2] 3)).alloc (.cells #[.int .i64 1, .int .i64 2] 3)) (some ⟨w.heap.size + 1 + 1 + 1, 0, none⟩) [2] ∧ IsInts ((((u.alloc (.cells #[.int .i64 2] 3)).alloc (.cells #[.int .i64 1, .int .i64 2] 3)).alloc (.cells #[.int .i64 2] 3)).alloc (.cells #[.int .i64 1, .int .i64 2] 3)).heap.size ((((u.alloc (.cells #[.int .i64 2] 3)).alloc (.cells #[.int .i64 1, .int .i64 2] 3)).alloc (.cells #[.int .i64 2] 3)).alloc (.cells #[.int .i64 1, .int .i64 2] 3)) (some ⟨w.heap.size + 1 + 1 + 1 + 1, 0, none⟩) [1, 2] ∧ IsInts ((((u.alloc (.cells #[.int .i64 2] 3)).alloc (.cells #[.int .i64 1, .int .i64 2] 3)).alloc (.cells #[.int .i64 2] 3)).alloc (.cells #[.int .i64 1, .int .i64 2] 3)).heap.size ((((u.alloc (.cells #[.int .i64 2] 3)).alloc (.cells #[.int .i64 1, .int .i64 2] 3)).alloc (.cells #[.int .i64 2] 3)).alloc (.cells #[.int .i64 1, .int .i64 2] 3)) (some ⟨w.heap.size + 1 + 1 + 1 + 1 + 1, 0, none⟩) [2] ∧ IsInts ((((u.alloc (.cells #[.int .i64 2] 3)).alloc (.cells #[.int .i64 1, .int .i64 2] 3)).alloc (.cells #[.int .i64 2] 3)).alloc (.cells #[.int .i64 1, .int .i64 2] 3)).heap.size ((((u.alloc (.cells #[.int .i64 2] 3)).alloc (.cells #[.int .i64 1, .int .i64 2] 3)).alloc (.cells #[.int .i64 2] 3)).alloc (.cells #[.int .i64 1, .int .i64 2] 3)) (some ⟨w.heap.size + 1 + 1 + 1 + 1 + 1 + 1, 0, none⟩) [1, 2]) := ⟨n1.ints, n2.ints, n3.ints, n4.ints⟩
  replace hb : Hid (Below w.heap.size w ((((u.alloc (.cells #[.int .i64 2] 3)).alloc (.cells #[.int .i64 1, .int .i64 2] 3)).alloc (.cells #[.int .i64 2] 3)).alloc (.cells #[.int .i64 1, .int .i64 2] 3))) := (((hb.out.alloc (by omega) _).alloc (by simp; omega) _).alloc (by simp; omega) _).alloc (by simp; omega) _
  replace p0 := (((p0.al (.cells #[.int .i64 2] 3)).al (.cells #[.int .i64 1, .int .i64 2] 3)).al (.cells #[.int .i64 2] 3)).al (.cells #[.int .i64 1, .int .i64 2] 3)
  replace p1 := (((p1.al (.cells #[.int .i64 2] 3)).al (.cells #[.int .i64 1, .int .i64 2] 3)).al (.cells #[.int .i64 2] 3)).al (.cells #[.int .i64 1, .int .i64 2] 3)
  replace p2 := (((p2.al (.cells #[.int .i64 2] 3)).al (.cells #[.int .i64 1, .int .i64 2] 3)).al (.cells #[.int .i64 2] 3)).al (.cells #[.int .i64 1, .int .i64 2] 3)
  clear n1 n2 n3 n4 hs
  subst hu
  go_enter Try.func3, Try.ntmps3
  go_wp2_with fail
  refine (match_any false false (some ⟨w.heap.size + 1 + 1 + 1, 0, none⟩) 1 [2] (some ⟨w.heap.size + 1 + 1 + 1 + 1, 0, none⟩) 2 [1, 2] (some ⟨w.heap.size + 1 + 1 + 1 + 1 + 1, 0, none⟩) 1 [2] (some ⟨w.heap.size + 1 + 1 + 1 + 1 + 1 + 1, 0, none⟩) 2 [1, 2] (by simp) (by simp) (by simp) (by simp) _ HN.out.1 HN.out.2.1 HN.out.2.2.1 HN.out.2.2.2).mono ?_
  rintro e v1 ⟨rfl, hB⟩
  replace hb : Hid (Below w.heap.size w v1) := hb.out.trans (hB.mono hb.out.size)
  replace p0 := p0.go hB
  replace p1 := p1.go hB
  replace p2 := p2.go hB
  clear hB
  clear HN
  rw [show mtB false [2] [1, 2] false [2] [1, 2] = true by decide, show flawsE false [2] [1, 2] false [2] [1, 2] = 0 by decide, errV_zero]
  have p0_0 := p0.c0
  have p0_1 := p0.c1
  have p0_2 := p0.c2
  have p1_0 := p1.c0
  have p1_1 := p1.c1
  have p1_2 := p1.c2
  have p2_0 := p2.c0
  have p2_1 := p2.c1
  have p2_2 := p2.c2
  go_wp2_with fail
  refine (check_ok c0 sa0 sc0 sz0 da0 dc0 dz0 x1 x2 v1 ((HI.out.1.1.below hb.out).mono hb.out.size) ((HI.out.1.2.below hb.out).mono hb.out.size) F0.out).mono ?_
  rintro e v2 ⟨rfl, hB⟩
  replace hb : Hid (Below w.heap.size w v2) := hb.out.trans (hB.mono hb.out.size)
  replace p0 := p0.go hB
  replace p1 := p1.go hB
  replace p2 := p2.go hB
  replace p0_0 := p0.c0
  replace p0_1 := p0.c1
  replace p0_2 := p0.c2
  replace p1_0 := p1.c0
  replace p1_1 := p1.c1
  replace p1_2 := p1.c2
  replace p2_0 := p2.c0
  replace p2_1 := p2.c1
  replace p2_2 := p2.c2
  clear hB
  go_wp2_with fail
  refine (check_ok c1 sa1 sc1 sz1 da1 dc1 dz1 y1 y2 v2 ((HI.out.2.1.1.below hb.out).mono hb.out.size) ((HI.out.2.1.2.below hb.out).mono hb.out.size) F1.out).mono ?_
  rintro e v3 ⟨rfl, hB⟩
  replace hb : Hid (Below w.heap.size w v3) := hb.out.trans (hB.mono hb.out.size)
  replace p0 := p0.go hB
  replace p1 := p1.go hB
  replace p2 := p2.go hB
  replace p0_0 := p0.c0
  replace p0_1 := p0.c1
  replace p0_2 := p0.c2
  replace p1_0 := p1.c0
  replace p1_1 := p1.c1
  replace p1_2 := p1.c2
  replace p2_0 := p2.c0
  replace p2_1 := p2.c1
  replace p2_2 := p2.c2
  clear hB
  go_wp2_with fail
  refine (check_ok c2 sa2 sc2 sz2 da2 dc2 dz2 z1 z2 v3 ((HI.out.2.2.1.below hb.out).mono hb.out.size) ((HI.out.2.2.2.below hb.out).mono hb.out.size) F2.out).mono ?_
  rintro e v4 ⟨rfl, hB⟩
  replace hb : Hid (Below w.heap.size w v4) := hb.out.trans (hB.mono hb.out.size)
  replace p0 := p0.go hB
  replace p1 := p1.go hB
  replace p2 := p2.go hB
  replace p0_0 := p0.c0
  replace p0_1 := p0.c1
  replace p0_2 := p0.c2
  replace p1_0 := p1.c0
  replace p1_1 := p1.c1
  replace p1_2 := p1.c2
  replace p2_0 := p2.c0
  replace p2_1 := p2.c1
  replace p2_2 := p2.c2
  clear hB
  go_wp2_with fail
  refine (match_any c0 c0 sa0 sc0 sz0 da0 dc0 dz0 sa0 sc0 sz0 da0 dc0 dz0 x1 x2 x1 x2 v4 ((HI.out.1.1.below hb.out).mono hb.out.size) ((HI.out.1.2.below hb.out).mono hb.out.size) ((HI.out.1.1.below hb.out).mono hb.out.size) ((HI.out.1.2.below hb.out).mono hb.out.size)).mono ?_
  rintro e v5 ⟨rfl, hB⟩
  replace hb : Hid (Below w.heap.size w v5) := hb.out.trans (hB.mono hb.out.size)
  replace p0 := p0.go hB
  replace p1 := p1.go hB
  replace p2 := p2.go hB
  replace p0_0 := p0.c0
  replace p0_1 := p0.c1
  replace p0_2 := p0.c2
  replace p1_0 := p1.c0
  replace p1_1 := p1.c1
  replace p1_2 := p1.c2
  replace p2_0 := p2.c0
  replace p2_1 := p2.c1
  replace p2_2 := p2.c2
  clear hB
  rw [mtB_ok F0.out F0.out, flawsE_zero.2 ⟨F0.out, F0.out⟩, errV_zero]
  rw [arrB_iff.2 ⟨rfl, rfl, rfl⟩]
  go_wp2_with fail
  refine (match_any c0 c1 sa0 sc0 sz0 da0 dc0 dz0 sa1 sc1 sz1 da1 dc1 dz1 x1 x2 y1 y2 v5 ((HI.out.1.1.below hb.out).mono hb.out.size) ((HI.out.1.2.below hb.out).mono hb.out.size) ((HI.out.2.1.1.below hb.out).mono hb.out.size) ((HI.out.2.1.2.below hb.out).mono hb.out.size)).mono ?_
  rintro e v6 ⟨rfl, hB⟩
  replace hb : Hid (Below w.heap.size w v6) := hb.out.trans (hB.mono hb.out.size)
  replace p0 := p0.go hB
  replace p1 := p1.go hB
  replace p2 := p2.go hB
  replace p0_0 := p0.c0
  replace p0_1 := p0.c1
  replace p0_2 := p0.c2
  replace p1_0 := p1.c0
  replace p1_1 := p1.c1
  replace p1_2 := p1.c2
  replace p2_0 := p2.c0
  replace p2_1 := p2.c1
  replace p2_2 := p2.c2
  clear hB
  rw [mtB_ok F0.out F1.out, flawsE_zero.2 ⟨F0.out, F1.out⟩, errV_zero]
  go_wp2_with fail
  refine (match_any c1 c0 sa1 sc1 sz1 da1 dc1 dz1 sa0 sc0 sz0 da0 dc0 dz0 y1 y2 x1 x2 v6 ((HI.out.2.1.1.below hb.out).mono hb.out.size) ((HI.out.2.1.2.below hb.out).mono hb.out.size) ((HI.out.1.1.below hb.out).mono hb.out.size) ((HI.out.1.2.below hb.out).mono hb.out.size)).mono ?_
  rintro e v7 ⟨rfl, hB⟩
  replace hb : Hid (Below w.heap.size w v7) := hb.out.trans (hB.mono hb.out.size)
  replace p0 := p0.go hB
  replace p1 := p1.go hB
  replace p2 := p2.go hB
  replace p0_0 := p0.c0
  replace p0_1 := p0.c1
  replace p0_2 := p0.c2
  replace p1_0 := p1.c0
  replace p1_1 := p1.c1
  replace p1_2 := p1.c2
  replace p2_0 := p2.c0
  replace p2_1 := p2.c1
  replace p2_2 := p2.c2
  clear hB
  rw [mtB_ok F1.out F0.out, flawsE_zero.2 ⟨F1.out, F0.out⟩, errV_zero]
  rw [arrB_comm c1 c0]
  go_wp2_with fail
  refine (match_any c1 c2 sa1 sc1 sz1 da1 dc1 dz1 sa2 sc2 sz2 da2 dc2 dz2 y1 y2 z1 z2 v7 ((HI.out.2.1.1.below hb.out).mono hb.out.size) ((HI.out.2.1.2.below hb.out).mono hb.out.size) ((HI.out.2.2.1.below hb.out).mono hb.out.size) ((HI.out.2.2.2.below hb.out).mono hb.out.size)).mono ?_
  rintro e v8 ⟨rfl, hB⟩
  replace hb : Hid (Below w.heap.size w v8) := hb.out.trans (hB.mono hb.out.size)
  replace p0 := p0.go hB
  replace p1 := p1.go hB
  replace p2 := p2.go hB
  replace p0_0 := p0.c0
  replace p0_1 := p0.c1
  replace p0_2 := p0.c2
  replace p1_0 := p1.c0
  replace p1_1 := p1.c1
  replace p1_2 := p1.c2
  replace p2_0 := p2.c0
  replace p2_1 := p2.c1
  replace p2_2 := p2.c2
  clear hB
  rw [mtB_ok F1.out F2.out, flawsE_zero.2 ⟨F1.out, F2.out⟩, errV_zero]
  go_wp2_with fail
  refine (match_any c0 c2 sa0 sc0 sz0 da0 dc0 dz0 sa2 sc2 sz2 da2 dc2 dz2 x1 x2 z1 z2 v8 ((HI.out.1.1.below hb.out).mono hb.out.size) ((HI.out.1.2.below hb.out).mono hb.out.size) ((HI.out.2.2.1.below hb.out).mono hb.out.size) ((HI.out.2.2.2.below hb.out).mono hb.out.size)).mono ?_
  rintro e v9 ⟨rfl, hB⟩
  replace hb : Hid (Below w.heap.size w v9) := hb.out.trans (hB.mono hb.out.size)
  replace p0 := p0.go hB
  replace p1 := p1.go hB
  replace p2 := p2.go hB
  replace p0_0 := p0.c0
  replace p0_1 := p0.c1
  replace p0_2 := p0.c2
  replace p1_0 := p1.c0
  replace p1_1 := p1.c1
  replace p1_2 := p1.c2
  replace p2_0 := p2.c0
  replace p2_1 := p2.c1
  replace p2_2 := p2.c2
  clear hB
  rw [mtB_ok F0.out F2.out, flawsE_zero.2 ⟨F0.out, F2.out⟩, errV_zero]
  have ht := arrB_tr c0 c1 c2 sz0 dz0 sz1 dz1 sz2 dz2
  generalize arrB c0 sz0 dz0 c1 sz1 dz1 = ab at ht ⊢
  generalize arrB c1 sz1 dz1 c2 sz2 dz2 = bc at ht ⊢
  generalize arrB c0 sz0 dz0 c2 sz2 dz2 = ac at ht ⊢
  cases ab <;> cases bc <;> cases ac
  all_goals
    first
    | exact absurd ht (by decide)
    | (clear ht; go_wp2_with fail; go_ret; exact ⟨rfl, hb.out⟩)
theorem same_walk (c0 : Bool) (sa0 : Option Addr) (sc0 : Nat) (sz0 : List Int) (da0 : Option Addr) (dc0 : Nat) (dz0 : List Int) (c1 : Bool) (sa1 : Option Addr) (sc1 : Nat) (sz1 : List Int) (da1 : Option Addr) (dc1 : Nat) (dz1 : List Int) (c2 : Bool) (sa2 : Option Addr) (sc2 : Nat) (sz2 : List Int) (da2 : Option Addr) (dc2 : Nat) (dz2 : List Int) (w : World) (w0 : IsArr w sa0 sz0 da0 dz0) (w1 : IsArr w sa1 sz1 da1 dz1) (w2 : IsArr w sa2 sz2 da2 dz2) :
    Calls Try.prog 3 #[.agg #[.bool c0, .slice sa0 sz0.length sc0, .slice da0 dz0.length dc0], .agg #[.bool c1, .slice sa1 sz1.length sc1, .slice da1 dz1.length dc1], .agg #[.bool c2, .slice sa2 sz2.length sc2, .slice da2 dz2.length dc2]] w fun e w' => e = .returned (.bool true) ∧ Below w.heap.size w w' := by
  by_cases f0 : flawE c0 sz0 dz0 = 0
  · by_cases f1 : flawE c1 sz1 dz1 = 0
    · by_cases f2 : flawE c2 sz2 dz2 = 0
      · exact same_ok c0 sa0 sc0 sz0 da0 dc0 dz0 c1 sa1 sc1 sz1 da1 dc1 dz1 c2 sa2 sc2 sz2 da2 dc2 dz2 w w0 w1 w2 f0 f1 f2
      · exact same_no2 c0 sa0 sc0 sz0 da0 dc0 dz0 c1 sa1 sc1 sz1 da1 dc1 dz1 c2 sa2 sc2 sz2 da2 dc2 dz2 w w0 w1 w2 f0 f1 f2
    · exact same_no1 c0 sa0 sc0 sz0 da0 dc0 dz0 c1 sa1 sc1 sz1 da1 dc1 dz1 c2 sa2 sc2 sz2 da2 dc2 dz2 w w0 w1 w2 f0 f1
  · exact same_no0 c0 sa0 sc0 sz0 da0 dc0 dz0 c1 sa1 sc1 sz1 da1 dc1 dz1 c2 sa2 sc2 sz2 da2 dc2 dz2 w w0 w1 w2 f0
end Go.Proofs.Ytkfdhnabhpnmcaa
