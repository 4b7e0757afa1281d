/-
  The walk of the statement that shape and cells are all of an array.
-/
import Derived.Test.YthmiaiephkcdfaaRavel
import Derived.Test.YthmiaiephkcdfaaReshape
import Derived.Test.YthmiaiephkcdfaaMatch
import Derived.Test.YthmiaiephkcdfaaCycm
namespace Go.Proofs.Ythmiaiephkcdfaa
open Go.RowKit
set_option linter.unusedVariables false

set_option maxRecDepth 100000 in
set_option maxHeartbeats 4000000 in
theorem back_no (c0 : Bool) (sa0 : Option Addr) (sc0 : Nat) (sz0 : List Int) (da0 : Option Addr) (dc0 : Nat) (dz0 : List Int) (w : World) (w0 : IsArr w sa0 sz0 da0 dz0) (F : Hid (flawE c0 sz0 dz0 ≠ 0)) :
    Calls Try.prog 3 #[.agg #[.bool c0, .slice sa0 sz0.length sc0, .slice da0 dz0.length dc0]] w fun e w' => e = .returned (.bool true) ∧ Below w.heap.size w w' := by
  obtain ⟨x1, x2, x3, x4, _, _⟩ := w0
  have HI : Hid (IsInts w.heap.size w sa0 sz0 ∧ IsInts w.heap.size w da0 dz0) := ⟨x3, x4⟩
  clear x3 x4
  have p0 : Abx (w.alloc (.cells #[.bool c0, .slice sa0 sz0.length sc0, .slice da0 dz0.length dc0] 24)) w.heap.size (.bool c0) (.slice sa0 sz0.length sc0) (.slice da0 dz0.length dc0) := Abx.new w _ _ _
  have hs : (w.alloc (.cells #[.bool c0, .slice sa0 sz0.length sc0, .slice da0 dz0.length dc0] 24)).heap.size = w.heap.size + 1 := by simp
  have hb : Hid (Below w.heap.size w (w.alloc (.cells #[.bool c0, .slice sa0 sz0.length sc0, .slice da0 dz0.length dc0] 24))) := (Below.refl _ w).alloc (Nat.le_refl _) _
  obtain ⟨u, hu⟩ : ∃ u, u = (w.alloc (.cells #[.bool c0, .slice sa0 sz0.length sc0, .slice da0 dz0.length dc0] 24)) := ⟨_, rfl⟩
  rw [← hu] at p0 hs hb
  have n1 : NewInts u.heap.size (((u.alloc (.cells #[.int .i64 2, .int .i64 2] 3)).alloc (.cells #[.int .i64 3] 3)).alloc (.cells #[.int .i64 1, .int .i64 2, .int .i64 3] 3)) (some ⟨u.heap.size, 0, none⟩) [2, 2] := ((new_lit u 3 [2, 2]).al _).al _
  have n2 : NewInts (u.alloc (.cells #[.int .i64 2, .int .i64 2] 3)).heap.size (((u.alloc (.cells #[.int .i64 2, .int .i64 2] 3)).alloc (.cells #[.int .i64 3] 3)).alloc (.cells #[.int .i64 1, .int .i64 2, .int .i64 3] 3)) (some ⟨(u.alloc (.cells #[.int .i64 2, .int .i64 2] 3)).heap.size, 0, none⟩) [3] := (new_lit (u.alloc (.cells #[.int .i64 2, .int .i64 2] 3)) 3 [3]).al _
  have n3 : NewInts ((u.alloc (.cells #[.int .i64 2, .int .i64 2] 3)).alloc (.cells #[.int .i64 3] 3)).heap.size (((u.alloc (.cells #[.int .i64 2, .int .i64 2] 3)).alloc (.cells #[.int .i64 3] 3)).alloc (.cells #[.int .i64 1, .int .i64 2, .int .i64 3] 3)) (some ⟨((u.alloc (.cells #[.int .i64 2, .int .i64 2] 3)).alloc (.cells #[.int .i64 3] 3)).heap.size, 0, none⟩) [1, 2, 3] := new_lit ((u.alloc (.cells #[.int .i64 2, .int .i64 2] 3)).alloc (.cells #[.int .i64 3] 3)) 3 [1, 2, 3]
  simp only [World.size_alloc, hs] at n1 n2 n3
  have HN : Hid (IsInts (((u.alloc (.cells #[.int .i64 2, .int .i64 2] 3)).alloc (.cells #[.int .i64 3] 3)).alloc (.cells #[.int .i64 1, .int .i64 2, .int .i64 3] 3)).heap.size (((u.alloc (.cells #[.int .i64 2, .int .i64 2] 3)).alloc (.cells #[.int .i64 3] 3)).alloc (.cells #[.int .i64 1, .int .i64 2, .int .i64 3] 3)) (some ⟨w.heap.size + 1, 0, none⟩) [2, 2] ∧ IsInts (((u.alloc (.cells #[.int .i64 2, .int .i64 2] 3)).alloc (.cells #[.int .i64 3] 3)).alloc (.cells #[.int .i64 1, .int .i64 2, .int .i64 3] 3)).heap.size (((u.alloc (.cells #[.int .i64 2, .int .i64 2] 3)).alloc (.cells #[.int .i64 3] 3)).alloc (.cells #[.int .i64 1, .int .i64 2, .int .i64 3] 3)) (some ⟨w.heap.size + 1 + 1, 0, none⟩) [3] ∧ IsInts (((u.alloc (.cells #[.int .i64 2, .int .i64 2] 3)).alloc (.cells #[.int .i64 3] 3)).alloc (.cells #[.int .i64 1, .int .i64 2, .int .i64 3] 3)).heap.size (((u.alloc (.cells #[.int .i64 2, .int .i64 2] 3)).alloc (.cells #[.int .i64 3] 3)).alloc (.cells #[.int .i64 1, .int .i64 2, .int .i64 3] 3)) (some ⟨w.heap.size + 1 + 1 + 1, 0, none⟩) [1, 2, 3]) := ⟨n1.ints, n2.ints, n3.ints⟩
  replace hb : Hid (Below w.heap.size w (((u.alloc (.cells #[.int .i64 2, .int .i64 2] 3)).alloc (.cells #[.int .i64 3] 3)).alloc (.cells #[.int .i64 1, .int .i64 2, .int .i64 3] 3))) := ((hb.out.alloc (by omega) _).alloc (by simp; omega) _).alloc (by simp; omega) _
  replace p0 := ((p0.al (.cells #[.int .i64 2, .int .i64 2] 3)).al (.cells #[.int .i64 3] 3)).al (.cells #[.int .i64 1, .int .i64 2, .int .i64 3] 3)
  clear n1 n2 n3 hs
  subst hu
  go_enter Try.func3, Try.ntmps3
  go_wp2_with fail
  refine (reshape_ok (some ⟨w.heap.size + 1, 0, none⟩) 2 [2, 2] 4 false (some ⟨w.heap.size + 1 + 1, 0, none⟩) 1 [3] (some ⟨w.heap.size + 1 + 1 + 1, 0, none⟩) 3 [1, 2, 3] (by simp) (by simp) (by simp) _ HN.out.1 HN.out.2.1 HN.out.2.2 (by decide) (by decide) (by decide)).mono ?_
  rintro e v1 ⟨f1, g1, f2, g2, he, _, hY, hB⟩
  replace hb : Hid (Below w.heap.size w v1) := hb.out.trans (hB.mono hb.out.size)
  replace p0 := p0.go hB
  clear hB
  clear HN
  rw [show cyc [1, 2, 3] 4 (fillE false) = [1, 2, 3, 1] by decide] at he hY
  subst he
  go_wp2_with fail
  replace hb : Hid (Below w.heap.size w (v1.alloc (.cells #[.bool false, .slice f1 2 g1, .slice f2 4 g2] 24))) := hb.out.alloc hb.out.size _
  replace p0 := p0.al (.cells #[.bool false, .slice f1 2 g1, .slice f2 4 g2] 24)
  replace hY := hY.al (.cells #[.bool false, .slice f1 2 g1, .slice f2 4 g2] 24)
  replace hb : Hid (Below w.heap.size w ((v1.alloc (.cells #[.bool false, .slice f1 2 g1, .slice f2 4 g2] 24)).alloc (.cells #[.int .i64 1, .int .i64 2, .int .i64 3, .int .i64 1] 3))) := hb.out.alloc hb.out.size _
  replace p0 := p0.al (.cells #[.int .i64 1, .int .i64 2, .int .i64 3, .int .i64 1] 3)
  replace hY := hY.al (.cells #[.int .i64 1, .int .i64 2, .int .i64 3, .int .i64 1] 3)
  have n5 : NewInts _ ((v1.alloc (.cells #[.bool false, .slice f1 2 g1, .slice f2 4 g2] 24)).alloc (.cells #[.int .i64 1, .int .i64 2, .int .i64 3, .int .i64 1] 3)) _ [1, 2, 3, 1] := new_lit (v1.alloc (.cells #[.bool false, .slice f1 2 g1, .slice f2 4 g2] 24)) 3 [1, 2, 3, 1]
  rw [World.size_alloc] at n5
  refine (ints_any f2 g2 [1, 2, 3, 1] _ 4 [1, 2, 3, 1] (by simp) _ _ hY.ints n5.ints).mono ?_
  rintro e v2 ⟨rfl, hB⟩
  replace hb : Hid (Below w.heap.size w v2) := hb.out.trans (hB.mono hb.out.size)
  replace p0 := p0.go hB
  replace hY := hY.go hB
  clear hB
  rw [show eqB [1, 2, 3, 1] [1, 2, 3, 1] = true by decide]
  clear n5 hY
  have p0_0 := p0.c0
  have p0_1 := p0.c1
  have p0_2 := p0.c2
  go_wp2_with fail
  refine (check_no c0 sa0 sc0 sz0 da0 dc0 dz0 x1 x2 v2 ((HI.out.1.below hb.out).mono hb.out.size) ((HI.out.2.below hb.out).mono hb.out.size) F.out).mono ?_
  rintro e v3 ⟨rfl, hB⟩
  replace hb : Hid (Below w.heap.size w v3) := hb.out.trans (hB.mono hb.out.size)
  replace p0 := p0.go hB
  replace p0_0 := p0.c0
  replace p0_1 := p0.c1
  replace p0_2 := p0.c2
  clear hB
  go_wp2_with fail
  go_ret
  exact ⟨rfl, hb.out⟩
set_option maxRecDepth 100000 in
set_option maxHeartbeats 4000000 in
theorem back_ok (c0 : Bool) (sa0 : Option Addr) (sc0 : Nat) (sz0 : List Int) (da0 : Option Addr) (dc0 : Nat) (dz0 : List Int) (w : World) (w0 : IsArr w sa0 sz0 da0 dz0) (F : Hid (flawE c0 sz0 dz0 = 0)) :
    Calls Try.prog 3 #[.agg #[.bool c0, .slice sa0 sz0.length sc0, .slice da0 dz0.length dc0]] w fun e w' => e = .returned (.bool true) ∧ Below w.heap.size w w' := by
  have HL : Hid (dz0.length ≤ 4096 ∧ (dz0.length : Int) = prod sz0 ∧ errOf sz0 = 0) := ⟨(flawE_short F.out).2, (flawE_zero F.out).2.1, (flawE_zero F.out).1⟩
  obtain ⟨x1, x2, x3, x4, _, _⟩ := w0
  have HI : Hid (IsInts w.heap.size w sa0 sz0 ∧ IsInts w.heap.size w da0 dz0) := ⟨x3, x4⟩
  clear x3 x4
  have p0 : Abx (w.alloc (.cells #[.bool c0, .slice sa0 sz0.length sc0, .slice da0 dz0.length dc0] 24)) w.heap.size (.bool c0) (.slice sa0 sz0.length sc0) (.slice da0 dz0.length dc0) := Abx.new w _ _ _
  have hs : (w.alloc (.cells #[.bool c0, .slice sa0 sz0.length sc0, .slice da0 dz0.length dc0] 24)).heap.size = w.heap.size + 1 := by simp
  have hb : Hid (Below w.heap.size w (w.alloc (.cells #[.bool c0, .slice sa0 sz0.length sc0, .slice da0 dz0.length dc0] 24))) := (Below.refl _ w).alloc (Nat.le_refl _) _
  obtain ⟨u, hu⟩ : ∃ u, u = (w.alloc (.cells #[.bool c0, .slice sa0 sz0.length sc0, .slice da0 dz0.length dc0] 24)) := ⟨_, rfl⟩
  rw [← hu] at p0 hs hb
  have n1 : NewInts u.heap.size (((u.alloc (.cells #[.int .i64 2, .int .i64 2] 3)).alloc (.cells #[.int .i64 3] 3)).alloc (.cells #[.int .i64 1, .int .i64 2, .int .i64 3] 3)) (some ⟨u.heap.size, 0, none⟩) [2, 2] := ((new_lit u 3 [2, 2]).al _).al _
  have n2 : NewInts (u.alloc (.cells #[.int .i64 2, .int .i64 2] 3)).heap.size (((u.alloc (.cells #[.int .i64 2, .int .i64 2] 3)).alloc (.cells #[.int .i64 3] 3)).alloc (.cells #[.int .i64 1, .int .i64 2, .int .i64 3] 3)) (some ⟨(u.alloc (.cells #[.int .i64 2, .int .i64 2] 3)).heap.size, 0, none⟩) [3] := (new_lit (u.alloc (.cells #[.int .i64 2, .int .i64 2] 3)) 3 [3]).al _
  have n3 : NewInts ((u.alloc (.cells #[.int .i64 2, .int .i64 2] 3)).alloc (.cells #[.int .i64 3] 3)).heap.size (((u.alloc (.cells #[.int .i64 2, .int .i64 2] 3)).alloc (.cells #[.int .i64 3] 3)).alloc (.cells #[.int .i64 1, .int .i64 2, .int .i64 3] 3)) (some ⟨((u.alloc (.cells #[.int .i64 2, .int .i64 2] 3)).alloc (.cells #[.int .i64 3] 3)).heap.size, 0, none⟩) [1, 2, 3] := new_lit ((u.alloc (.cells #[.int .i64 2, .int .i64 2] 3)).alloc (.cells #[.int .i64 3] 3)) 3 [1, 2, 3]
  simp only [World.size_alloc, hs] at n1 n2 n3
  have HN : Hid (IsInts (((u.alloc (.cells #[.int .i64 2, .int .i64 2] 3)).alloc (.cells #[.int .i64 3] 3)).alloc (.cells #[.int .i64 1, .int .i64 2, .int .i64 3] 3)).heap.size (((u.alloc (.cells #[.int .i64 2, .int .i64 2] 3)).alloc (.cells #[.int .i64 3] 3)).alloc (.cells #[.int .i64 1, .int .i64 2, .int .i64 3] 3)) (some ⟨w.heap.size + 1, 0, none⟩) [2, 2] ∧ IsInts (((u.alloc (.cells #[.int .i64 2, .int .i64 2] 3)).alloc (.cells #[.int .i64 3] 3)).alloc (.cells #[.int .i64 1, .int .i64 2, .int .i64 3] 3)).heap.size (((u.alloc (.cells #[.int .i64 2, .int .i64 2] 3)).alloc (.cells #[.int .i64 3] 3)).alloc (.cells #[.int .i64 1, .int .i64 2, .int .i64 3] 3)) (some ⟨w.heap.size + 1 + 1, 0, none⟩) [3] ∧ IsInts (((u.alloc (.cells #[.int .i64 2, .int .i64 2] 3)).alloc (.cells #[.int .i64 3] 3)).alloc (.cells #[.int .i64 1, .int .i64 2, .int .i64 3] 3)).heap.size (((u.alloc (.cells #[.int .i64 2, .int .i64 2] 3)).alloc (.cells #[.int .i64 3] 3)).alloc (.cells #[.int .i64 1, .int .i64 2, .int .i64 3] 3)) (some ⟨w.heap.size + 1 + 1 + 1, 0, none⟩) [1, 2, 3]) := ⟨n1.ints, n2.ints, n3.ints⟩
  replace hb : Hid (Below w.heap.size w (((u.alloc (.cells #[.int .i64 2, .int .i64 2] 3)).alloc (.cells #[.int .i64 3] 3)).alloc (.cells #[.int .i64 1, .int .i64 2, .int .i64 3] 3))) := ((hb.out.alloc (by omega) _).alloc (by simp; omega) _).alloc (by simp; omega) _
  replace p0 := ((p0.al (.cells #[.int .i64 2, .int .i64 2] 3)).al (.cells #[.int .i64 3] 3)).al (.cells #[.int .i64 1, .int .i64 2, .int .i64 3] 3)
  clear n1 n2 n3 hs
  subst hu
  go_enter Try.func3, Try.ntmps3
  go_wp2_with fail
  refine (reshape_ok (some ⟨w.heap.size + 1, 0, none⟩) 2 [2, 2] 4 false (some ⟨w.heap.size + 1 + 1, 0, none⟩) 1 [3] (some ⟨w.heap.size + 1 + 1 + 1, 0, none⟩) 3 [1, 2, 3] (by simp) (by simp) (by simp) _ HN.out.1 HN.out.2.1 HN.out.2.2 (by decide) (by decide) (by decide)).mono ?_
  rintro e v1 ⟨f1, g1, f2, g2, he, _, hY, hB⟩
  replace hb : Hid (Below w.heap.size w v1) := hb.out.trans (hB.mono hb.out.size)
  replace p0 := p0.go hB
  clear hB
  clear HN
  rw [show cyc [1, 2, 3] 4 (fillE false) = [1, 2, 3, 1] by decide] at he hY
  subst he
  go_wp2_with fail
  replace hb : Hid (Below w.heap.size w (v1.alloc (.cells #[.bool false, .slice f1 2 g1, .slice f2 4 g2] 24))) := hb.out.alloc hb.out.size _
  replace p0 := p0.al (.cells #[.bool false, .slice f1 2 g1, .slice f2 4 g2] 24)
  replace hY := hY.al (.cells #[.bool false, .slice f1 2 g1, .slice f2 4 g2] 24)
  replace hb : Hid (Below w.heap.size w ((v1.alloc (.cells #[.bool false, .slice f1 2 g1, .slice f2 4 g2] 24)).alloc (.cells #[.int .i64 1, .int .i64 2, .int .i64 3, .int .i64 1] 3))) := hb.out.alloc hb.out.size _
  replace p0 := p0.al (.cells #[.int .i64 1, .int .i64 2, .int .i64 3, .int .i64 1] 3)
  replace hY := hY.al (.cells #[.int .i64 1, .int .i64 2, .int .i64 3, .int .i64 1] 3)
  have n5 : NewInts _ ((v1.alloc (.cells #[.bool false, .slice f1 2 g1, .slice f2 4 g2] 24)).alloc (.cells #[.int .i64 1, .int .i64 2, .int .i64 3, .int .i64 1] 3)) _ [1, 2, 3, 1] := new_lit (v1.alloc (.cells #[.bool false, .slice f1 2 g1, .slice f2 4 g2] 24)) 3 [1, 2, 3, 1]
  rw [World.size_alloc] at n5
  refine (ints_any f2 g2 [1, 2, 3, 1] _ 4 [1, 2, 3, 1] (by simp) _ _ hY.ints n5.ints).mono ?_
  rintro e v2 ⟨rfl, hB⟩
  replace hb : Hid (Below w.heap.size w v2) := hb.out.trans (hB.mono hb.out.size)
  replace p0 := p0.go hB
  replace hY := hY.go hB
  clear hB
  rw [show eqB [1, 2, 3, 1] [1, 2, 3, 1] = true by decide]
  clear n5 hY
  have p0_0 := p0.c0
  have p0_1 := p0.c1
  have p0_2 := p0.c2
  go_wp2_with fail
  refine (check_ok c0 sa0 sc0 sz0 da0 dc0 dz0 x1 x2 v2 ((HI.out.1.below hb.out).mono hb.out.size) ((HI.out.2.below hb.out).mono hb.out.size) F.out).mono ?_
  rintro e v3 ⟨rfl, hB⟩
  replace hb : Hid (Below w.heap.size w v3) := hb.out.trans (hB.mono hb.out.size)
  replace p0 := p0.go hB
  replace p0_0 := p0.c0
  replace p0_1 := p0.c1
  replace p0_2 := p0.c2
  clear hB
  go_wp2_with fail
  refine (ravel_ok c0 sa0 sc0 sz0 da0 dc0 dz0 x1 x2 v3 ((HI.out.1.below hb.out).mono hb.out.size) ((HI.out.2.below hb.out).mono hb.out.size) F.out).mono ?_
  rintro e v4 ⟨xa, xc, ya, yc, rfl, hX, hY, hB⟩
  replace hb : Hid (Below w.heap.size w v4) := hb.out.trans (hB.mono hb.out.size)
  replace p0 := p0.go hB
  replace p0_0 := p0.c0
  replace p0_1 := p0.c1
  replace p0_2 := p0.c2
  clear hB
  replace hb : Hid (Below w.heap.size w (v4.alloc (.cells #[.bool c0, .slice xa 1 xc, .slice ya dz0.length yc] 24))) := hb.out.alloc hb.out.size _
  replace p0 := p0.al (.cells #[.bool c0, .slice xa 1 xc, .slice ya dz0.length yc] 24)
  replace hX := hX.al (.cells #[.bool c0, .slice xa 1 xc, .slice ya dz0.length yc] 24)
  replace hY := hY.al (.cells #[.bool c0, .slice xa 1 xc, .slice ya dz0.length yc] 24)
  replace p0_0 := p0.c0
  replace p0_1 := p0.c1
  replace p0_2 := p0.c2
  have px := Abx.new v4 (.bool c0) (.slice xa 1 xc) (.slice ya dz0.length yc)
  have px_0 := px.c0
  have px_1 := px.c1
  have px_2 := px.c2
  go_wp2_with fail
  refine (reshape_ok sa0 sc0 sz0 dz0.length c0 xa xc [(dz0.length : Int)] ya yc dz0 x1 (by simp) x2 _ ((HI.out.1.below hb.out).mono hb.out.size) hX.ints hY.ints HL.out.2.2 HL.out.2.1 (flaw_line F.out)).mono ?_
  rintro e v5 ⟨ta, tc, ua, uc, he, hT, hU, hB⟩
  replace hb : Hid (Below w.heap.size w v5) := hb.out.trans (hB.mono hb.out.size)
  replace p0 := p0.go hB
  replace hX := hX.go hB
  replace hY := hY.go hB
  replace px := px.go hB
  replace p0_0 := p0.c0
  replace p0_1 := p0.c1
  replace p0_2 := p0.c2
  replace px_0 := px.c0
  replace px_1 := px.c1
  replace px_2 := px.c2
  clear hB
  rw [cyc_self] at he hU
  subst he
  replace hb : Hid (Below w.heap.size w (v5.alloc (.cells #[.bool c0, .slice ta sz0.length tc, .slice ua dz0.length uc] 24))) := hb.out.alloc hb.out.size _
  replace p0 := p0.al (.cells #[.bool c0, .slice ta sz0.length tc, .slice ua dz0.length uc] 24)
  replace hX := hX.al (.cells #[.bool c0, .slice ta sz0.length tc, .slice ua dz0.length uc] 24)
  replace hY := hY.al (.cells #[.bool c0, .slice ta sz0.length tc, .slice ua dz0.length uc] 24)
  replace px := px.al (.cells #[.bool c0, .slice ta sz0.length tc, .slice ua dz0.length uc] 24)
  replace hT := hT.al (.cells #[.bool c0, .slice ta sz0.length tc, .slice ua dz0.length uc] 24)
  replace hU := hU.al (.cells #[.bool c0, .slice ta sz0.length tc, .slice ua dz0.length uc] 24)
  replace p0_0 := p0.c0
  replace p0_1 := p0.c1
  replace p0_2 := p0.c2
  replace px_0 := px.c0
  replace px_1 := px.c1
  replace px_2 := px.c2
  have py := Abx.new v5 (.bool c0) (.slice ta sz0.length tc) (.slice ua dz0.length uc)
  have py_0 := py.c0
  have py_1 := py.c1
  have py_2 := py.c2
  go_wp2_with fail
  refine (match_any c0 c0 ta tc sz0 ua uc dz0 sa0 sc0 sz0 da0 dc0 dz0 x1 x2 x1 x2 _ hT.ints hU.ints ((HI.out.1.below hb.out).mono hb.out.size) ((HI.out.2.below hb.out).mono hb.out.size)).mono ?_
  rintro e v6 ⟨rfl, hB⟩
  replace hb : Hid (Below w.heap.size w v6) := hb.out.trans (hB.mono hb.out.size)
  replace p0 := p0.go hB
  replace hX := hX.go hB
  replace hY := hY.go hB
  replace px := px.go hB
  replace hT := hT.go hB
  replace hU := hU.go hB
  replace py := py.go hB
  replace p0_0 := p0.c0
  replace p0_1 := p0.c1
  replace p0_2 := p0.c2
  replace px_0 := px.c0
  replace px_1 := px.c1
  replace px_2 := px.c2
  replace py_0 := py.c0
  replace py_1 := py.c1
  replace py_2 := py.c2
  clear hB
  rw [mtB_ok F.out F.out, flawsE_zero.2 ⟨F.out, F.out⟩, errV_zero, arrB_iff.2 ⟨rfl, rfl, rfl⟩]
  have P0 := p0
  have P0_2 := p0.c2
  replace hb : Hid (Below w.heap.size w (v6.alloc (.cells #[.int .i64 (dz0.length : Int)] 3))) := hb.out.alloc hb.out.size _
  replace p0 := p0.al (.cells #[.int .i64 (dz0.length : Int)] 3)
  replace hX := hX.al (.cells #[.int .i64 (dz0.length : Int)] 3)
  replace hY := hY.al (.cells #[.int .i64 (dz0.length : Int)] 3)
  replace px := px.al (.cells #[.int .i64 (dz0.length : Int)] 3)
  replace hT := hT.al (.cells #[.int .i64 (dz0.length : Int)] 3)
  replace hU := hU.al (.cells #[.int .i64 (dz0.length : Int)] 3)
  replace py := py.al (.cells #[.int .i64 (dz0.length : Int)] 3)
  replace p0_0 := p0.c0
  replace p0_1 := p0.c1
  replace p0_2 := p0.c2
  replace px_0 := px.c0
  replace px_1 := px.c1
  replace px_2 := px.c2
  replace py_0 := py.c0
  replace py_1 := py.c1
  replace py_2 := py.c2
  go_wp2_with fail
  have n6 : NewInts _ (v6.alloc (.cells #[.int .i64 (dz0.length : Int)] 3)) _ [(dz0.length : Int)] := new_lit v6 3 [(dz0.length : Int)]
  refine (reshape_ok _ 1 [(dz0.length : Int)] dz0.length c0 sa0 sc0 sz0 da0 dc0 dz0 (by simp) x1 x2 _ n6.ints ((HI.out.1.below hb.out).mono hb.out.size) ((HI.out.2.below hb.out).mono hb.out.size) (errOf_line HL.out.1) (prod_line _).symm F.out).mono ?_
  rintro e v7 ⟨ra, rc, qa, qc, he, hR, hQ, hB⟩
  replace hb : Hid (Below w.heap.size w v7) := hb.out.trans (hB.mono hb.out.size)
  replace p0 := p0.go hB
  replace hX := hX.go hB
  replace hY := hY.go hB
  replace px := px.go hB
  replace hT := hT.go hB
  replace hU := hU.go hB
  replace py := py.go hB
  replace p0_0 := p0.c0
  replace p0_1 := p0.c1
  replace p0_2 := p0.c2
  replace px_0 := px.c0
  replace px_1 := px.c1
  replace px_2 := px.c2
  replace py_0 := py.c0
  replace py_1 := py.c1
  replace py_2 := py.c2
  clear hB
  rw [cyc_self] at he hQ
  subst he
  clear n6
  replace hb : Hid (Below w.heap.size w (v7.alloc (.cells #[.bool c0, .slice ra 1 rc, .slice qa dz0.length qc] 24))) := hb.out.alloc hb.out.size _
  replace p0 := p0.al (.cells #[.bool c0, .slice ra 1 rc, .slice qa dz0.length qc] 24)
  replace hX := hX.al (.cells #[.bool c0, .slice ra 1 rc, .slice qa dz0.length qc] 24)
  replace hY := hY.al (.cells #[.bool c0, .slice ra 1 rc, .slice qa dz0.length qc] 24)
  replace px := px.al (.cells #[.bool c0, .slice ra 1 rc, .slice qa dz0.length qc] 24)
  replace hT := hT.al (.cells #[.bool c0, .slice ra 1 rc, .slice qa dz0.length qc] 24)
  replace hU := hU.al (.cells #[.bool c0, .slice ra 1 rc, .slice qa dz0.length qc] 24)
  replace py := py.al (.cells #[.bool c0, .slice ra 1 rc, .slice qa dz0.length qc] 24)
  replace hR := hR.al (.cells #[.bool c0, .slice ra 1 rc, .slice qa dz0.length qc] 24)
  replace hQ := hQ.al (.cells #[.bool c0, .slice ra 1 rc, .slice qa dz0.length qc] 24)
  replace p0_0 := p0.c0
  replace p0_1 := p0.c1
  replace p0_2 := p0.c2
  replace px_0 := px.c0
  replace px_1 := px.c1
  replace px_2 := px.c2
  replace py_0 := py.c0
  replace py_1 := py.c1
  replace py_2 := py.c2
  have pz := Abx.new v7 (.bool c0) (.slice ra 1 rc) (.slice qa dz0.length qc)
  have pz_0 := pz.c0
  have pz_1 := pz.c1
  have pz_2 := pz.c2
  go_wp2_with fail
  refine (match_any c0 c0 xa xc [(dz0.length : Int)] ya yc dz0 ra rc [(dz0.length : Int)] qa qc dz0 (by simp) x2 (by simp) x2 _ hX.ints hY.ints hR.ints hQ.ints).mono ?_
  rintro e v8 ⟨rfl, hB⟩
  replace hb : Hid (Below w.heap.size w v8) := hb.out.trans (hB.mono hb.out.size)
  replace p0 := p0.go hB
  replace hX := hX.go hB
  replace hY := hY.go hB
  replace px := px.go hB
  replace hT := hT.go hB
  replace hU := hU.go hB
  replace py := py.go hB
  replace hR := hR.go hB
  replace hQ := hQ.go hB
  replace pz := pz.go hB
  replace p0_0 := p0.c0
  replace p0_1 := p0.c1
  replace p0_2 := p0.c2
  replace px_0 := px.c0
  replace px_1 := px.c1
  replace px_2 := px.c2
  replace py_0 := py.c0
  replace py_1 := py.c1
  replace py_2 := py.c2
  replace pz_0 := pz.c0
  replace pz_1 := pz.c1
  replace pz_2 := pz.c2
  clear hB
  rw [mtB_ok (flaw_line F.out) (flaw_line F.out), flawsE_zero.2 ⟨flaw_line F.out, flaw_line F.out⟩, errV_zero, arrB_iff.2 ⟨rfl, rfl, rfl⟩]
  go_wp2_with fail
  go_ret
  exact ⟨rfl, hb.out⟩
theorem backa_walk (c0 : Bool) (sa0 : Option Addr) (sc0 : Nat) (sz0 : List Int) (da0 : Option Addr) (dc0 : Nat) (dz0 : List Int) (w : World) (w0 : IsArr w sa0 sz0 da0 dz0) :
    Calls Try.prog 3 #[.agg #[.bool c0, .slice sa0 sz0.length sc0, .slice da0 dz0.length dc0]] w fun e w' => e = .returned (.bool true) ∧ Below w.heap.size w w' := by
  by_cases f : flawE c0 sz0 dz0 = 0
  · exact back_ok c0 sa0 sc0 sz0 da0 dc0 dz0 w w0 f
  · exact back_no c0 sa0 sc0 sz0 da0 dc0 dz0 w w0 f
end Go.Proofs.Ythmiaiephkcdfaa
