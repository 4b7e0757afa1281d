/-
  The walk of the statement on what is wrong with arrays, what is the same, and all cells on one axis.
-/
import Derived.Test.YtkfdhnabhpnmcaaDoorErr
import Derived.Test.YtkfdhnabhpnmcaaDoorFlaws
import Derived.Test.YtkfdhnabhpnmcaaDoorSarr
import Derived.Test.YtkfdhnabhpnmcaaDoorVec
import Derived.Test.YtkfdhnabhpnmcaaDoorRavel
import Derived.Test.YtkfdhnabhpnmcaaDoorMatch
namespace Go.Proofs.YtkfdhnabhpnmcaaDoor
open Go.RowKit
set_option linter.unusedVariables false

theorem HasErr.go {w w' : World} (h : HasErr w) (hB : Below w.heap.size w w') : HasErr w' := h.below hB h.pos
theorem HasErr.al {w : World} (h : HasErr w) (o : Obj) : HasErr (w.alloc o) := h.go ((Below.refl _ w).alloc (Nat.le_refl _) o)
theorem HasErr.set3 {w : World} {B : Nat} (h : HasErr w) (hB : 2 < B) (x y z : Value) : HasErr (((w.setCell ⟨B, 0, none⟩ x).setCell ⟨B, 1, none⟩ y).setCell ⟨B, 2, none⟩ z) := by
  have k : ∀ (W : World) (i : Nat) (v : Value), (W.setCell ⟨B, i, none⟩ v).cell? ⟨2, 0, none⟩ = W.cell? ⟨2, 0, none⟩ := fun W i v => World.cell?_of_block (Below.heap_setCell W ⟨B, i, none⟩ v 2 (by show 2 ≠ B; omega))
  unfold HasErr
  rw [k, k, k]
  exact h
theorem sarr_self (c : Bool) (sa : Option Addr) (sc : Nat) (sz : List Int) (da : Option Addr) (dc : Nat) (dz : List Int) (sa' : Option Addr) (sc' : Nat) (da' : Option Addr) (dc' : Nat)
    (h1 : sz.length ≤ 9223372036854775807) (h2 : dz.length ≤ 9223372036854775807) (w : World) (hs : IsInts w.heap.size w sa sz) (hd : IsInts w.heap.size w da dz) (hs' : IsInts w.heap.size w sa' sz) (hd' : IsInts w.heap.size w da' dz) :
    Calls Tryd.prog 12 #[.agg #[.bool c, .slice sa sz.length sc, .slice da dz.length dc], .agg #[.bool c, .slice sa' sz.length sc', .slice da' dz.length dc']] w fun e w' => e = .returned (.bool true) ∧ Below w.heap.size w w' :=
  (sarr_any c c sa sc sz da dc dz sa' sc' sz da' dc' dz h1 h2 w hs hd hs' hd').mono fun e w' ⟨h, hB⟩ => ⟨by rw [h, arrB_self], hB⟩
theorem no_ints (w : World) (a : Option Addr) : IsInts w.heap.size w a [] := .inl rfl
theorem mtB_eq (c c' : Bool) (sz dz sz' dz' : List Int) : mtB c sz dz c' sz' dz' = (arrB c sz dz c' sz' dz' && (flawsE c sz dz c' sz' dz' == 0)) := by
  unfold mtB
  rw [Bool.and_comm]
  rfl
set_option maxRecDepth 100000 in
set_option maxHeartbeats 4000000 in
theorem checks_no (c0 : Bool) (sa0 : Option Addr) (sc0 : Nat) (sz0 : List Int) (da0 : Option Addr) (dc0 : Nat) (dz0 : List Int) (c1 : Bool) (sa1 : Option Addr) (sc1 : Nat) (sz1 : List Int) (da1 : Option Addr) (dc1 : Nat) (dz1 : List Int) (w : World) (hg : HasErr w) (w0 : IsArr w sa0 sz0 da0 dz0) (w1 : IsArr w sa1 sz1 da1 dz1) (F : Hid (flawE c0 sz0 dz0 ≠ 0)) :
    Calls Tryd.prog 3 #[.agg #[.bool c0, .slice sa0 sz0.length sc0, .slice da0 dz0.length dc0], .agg #[.bool c1, .slice sa1 sz1.length sc1, .slice da1 dz1.length dc1]] w fun e w' => e = .returned (.bool true) ∧ Below w.heap.size w w' := by
  obtain ⟨x1, x2, x3, x4, _, _⟩ := w0
  obtain ⟨y1, y2, y3, y4, _, _⟩ := w1
  have HI : Hid ((IsInts w.heap.size w sa0 sz0 ∧ IsInts w.heap.size w da0 dz0) ∧ (IsInts w.heap.size w sa1 sz1 ∧ IsInts w.heap.size w da1 dz1)) := ⟨⟨x3, x4⟩, y3, y4⟩
  clear x3 x4 y3 y4
  replace hg := (hg.al (.cells #[.bool c0, .slice sa0 sz0.length sc0, .slice da0 dz0.length dc0] 24)).al (.cells #[.bool c1, .slice sa1 sz1.length sc1, .slice da1 dz1.length dc1] 24)
  have hb : Hid (Below w.heap.size w ((w.alloc (.cells #[.bool c0, .slice sa0 sz0.length sc0, .slice da0 dz0.length dc0] 24)).alloc (.cells #[.bool c1, .slice sa1 sz1.length sc1, .slice da1 dz1.length dc1] 24))) := ((Below.refl _ w).alloc (Nat.le_refl _) _).alloc (by simp) _
  have p0 := (Abx.new w (.bool c0) (.slice sa0 sz0.length sc0) (.slice da0 dz0.length dc0)).al (.cells #[.bool c1, .slice sa1 sz1.length sc1, .slice da1 dz1.length dc1] 24)
  have p0_0 := p0.c0
  have p0_1 := p0.c1
  have p0_2 := p0.c2
  have p1 := Abx.new1 w (.cells #[.bool c0, .slice sa0 sz0.length sc0, .slice da0 dz0.length dc0] 24) (.bool c1) (.slice sa1 sz1.length sc1) (.slice da1 dz1.length dc1)
  have p1_0 := p1.c0
  have p1_1 := p1.c1
  have p1_2 := p1.c2
  go_enter Tryd.func3, Tryd.ntmps3
  go_wp2_with fail
  refine (flaw_any c0 sa0 sc0 sz0 da0 dc0 dz0 x1 x2 _ ((HI.out.1.1.below hb.out).mono hb.out.size) ((HI.out.1.2.below hb.out).mono hb.out.size)).mono ?_
  rintro e v1 ⟨rfl, hB⟩
  replace hb : Hid (Below w.heap.size w v1) := hb.out.trans (hB.mono hb.out.size)
  replace hg := hg.go hB
  replace p0 := p0.go hB
  replace p1 := p1.go hB
  replace p0_0 := p0.c0
  replace p0_1 := p0.c1
  replace p0_2 := p0.c2
  replace p1_0 := p1.c0
  replace p1_1 := p1.c1
  replace p1_2 := p1.c2
  clear hB
  go_wp2_with fail
  refine (check_any c0 sa0 sc0 sz0 da0 dc0 dz0 x1 x2 _ ((HI.out.1.1.below hb.out).mono hb.out.size) ((HI.out.1.2.below hb.out).mono hb.out.size)).mono ?_
  rintro e v2 ⟨rfl, hB⟩
  replace hb : Hid (Below w.heap.size w v2) := hb.out.trans (hB.mono hb.out.size)
  replace hg := hg.go hB
  replace p0 := p0.go hB
  replace p1 := p1.go hB
  replace p0_0 := p0.c0
  replace p0_1 := p0.c1
  replace p0_2 := p0.c2
  replace p1_0 := p1.c0
  replace p1_1 := p1.c1
  replace p1_2 := p1.c2
  clear hB
  go_wp2_with fail
  refine (error_same (flawE c0 sz0 dz0) _ hg).mono ?_
  rintro e v3 ⟨rfl, hB⟩
  replace hb : Hid (Below w.heap.size w v3) := hb.out.trans (hB.mono hb.out.size)
  replace hg := hg.go hB
  replace p0 := p0.go hB
  replace p1 := p1.go hB
  replace p0_0 := p0.c0
  replace p0_1 := p0.c1
  replace p0_2 := p0.c2
  replace p1_0 := p1.c0
  replace p1_1 := p1.c1
  replace p1_2 := p1.c2
  clear hB
  have te : (flawE c0 sz0 dz0 == 0) = false := by rw [beq_eq_false_iff_ne]; exact F.out
  replace hb : Hid (Below w.heap.size w (v3.alloc (.cells #[.bool false, .slice none 0 0, .slice none 0 0] 24))) := hb.out.alloc hb.out.size _
  replace hg := hg.al (.cells #[.bool false, .slice none 0 0, .slice none 0 0] 24)
  replace p0 := p0.al (.cells #[.bool false, .slice none 0 0, .slice none 0 0] 24)
  replace p1 := p1.al (.cells #[.bool false, .slice none 0 0, .slice none 0 0] 24)
  replace p0_0 := p0.c0
  replace p0_1 := p0.c1
  replace p0_2 := p0.c2
  replace p1_0 := p1.c0
  replace p1_1 := p1.c1
  replace p1_2 := p1.c2
  have pz := Abx.new v3 (.bool false) (.slice none 0 0) (.slice none 0 0)
  have pz_0 := pz.c0
  have pz_1 := pz.c1
  have pz_2 := pz.c2
  go_wp2_with fail
  clear te
  refine (ravel_no c0 sa0 sc0 sz0 da0 dc0 dz0 x1 x2 _ ((HI.out.1.1.below hb.out).mono hb.out.size) ((HI.out.1.2.below hb.out).mono hb.out.size) F.out).mono ?_
  rintro e v4 ⟨rfl, hB⟩
  replace hb : Hid (Below w.heap.size w v4) := hb.out.trans (hB.mono hb.out.size)
  replace hg := hg.go hB
  replace p0 := p0.go hB
  replace p1 := p1.go hB
  replace pz := pz.go hB
  replace p0_0 := p0.c0
  replace p0_1 := p0.c1
  replace p0_2 := p0.c2
  replace p1_0 := p1.c0
  replace p1_1 := p1.c1
  replace p1_2 := p1.c2
  replace pz_0 := pz.c0
  replace pz_1 := pz.c1
  replace pz_2 := pz.c2
  clear hB
  replace hb : Hid (Below w.heap.size w (v4.alloc (.cells #[.bool false, .slice none 0 0, .slice none 0 0] 24))) := hb.out.alloc hb.out.size _
  replace hg := hg.al (.cells #[.bool false, .slice none 0 0, .slice none 0 0] 24)
  replace p0 := p0.al (.cells #[.bool false, .slice none 0 0, .slice none 0 0] 24)
  replace p1 := p1.al (.cells #[.bool false, .slice none 0 0, .slice none 0 0] 24)
  replace pz := pz.al (.cells #[.bool false, .slice none 0 0, .slice none 0 0] 24)
  replace p0_0 := p0.c0
  replace p0_1 := p0.c1
  replace p0_2 := p0.c2
  replace p1_0 := p1.c0
  replace p1_1 := p1.c1
  replace p1_2 := p1.c2
  replace pz_0 := pz.c0
  replace pz_1 := pz.c1
  replace pz_2 := pz.c2
  have pg := Abx.new v4 (.bool false) (.slice none 0 0) (.slice none 0 0)
  have pg_0 := pg.c0
  have pg_1 := pg.c1
  have pg_2 := pg.c2
  go_wp2_with fail
  rw [show Value.iface 25 (.int .i64 (flawE c0 sz0 dz0)) = errV (flawE c0 sz0 dz0) from (errV_pos F.out).symm]
  refine (error_same (flawE c0 sz0 dz0) _ hg).mono ?_
  rintro e v5 ⟨rfl, hB⟩
  replace hb : Hid (Below w.heap.size w v5) := hb.out.trans (hB.mono hb.out.size)
  replace hg := hg.go hB
  replace p0 := p0.go hB
  replace p1 := p1.go hB
  replace pz := pz.go hB
  replace pg := pg.go hB
  replace p0_0 := p0.c0
  replace p0_1 := p0.c1
  replace p0_2 := p0.c2
  replace p1_0 := p1.c0
  replace p1_1 := p1.c1
  replace p1_2 := p1.c2
  replace pz_0 := pz.c0
  replace pz_1 := pz.c1
  replace pz_2 := pz.c2
  replace pg_0 := pg.c0
  replace pg_1 := pg.c1
  replace pg_2 := pg.c2
  clear hB
  go_wp2_with fail
  refine (sarr_self false none 0 [] none 0 [] none 0 none 0 (by simp) (by simp) _ (no_ints _ _) (no_ints _ _) (no_ints _ _) (no_ints _ _)).mono ?_
  rintro e v6 ⟨rfl, hB⟩
  replace hb : Hid (Below w.heap.size w v6) := hb.out.trans (hB.mono hb.out.size)
  replace hg := hg.go hB
  replace p0 := p0.go hB
  replace p1 := p1.go hB
  replace pz := pz.go hB
  replace pg := pg.go hB
  replace p0_0 := p0.c0
  replace p0_1 := p0.c1
  replace p0_2 := p0.c2
  replace p1_0 := p1.c0
  replace p1_1 := p1.c1
  replace p1_2 := p1.c2
  replace pz_0 := pz.c0
  replace pz_1 := pz.c1
  replace pz_2 := pz.c2
  replace pg_0 := pg.c0
  replace pg_1 := pg.c1
  replace pg_2 := pg.c2
  clear hB
  go_wp2_with fail
  refine (flaws_any c0 c1 sa0 sc0 sz0 da0 dc0 dz0 sa1 sc1 sz1 da1 dc1 dz1 x1 x2 y1 y2 _ ((HI.out.1.1.below hb.out).mono hb.out.size) ((HI.out.1.2.below hb.out).mono hb.out.size) ((HI.out.2.1.below hb.out).mono hb.out.size) ((HI.out.2.2.below hb.out).mono hb.out.size)).mono ?_
  rintro e v7 ⟨rfl, hB⟩
  replace hb : Hid (Below w.heap.size w v7) := hb.out.trans (hB.mono hb.out.size)
  replace hg := hg.go hB
  replace p0 := p0.go hB
  replace p1 := p1.go hB
  replace pz := pz.go hB
  replace pg := pg.go hB
  replace p0_0 := p0.c0
  replace p0_1 := p0.c1
  replace p0_2 := p0.c2
  replace p1_0 := p1.c0
  replace p1_1 := p1.c1
  replace p1_2 := p1.c2
  replace pz_0 := pz.c0
  replace pz_1 := pz.c1
  replace pz_2 := pz.c2
  replace pg_0 := pg.c0
  replace pg_1 := pg.c1
  replace pg_2 := pg.c2
  clear hB
  go_wp2_with fail
  refine (sarr_any c0 c1 sa0 sc0 sz0 da0 dc0 dz0 sa1 sc1 sz1 da1 dc1 dz1 x1 x2 _ ((HI.out.1.1.below hb.out).mono hb.out.size) ((HI.out.1.2.below hb.out).mono hb.out.size) ((HI.out.2.1.below hb.out).mono hb.out.size) ((HI.out.2.2.below hb.out).mono hb.out.size)).mono ?_
  rintro e v8 ⟨rfl, hB⟩
  replace hb : Hid (Below w.heap.size w v8) := hb.out.trans (hB.mono hb.out.size)
  replace hg := hg.go hB
  replace p0 := p0.go hB
  replace p1 := p1.go hB
  replace pz := pz.go hB
  replace pg := pg.go hB
  replace p0_0 := p0.c0
  replace p0_1 := p0.c1
  replace p0_2 := p0.c2
  replace p1_0 := p1.c0
  replace p1_1 := p1.c1
  replace p1_2 := p1.c2
  replace pz_0 := pz.c0
  replace pz_1 := pz.c1
  replace pz_2 := pz.c2
  replace pg_0 := pg.c0
  replace pg_1 := pg.c1
  replace pg_2 := pg.c2
  clear hB
  go_wp2_with fail
  refine (match_any c0 c1 sa0 sc0 sz0 da0 dc0 dz0 sa1 sc1 sz1 da1 dc1 dz1 x1 x2 y1 y2 _ ((HI.out.1.1.below hb.out).mono hb.out.size) ((HI.out.1.2.below hb.out).mono hb.out.size) ((HI.out.2.1.below hb.out).mono hb.out.size) ((HI.out.2.2.below hb.out).mono hb.out.size)).mono ?_
  rintro e v9 ⟨rfl, hB⟩
  replace hb : Hid (Below w.heap.size w v9) := hb.out.trans (hB.mono hb.out.size)
  replace hg := hg.go hB
  replace p0 := p0.go hB
  replace p1 := p1.go hB
  replace pz := pz.go hB
  replace pg := pg.go hB
  replace p0_0 := p0.c0
  replace p0_1 := p0.c1
  replace p0_2 := p0.c2
  replace p1_0 := p1.c0
  replace p1_1 := p1.c1
  replace p1_2 := p1.c2
  replace pz_0 := pz.c0
  replace pz_1 := pz.c1
  replace pz_2 := pz.c2
  replace pg_0 := pg.c0
  replace pg_1 := pg.c1
  replace pg_2 := pg.c2
  clear hB
  go_wp2_with fail
  refine (error_same (flawsE c0 sz0 dz0 c1 sz1 dz1) _ hg).mono ?_
  rintro e v10 ⟨rfl, hB⟩
  replace hb : Hid (Below w.heap.size w v10) := hb.out.trans (hB.mono hb.out.size)
  replace hg := hg.go hB
  replace p0 := p0.go hB
  replace p1 := p1.go hB
  replace pz := pz.go hB
  replace pg := pg.go hB
  replace p0_0 := p0.c0
  replace p0_1 := p0.c1
  replace p0_2 := p0.c2
  replace p1_0 := p1.c0
  replace p1_1 := p1.c1
  replace p1_2 := p1.c2
  replace pz_0 := pz.c0
  replace pz_1 := pz.c1
  replace pz_2 := pz.c2
  replace pg_0 := pg.c0
  replace pg_1 := pg.c1
  replace pg_2 := pg.c2
  clear hB
  rw [mtB_eq]
  generalize arrB c0 sz0 dz0 c1 sz1 dz1 = ab
  generalize flawsE c0 sz0 dz0 c1 sz1 dz1 = fe
  generalize hq : (fe == 0) = q
  cases ab <;> cases q
  all_goals
    go_wp2_with fail
    go_ret
    exact ⟨rfl, hb.out⟩
set_option maxRecDepth 100000 in
set_option maxHeartbeats 4000000 in
theorem checks_ok (c0 : Bool) (sa0 : Option Addr) (sc0 : Nat) (sz0 : List Int) (da0 : Option Addr) (dc0 : Nat) (dz0 : List Int) (c1 : Bool) (sa1 : Option Addr) (sc1 : Nat) (sz1 : List Int) (da1 : Option Addr) (dc1 : Nat) (dz1 : List Int) (w : World) (hg : HasErr w) (w0 : IsArr w sa0 sz0 da0 dz0) (w1 : IsArr w sa1 sz1 da1 dz1) (F : Hid (flawE c0 sz0 dz0 = 0)) :
    Calls Tryd.prog 3 #[.agg #[.bool c0, .slice sa0 sz0.length sc0, .slice da0 dz0.length dc0], .agg #[.bool c1, .slice sa1 sz1.length sc1, .slice da1 dz1.length dc1]] w fun e w' => e = .returned (.bool true) ∧ Below w.heap.size w w' := by
  obtain ⟨x1, x2, x3, x4, _, _⟩ := w0
  obtain ⟨y1, y2, y3, y4, _, _⟩ := w1
  have HI : Hid ((IsInts w.heap.size w sa0 sz0 ∧ IsInts w.heap.size w da0 dz0) ∧ (IsInts w.heap.size w sa1 sz1 ∧ IsInts w.heap.size w da1 dz1)) := ⟨⟨x3, x4⟩, y3, y4⟩
  clear x3 x4 y3 y4
  have HL : Hid (dz0.length ≤ 4096) := (flawE_short F.out).2
  replace hg := (hg.al (.cells #[.bool c0, .slice sa0 sz0.length sc0, .slice da0 dz0.length dc0] 24)).al (.cells #[.bool c1, .slice sa1 sz1.length sc1, .slice da1 dz1.length dc1] 24)
  have hb : Hid (Below w.heap.size w ((w.alloc (.cells #[.bool c0, .slice sa0 sz0.length sc0, .slice da0 dz0.length dc0] 24)).alloc (.cells #[.bool c1, .slice sa1 sz1.length sc1, .slice da1 dz1.length dc1] 24))) := ((Below.refl _ w).alloc (Nat.le_refl _) _).alloc (by simp) _
  have p0 := (Abx.new w (.bool c0) (.slice sa0 sz0.length sc0) (.slice da0 dz0.length dc0)).al (.cells #[.bool c1, .slice sa1 sz1.length sc1, .slice da1 dz1.length dc1] 24)
  have p0_0 := p0.c0
  have p0_1 := p0.c1
  have p0_2 := p0.c2
  have p1 := Abx.new1 w (.cells #[.bool c0, .slice sa0 sz0.length sc0, .slice da0 dz0.length dc0] 24) (.bool c1) (.slice sa1 sz1.length sc1) (.slice da1 dz1.length dc1)
  have p1_0 := p1.c0
  have p1_1 := p1.c1
  have p1_2 := p1.c2
  go_enter Tryd.func3, Tryd.ntmps3
  go_wp2_with fail
  refine (flaw_any c0 sa0 sc0 sz0 da0 dc0 dz0 x1 x2 _ ((HI.out.1.1.below hb.out).mono hb.out.size) ((HI.out.1.2.below hb.out).mono hb.out.size)).mono ?_
  rintro e v1 ⟨rfl, hB⟩
  replace hb : Hid (Below w.heap.size w v1) := hb.out.trans (hB.mono hb.out.size)
  replace hg := hg.go hB
  replace p0 := p0.go hB
  replace p1 := p1.go hB
  replace p0_0 := p0.c0
  replace p0_1 := p0.c1
  replace p0_2 := p0.c2
  replace p1_0 := p1.c0
  replace p1_1 := p1.c1
  replace p1_2 := p1.c2
  clear hB
  go_wp2_with fail
  refine (check_any c0 sa0 sc0 sz0 da0 dc0 dz0 x1 x2 _ ((HI.out.1.1.below hb.out).mono hb.out.size) ((HI.out.1.2.below hb.out).mono hb.out.size)).mono ?_
  rintro e v2 ⟨rfl, hB⟩
  replace hb : Hid (Below w.heap.size w v2) := hb.out.trans (hB.mono hb.out.size)
  replace hg := hg.go hB
  replace p0 := p0.go hB
  replace p1 := p1.go hB
  replace p0_0 := p0.c0
  replace p0_1 := p0.c1
  replace p0_2 := p0.c2
  replace p1_0 := p1.c0
  replace p1_1 := p1.c1
  replace p1_2 := p1.c2
  clear hB
  go_wp2_with fail
  refine (error_same (flawE c0 sz0 dz0) _ hg).mono ?_
  rintro e v3 ⟨rfl, hB⟩
  replace hb : Hid (Below w.heap.size w v3) := hb.out.trans (hB.mono hb.out.size)
  replace hg := hg.go hB
  replace p0 := p0.go hB
  replace p1 := p1.go hB
  replace p0_0 := p0.c0
  replace p0_1 := p0.c1
  replace p0_2 := p0.c2
  replace p1_0 := p1.c0
  replace p1_1 := p1.c1
  replace p1_2 := p1.c2
  clear hB
  have te : (flawE c0 sz0 dz0 == 0) = true := by rw [F.out]; rfl
  have l0 := p0.lt
  have l1 := p1.lt
  have lg := hg.pos
  have ls := hb.out.size
  replace hb : Hid (Below w.heap.size w (v3.alloc (.cells #[.bool false, .slice none 0 0, .slice none 0 0] 24))) := hb.out.alloc hb.out.size _
  replace hg := hg.al (.cells #[.bool false, .slice none 0 0, .slice none 0 0] 24)
  replace p0 := p0.al (.cells #[.bool false, .slice none 0 0, .slice none 0 0] 24)
  replace p1 := p1.al (.cells #[.bool false, .slice none 0 0, .slice none 0 0] 24)
  replace p0_0 := p0.c0
  replace p0_1 := p0.c1
  replace p0_2 := p0.c2
  replace p1_0 := p1.c0
  replace p1_1 := p1.c1
  replace p1_2 := p1.c2
  have pz := Abx.new v3 (.bool false) (.slice none 0 0) (.slice none 0 0)
  have pz_0 := pz.c0
  have pz_1 := pz.c1
  have pz_2 := pz.c2
  go_wp2_with fail
  clear te
  refine (vector_any c0 da0 dc0 dz0 (by have := HL.out; omega) _ ((HI.out.1.2.below hb.out).mono hb.out.size)).mono ?_
  rintro e v4 ⟨fa, fc, ga, gc, rfl, hF, hG, hB⟩
  replace hb : Hid (Below w.heap.size w v4) := hb.out.trans (hB.mono hb.out.size)
  replace hg := hg.go hB
  replace p0 := p0.go hB
  replace p1 := p1.go hB
  replace pz := pz.go hB
  replace p0_0 := p0.c0
  replace p0_1 := p0.c1
  replace p0_2 := p0.c2
  replace p1_0 := p1.c0
  replace p1_1 := p1.c1
  replace p1_2 := p1.c2
  replace pz_0 := pz.c0
  replace pz_1 := pz.c1
  replace pz_2 := pz.c2
  clear hB
  have f_0 := pz.fr 0
  have f_1 := pz.fr 1
  have f_2 := pz.fr 2
  have P0 := p0.ot3 l0 (.bool c0) (.slice fa 1 fc) (.slice ga dz0.length gc)
  have P1 := p1.ot3 l1 (.bool c0) (.slice fa 1 fc) (.slice ga dz0.length gc)
  have PZ := pz.set3 (.bool c0) (.slice fa 1 fc) (.slice ga dz0.length gc)
  have HF := hF.set3 (b := v3.heap.size) (by simp) (.bool c0) (.slice fa 1 fc) (.slice ga dz0.length gc)
  have HG := hG.set3 (b := v3.heap.size) (by simp) (.bool c0) (.slice fa 1 fc) (.slice ga dz0.length gc)
  have Hg := hg.set3 lg (.bool c0) (.slice fa 1 fc) (.slice ga dz0.length gc)
  have Hb : Hid (Below w.heap.size w (((v4.setCell ⟨v3.heap.size, 0, none⟩ (.bool c0)).setCell ⟨v3.heap.size, 1, none⟩ (.slice fa 1 fc)).setCell ⟨v3.heap.size, 2, none⟩ (.slice ga dz0.length gc))) := bel_set3 hb.out ls (.bool c0) (.slice fa 1 fc) (.slice ga dz0.length gc)
  clear hb hg hF hG
  have qP0_0 := P0.c0
  have qP0_1 := P0.c1
  have qP0_2 := P0.c2
  have qP1_0 := P1.c0
  have qP1_1 := P1.c1
  have qP1_2 := P1.c2
  have qPZ_0 := PZ.c0
  have qPZ_1 := PZ.c1
  have qPZ_2 := PZ.c2
  go_wp2_with fail
  clear p0 p1 pz f_0 f_1 f_2 p0_0 p0_1 p0_2 p1_0 p1_1 p1_2 pz_0 pz_1 pz_2
  have hb := Hb
  have hg := Hg
  have hF := HF
  have hG := HG
  clear Hb Hg HF HG
  have p0 := P0
  have p1 := P1
  have pz := PZ
  clear P0 P1 PZ
  have p0_0 := qP0_0
  have p0_1 := qP0_1
  have p0_2 := qP0_2
  have p1_0 := qP1_0
  have p1_1 := qP1_1
  have p1_2 := qP1_2
  have pz_0 := qPZ_0
  have pz_1 := qPZ_1
  have pz_2 := qPZ_2
  clear qP0_0 qP0_1 qP0_2 qP1_0 qP1_1 qP1_2 qPZ_0 qPZ_1 qPZ_2
  refine (ravel_ok c0 sa0 sc0 sz0 da0 dc0 dz0 x1 x2 _ ((HI.out.1.1.below hb.out).mono hb.out.size) ((HI.out.1.2.below hb.out).mono hb.out.size) F.out).mono ?_
  rintro e v5 ⟨xa, xc, ya, yc, rfl, hX, hY, hB⟩
  replace hb : Hid (Below w.heap.size w v5) := hb.out.trans (hB.mono hb.out.size)
  replace hg := hg.go hB
  replace p0 := p0.go hB
  replace p1 := p1.go hB
  replace pz := pz.go hB
  replace hF := hF.go hB
  replace hG := hG.go hB
  replace p0_0 := p0.c0
  replace p0_1 := p0.c1
  replace p0_2 := p0.c2
  replace p1_0 := p1.c0
  replace p1_1 := p1.c1
  replace p1_2 := p1.c2
  replace pz_0 := pz.c0
  replace pz_1 := pz.c1
  replace pz_2 := pz.c2
  clear hB
  replace hb : Hid (Below w.heap.size w (v5.alloc (.cells #[.bool c0, .slice xa 1 xc, .slice ya dz0.length yc] 24))) := hb.out.alloc hb.out.size _
  replace hg := hg.al (.cells #[.bool c0, .slice xa 1 xc, .slice ya dz0.length yc] 24)
  replace p0 := p0.al (.cells #[.bool c0, .slice xa 1 xc, .slice ya dz0.length yc] 24)
  replace p1 := p1.al (.cells #[.bool c0, .slice xa 1 xc, .slice ya dz0.length yc] 24)
  replace pz := pz.al (.cells #[.bool c0, .slice xa 1 xc, .slice ya dz0.length yc] 24)
  replace hF := hF.al (.cells #[.bool c0, .slice xa 1 xc, .slice ya dz0.length yc] 24)
  replace hG := hG.al (.cells #[.bool c0, .slice xa 1 xc, .slice ya dz0.length yc] 24)
  replace hX := hX.al (.cells #[.bool c0, .slice xa 1 xc, .slice ya dz0.length yc] 24)
  replace hY := hY.al (.cells #[.bool c0, .slice xa 1 xc, .slice ya dz0.length yc] 24)
  replace p0_0 := p0.c0
  replace p0_1 := p0.c1
  replace p0_2 := p0.c2
  replace p1_0 := p1.c0
  replace p1_1 := p1.c1
  replace p1_2 := p1.c2
  replace pz_0 := pz.c0
  replace pz_1 := pz.c1
  replace pz_2 := pz.c2
  have pg := Abx.new v5 (.bool c0) (.slice xa 1 xc) (.slice ya dz0.length yc)
  have pg_0 := pg.c0
  have pg_1 := pg.c1
  have pg_2 := pg.c2
  go_wp2_with fail
  have he0 : errV (flawE c0 sz0 dz0) = .nilIface := by rw [F.out]; rfl
  have hes := error_same (flawE c0 sz0 dz0) (v5.alloc (.cells #[.bool c0, .slice xa 1 xc, .slice ya dz0.length yc] 24)) hg
  rw [he0] at hes
  clear he0
  refine (hes).mono ?_
  rintro e v6 ⟨rfl, hB⟩
  replace hb : Hid (Below w.heap.size w v6) := hb.out.trans (hB.mono hb.out.size)
  replace hg := hg.go hB
  replace p0 := p0.go hB
  replace p1 := p1.go hB
  replace pz := pz.go hB
  replace hF := hF.go hB
  replace hG := hG.go hB
  replace hX := hX.go hB
  replace hY := hY.go hB
  replace pg := pg.go hB
  replace p0_0 := p0.c0
  replace p0_1 := p0.c1
  replace p0_2 := p0.c2
  replace p1_0 := p1.c0
  replace p1_1 := p1.c1
  replace p1_2 := p1.c2
  replace pz_0 := pz.c0
  replace pz_1 := pz.c1
  replace pz_2 := pz.c2
  replace pg_0 := pg.c0
  replace pg_1 := pg.c1
  replace pg_2 := pg.c2
  clear hB
  clear hes
  go_wp2_with fail
  refine (sarr_self c0 xa xc [(dz0.length : Int)] ya yc dz0 fa fc ga gc (by simp) x2 _ hX.ints hY.ints hF.ints hG.ints).mono ?_
  rintro e v7 ⟨rfl, hB⟩
  replace hb : Hid (Below w.heap.size w v7) := hb.out.trans (hB.mono hb.out.size)
  replace hg := hg.go hB
  replace p0 := p0.go hB
  replace p1 := p1.go hB
  replace pz := pz.go hB
  replace hF := hF.go hB
  replace hG := hG.go hB
  replace hX := hX.go hB
  replace hY := hY.go hB
  replace pg := pg.go hB
  replace p0_0 := p0.c0
  replace p0_1 := p0.c1
  replace p0_2 := p0.c2
  replace p1_0 := p1.c0
  replace p1_1 := p1.c1
  replace p1_2 := p1.c2
  replace pz_0 := pz.c0
  replace pz_1 := pz.c1
  replace pz_2 := pz.c2
  replace pg_0 := pg.c0
  replace pg_1 := pg.c1
  replace pg_2 := pg.c2
  clear hB
  go_wp2_with fail
  refine (flaws_any c0 c1 sa0 sc0 sz0 da0 dc0 dz0 sa1 sc1 sz1 da1 dc1 dz1 x1 x2 y1 y2 _ ((HI.out.1.1.below hb.out).mono hb.out.size) ((HI.out.1.2.below hb.out).mono hb.out.size) ((HI.out.2.1.below hb.out).mono hb.out.size) ((HI.out.2.2.below hb.out).mono hb.out.size)).mono ?_
  rintro e v8 ⟨rfl, hB⟩
  replace hb : Hid (Below w.heap.size w v8) := hb.out.trans (hB.mono hb.out.size)
  replace hg := hg.go hB
  replace p0 := p0.go hB
  replace p1 := p1.go hB
  replace pz := pz.go hB
  replace hF := hF.go hB
  replace hG := hG.go hB
  replace hX := hX.go hB
  replace hY := hY.go hB
  replace pg := pg.go hB
  replace p0_0 := p0.c0
  replace p0_1 := p0.c1
  replace p0_2 := p0.c2
  replace p1_0 := p1.c0
  replace p1_1 := p1.c1
  replace p1_2 := p1.c2
  replace pz_0 := pz.c0
  replace pz_1 := pz.c1
  replace pz_2 := pz.c2
  replace pg_0 := pg.c0
  replace pg_1 := pg.c1
  replace pg_2 := pg.c2
  clear hB
  go_wp2_with fail
  refine (sarr_any c0 c1 sa0 sc0 sz0 da0 dc0 dz0 sa1 sc1 sz1 da1 dc1 dz1 x1 x2 _ ((HI.out.1.1.below hb.out).mono hb.out.size) ((HI.out.1.2.below hb.out).mono hb.out.size) ((HI.out.2.1.below hb.out).mono hb.out.size) ((HI.out.2.2.below hb.out).mono hb.out.size)).mono ?_
  rintro e v9 ⟨rfl, hB⟩
  replace hb : Hid (Below w.heap.size w v9) := hb.out.trans (hB.mono hb.out.size)
  replace hg := hg.go hB
  replace p0 := p0.go hB
  replace p1 := p1.go hB
  replace pz := pz.go hB
  replace hF := hF.go hB
  replace hG := hG.go hB
  replace hX := hX.go hB
  replace hY := hY.go hB
  replace pg := pg.go hB
  replace p0_0 := p0.c0
  replace p0_1 := p0.c1
  replace p0_2 := p0.c2
  replace p1_0 := p1.c0
  replace p1_1 := p1.c1
  replace p1_2 := p1.c2
  replace pz_0 := pz.c0
  replace pz_1 := pz.c1
  replace pz_2 := pz.c2
  replace pg_0 := pg.c0
  replace pg_1 := pg.c1
  replace pg_2 := pg.c2
  clear hB
  go_wp2_with fail
  refine (match_any c0 c1 sa0 sc0 sz0 da0 dc0 dz0 sa1 sc1 sz1 da1 dc1 dz1 x1 x2 y1 y2 _ ((HI.out.1.1.below hb.out).mono hb.out.size) ((HI.out.1.2.below hb.out).mono hb.out.size) ((HI.out.2.1.below hb.out).mono hb.out.size) ((HI.out.2.2.below hb.out).mono hb.out.size)).mono ?_
  rintro e v10 ⟨rfl, hB⟩
  replace hb : Hid (Below w.heap.size w v10) := hb.out.trans (hB.mono hb.out.size)
  replace hg := hg.go hB
  replace p0 := p0.go hB
  replace p1 := p1.go hB
  replace pz := pz.go hB
  replace hF := hF.go hB
  replace hG := hG.go hB
  replace hX := hX.go hB
  replace hY := hY.go hB
  replace pg := pg.go hB
  replace p0_0 := p0.c0
  replace p0_1 := p0.c1
  replace p0_2 := p0.c2
  replace p1_0 := p1.c0
  replace p1_1 := p1.c1
  replace p1_2 := p1.c2
  replace pz_0 := pz.c0
  replace pz_1 := pz.c1
  replace pz_2 := pz.c2
  replace pg_0 := pg.c0
  replace pg_1 := pg.c1
  replace pg_2 := pg.c2
  clear hB
  go_wp2_with fail
  refine (error_same (flawsE c0 sz0 dz0 c1 sz1 dz1) _ hg).mono ?_
  rintro e v11 ⟨rfl, hB⟩
  replace hb : Hid (Below w.heap.size w v11) := hb.out.trans (hB.mono hb.out.size)
  replace hg := hg.go hB
  replace p0 := p0.go hB
  replace p1 := p1.go hB
  replace pz := pz.go hB
  replace hF := hF.go hB
  replace hG := hG.go hB
  replace hX := hX.go hB
  replace hY := hY.go hB
  replace pg := pg.go hB
  replace p0_0 := p0.c0
  replace p0_1 := p0.c1
  replace p0_2 := p0.c2
  replace p1_0 := p1.c0
  replace p1_1 := p1.c1
  replace p1_2 := p1.c2
  replace pz_0 := pz.c0
  replace pz_1 := pz.c1
  replace pz_2 := pz.c2
  replace pg_0 := pg.c0
  replace pg_1 := pg.c1
  replace pg_2 := pg.c2
  clear hB
  rw [mtB_eq]
  generalize arrB c0 sz0 dz0 c1 sz1 dz1 = ab
  generalize flawsE c0 sz0 dz0 c1 sz1 dz1 = fe
  generalize hq : (fe == 0) = q
  cases ab <;> cases q
  all_goals
    go_wp2_with fail
    go_ret
    exact ⟨rfl, hb.out⟩
theorem checks_walk (c0 : Bool) (sa0 : Option Addr) (sc0 : Nat) (sz0 : List Int) (da0 : Option Addr) (dc0 : Nat) (dz0 : List Int) (c1 : Bool) (sa1 : Option Addr) (sc1 : Nat) (sz1 : List Int) (da1 : Option Addr) (dc1 : Nat) (dz1 : List Int) (w : World) (hg : HasErr w) (w0 : IsArr w sa0 sz0 da0 dz0) (w1 : IsArr w sa1 sz1 da1 dz1) :
    Calls Tryd.prog 3 #[.agg #[.bool c0, .slice sa0 sz0.length sc0, .slice da0 dz0.length dc0], .agg #[.bool c1, .slice sa1 sz1.length sc1, .slice da1 dz1.length dc1]] w fun e w' => e = .returned (.bool true) ∧ Below w.heap.size w w' := by
  by_cases f : flawE c0 sz0 dz0 = 0
  · exact checks_ok c0 sa0 sc0 sz0 da0 dc0 dz0 c1 sa1 sc1 sz1 da1 dc1 dz1 w hg w0 w1 f
  · exact checks_no c0 sa0 sc0 sz0 da0 dc0 dz0 c1 sa1 sc1 sz1 da1 dc1 dz1 w hg w0 w1 f
end Go.Proofs.YtkfdhnabhpnmcaaDoor
