/-
  The walk of the statement on an array in another shape.
-/
import Derived.Test.YthmiaiephkcdfaaDoorErr
import Derived.Test.YthmiaiephkcdfaaDoorFlaw
import Derived.Test.YthmiaiephkcdfaaDoorSarr
import Derived.Test.YthmiaiephkcdfaaDoorShaped
import Derived.Test.YthmiaiephkcdfaaDoorReshape
namespace Go.Proofs.YthmiaiephkcdfaaDoor
open Go.RowKit
set_option linter.unusedVariables false

theorem sarr_self (c : Bool) (sa : Option Addr) (sc : Nat) (sz : List Int) (da : Option Addr) (dc : Nat) (dz : List Int) (sa' : Option Addr) (sc' : Nat) (da' : Option Addr) (dc' : Nat)
    (h1 : sz.length ≤ 9223372036854775807) (h2 : dz.length ≤ 9223372036854775807) (w : World) (hs : IsInts w.heap.size w sa sz) (hd : IsInts w.heap.size w da dz) (hs' : IsInts w.heap.size w sa' sz) (hd' : IsInts w.heap.size w da' dz) :
    Calls Tryd.prog 9 #[.agg #[.bool c, .slice sa sz.length sc, .slice da dz.length dc], .agg #[.bool c, .slice sa' sz.length sc', .slice da' dz.length dc']] w fun e w' => e = .returned (.bool true) ∧ Below w.heap.size w w' :=
  (sarr_any c c sa sc sz da dc dz sa' sc' sz da' dc' dz h1 h2 w hs hd hs' hd').mono fun e w' ⟨h, hB⟩ => ⟨by rw [h, arrB_self], hB⟩
theorem no_ints (w : World) (a : Option Addr) : IsInts w.heap.size w a [] := .inl rfl
theorem fault_go (a : Option Addr) (cap : Nat) (zs : List Int) (h0 : zs.length ≤ 9223372036854775807) (w : World) (hI : IsInts w.heap.size w a zs) :
    Calls Tryd.prog 4 #[.slice a zs.length cap] w fun e w' => e = .returned (.int .i64 (errOf zs)) ∧ Below w.heap.size w w' :=
  (fault_any a cap zs h0 w.heap.size w hI).mono fun e w' ⟨h, hw⟩ => ⟨h, by rw [hw]; exact Below.refl _ _⟩
set_option maxRecDepth 100000 in
set_option maxHeartbeats 4000000 in
theorem shapes_no1 (a : Option Addr) (cap : Nat) (zs : List Int) (h0 : zs.length ≤ 9223372036854775807) (c1 : Bool) (sa1 : Option Addr) (sc1 : Nat) (sz1 : List Int) (da1 : Option Addr) (dc1 : Nat) (dz1 : List Int) (w : World) (hg : HasErr w) (hz : IsInts w.heap.size w a zs) (w1 : IsArr w sa1 sz1 da1 dz1) (F : Hid (errOf zs ≠ 0)) :
    Calls Tryd.prog 3 #[.slice a zs.length cap, .agg #[.bool c1, .slice sa1 sz1.length sc1, .slice da1 dz1.length dc1]] w fun e w' => e = .returned (.bool true) ∧ Below w.heap.size w w' := by
  obtain ⟨x1, x2, x3, x4, _, _⟩ := w1
  have HI : Hid (IsInts w.heap.size w a zs ∧ IsInts w.heap.size w sa1 sz1 ∧ IsInts w.heap.size w da1 dz1) := ⟨hz, x3, x4⟩
  clear x3 x4 hz
  replace hg := hg.al (.cells #[.bool c1, .slice sa1 sz1.length sc1, .slice da1 dz1.length dc1] 24)
  have hb : Hid (Below w.heap.size w (w.alloc (.cells #[.bool c1, .slice sa1 sz1.length sc1, .slice da1 dz1.length dc1] 24))) := (Below.refl _ w).alloc (Nat.le_refl _) _
  have p1 := Abx.new w (.bool c1) (.slice sa1 sz1.length sc1) (.slice da1 dz1.length dc1)
  have p1_0 := p1.c0
  have p1_1 := p1.c1
  have p1_2 := p1.c2
  go_enter Tryd.func3, Tryd.ntmps3
  go_wp2_with fail
  refine (fault_go a cap zs h0 _ ((HI.out.1.below hb.out).mono hb.out.size)).mono ?_
  rintro e v1 ⟨rfl, hB⟩
  replace hb : Hid (Below w.heap.size w v1) := hb.out.trans (hB.mono hb.out.size)
  replace hg := hg.go hB
  replace p1 := p1.go hB
  replace p1_0 := p1.c0
  replace p1_1 := p1.c1
  replace p1_2 := p1.c2
  clear hB
  have te : (errOf zs == 0) = false := by rw [beq_eq_false_iff_ne]; exact F.out
  replace hb : Hid (Below w.heap.size w (v1.alloc (.cells #[.bool false, .slice none 0 0, .slice none 0 0] 24))) := hb.out.alloc hb.out.size _
  replace hg := hg.al (.cells #[.bool false, .slice none 0 0, .slice none 0 0] 24)
  replace p1 := p1.al (.cells #[.bool false, .slice none 0 0, .slice none 0 0] 24)
  replace p1_0 := p1.c0
  replace p1_1 := p1.c1
  replace p1_2 := p1.c2
  have pz := Abx.new v1 (.bool false) (.slice none 0 0) (.slice none 0 0)
  have pz_0 := pz.c0
  have pz_1 := pz.c1
  have pz_2 := pz.c2
  go_wp2_with fail
  refine (reshape_no1 a cap zs c1 sa1 sc1 sz1 da1 dc1 dz1 h0 _ ((HI.out.1.below hb.out).mono hb.out.size) F.out).mono ?_
  rintro e v2 ⟨rfl, hB⟩
  replace hb : Hid (Below w.heap.size w v2) := hb.out.trans (hB.mono hb.out.size)
  replace hg := hg.go hB
  replace p1 := p1.go hB
  replace pz := pz.go hB
  replace p1_0 := p1.c0
  replace p1_1 := p1.c1
  replace p1_2 := p1.c2
  replace pz_0 := pz.c0
  replace pz_1 := pz.c1
  replace pz_2 := pz.c2
  clear hB
  replace hb : Hid (Below w.heap.size w (v2.alloc (.cells #[.bool false, .slice none 0 0, .slice none 0 0] 24))) := hb.out.alloc hb.out.size _
  replace hg := hg.al (.cells #[.bool false, .slice none 0 0, .slice none 0 0] 24)
  replace p1 := p1.al (.cells #[.bool false, .slice none 0 0, .slice none 0 0] 24)
  replace pz := pz.al (.cells #[.bool false, .slice none 0 0, .slice none 0 0] 24)
  replace p1_0 := p1.c0
  replace p1_1 := p1.c1
  replace p1_2 := p1.c2
  replace pz_0 := pz.c0
  replace pz_1 := pz.c1
  replace pz_2 := pz.c2
  have pg := Abx.new v2 (.bool false) (.slice none 0 0) (.slice none 0 0)
  have pg_0 := pg.c0
  have pg_1 := pg.c1
  have pg_2 := pg.c2
  go_wp2_with fail
  rw [show Value.iface 25 (.int .i64 (errOf zs)) = errV (errOf zs) from (errV_pos F.out).symm]
  refine (error_same (errOf zs) _ hg).mono ?_
  rintro e v3 ⟨rfl, hB⟩
  replace hb : Hid (Below w.heap.size w v3) := hb.out.trans (hB.mono hb.out.size)
  replace hg := hg.go hB
  replace p1 := p1.go hB
  replace pz := pz.go hB
  replace pg := pg.go hB
  replace p1_0 := p1.c0
  replace p1_1 := p1.c1
  replace p1_2 := p1.c2
  replace pz_0 := pz.c0
  replace pz_1 := pz.c1
  replace pz_2 := pz.c2
  replace pg_0 := pg.c0
  replace pg_1 := pg.c1
  replace pg_2 := pg.c2
  clear hB
  go_wp2_with fail
  refine (sarr_self false none 0 [] none 0 [] none 0 none 0 (by simp) (by simp) _ (no_ints _ _) (no_ints _ _) (no_ints _ _) (no_ints _ _)).mono ?_
  rintro e v4 ⟨rfl, hB⟩
  replace hb : Hid (Below w.heap.size w v4) := hb.out.trans (hB.mono hb.out.size)
  replace hg := hg.go hB
  replace p1 := p1.go hB
  replace pz := pz.go hB
  replace pg := pg.go hB
  replace p1_0 := p1.c0
  replace p1_1 := p1.c1
  replace p1_2 := p1.c2
  replace pz_0 := pz.c0
  replace pz_1 := pz.c1
  replace pz_2 := pz.c2
  replace pg_0 := pg.c0
  replace pg_1 := pg.c1
  replace pg_2 := pg.c2
  clear hB
  go_wp2_with fail
  go_ret
  exact ⟨rfl, hb.out⟩
set_option maxRecDepth 100000 in
set_option maxHeartbeats 4000000 in
theorem shapes_no2 (a : Option Addr) (cap : Nat) (zs : List Int) (h0 : zs.length ≤ 9223372036854775807) (c1 : Bool) (sa1 : Option Addr) (sc1 : Nat) (sz1 : List Int) (da1 : Option Addr) (dc1 : Nat) (dz1 : List Int) (w : World) (hg : HasErr w) (hz : IsInts w.heap.size w a zs) (w1 : IsArr w sa1 sz1 da1 dz1) (E : Hid (errOf zs = 0)) (F : Hid (flawE c1 sz1 dz1 ≠ 0)) :
    Calls Tryd.prog 3 #[.slice a zs.length cap, .agg #[.bool c1, .slice sa1 sz1.length sc1, .slice da1 dz1.length dc1]] w fun e w' => e = .returned (.bool true) ∧ Below w.heap.size w w' := by
  obtain ⟨x1, x2, x3, x4, _, _⟩ := w1
  have HI : Hid (IsInts w.heap.size w a zs ∧ IsInts w.heap.size w sa1 sz1 ∧ IsInts w.heap.size w da1 dz1) := ⟨hz, x3, x4⟩
  clear x3 x4 hz
  replace hg := hg.al (.cells #[.bool c1, .slice sa1 sz1.length sc1, .slice da1 dz1.length dc1] 24)
  have hb : Hid (Below w.heap.size w (w.alloc (.cells #[.bool c1, .slice sa1 sz1.length sc1, .slice da1 dz1.length dc1] 24))) := (Below.refl _ w).alloc (Nat.le_refl _) _
  have p1 := Abx.new w (.bool c1) (.slice sa1 sz1.length sc1) (.slice da1 dz1.length dc1)
  have p1_0 := p1.c0
  have p1_1 := p1.c1
  have p1_2 := p1.c2
  go_enter Tryd.func3, Tryd.ntmps3
  go_wp2_with fail
  refine (fault_go a cap zs h0 _ ((HI.out.1.below hb.out).mono hb.out.size)).mono ?_
  rintro e v1 ⟨rfl, hB⟩
  replace hb : Hid (Below w.heap.size w v1) := hb.out.trans (hB.mono hb.out.size)
  replace hg := hg.go hB
  replace p1 := p1.go hB
  replace p1_0 := p1.c0
  replace p1_1 := p1.c1
  replace p1_2 := p1.c2
  clear hB
  rw [E.out]
  go_wp2_with fail
  refine (flaw_any c1 sa1 sc1 sz1 da1 dc1 dz1 x1 x2 _ ((HI.out.2.1.below hb.out).mono hb.out.size) ((HI.out.2.2.below hb.out).mono hb.out.size)).mono ?_
  rintro e v2 ⟨rfl, hB⟩
  replace hb : Hid (Below w.heap.size w v2) := hb.out.trans (hB.mono hb.out.size)
  replace hg := hg.go hB
  replace p1 := p1.go hB
  replace p1_0 := p1.c0
  replace p1_1 := p1.c1
  replace p1_2 := p1.c2
  clear hB
  have te : (flawE c1 sz1 dz1 == 0) = false := by rw [beq_eq_false_iff_ne]; exact F.out
  replace hb : Hid (Below w.heap.size w (v2.alloc (.cells #[.bool false, .slice none 0 0, .slice none 0 0] 24))) := hb.out.alloc hb.out.size _
  replace hg := hg.al (.cells #[.bool false, .slice none 0 0, .slice none 0 0] 24)
  replace p1 := p1.al (.cells #[.bool false, .slice none 0 0, .slice none 0 0] 24)
  replace p1_0 := p1.c0
  replace p1_1 := p1.c1
  replace p1_2 := p1.c2
  have pz := Abx.new v2 (.bool false) (.slice none 0 0) (.slice none 0 0)
  have pz_0 := pz.c0
  have pz_1 := pz.c1
  have pz_2 := pz.c2
  go_wp2_with fail
  refine (reshape_no2 a cap zs c1 sa1 sc1 sz1 da1 dc1 dz1 h0 x1 x2 _ ((HI.out.1.below hb.out).mono hb.out.size) ((HI.out.2.1.below hb.out).mono hb.out.size) ((HI.out.2.2.below hb.out).mono hb.out.size) E.out F.out).mono ?_
  rintro e v3 ⟨rfl, hB⟩
  replace hb : Hid (Below w.heap.size w v3) := hb.out.trans (hB.mono hb.out.size)
  replace hg := hg.go hB
  replace p1 := p1.go hB
  replace pz := pz.go hB
  replace p1_0 := p1.c0
  replace p1_1 := p1.c1
  replace p1_2 := p1.c2
  replace pz_0 := pz.c0
  replace pz_1 := pz.c1
  replace pz_2 := pz.c2
  clear hB
  replace hb : Hid (Below w.heap.size w (v3.alloc (.cells #[.bool false, .slice none 0 0, .slice none 0 0] 24))) := hb.out.alloc hb.out.size _
  replace hg := hg.al (.cells #[.bool false, .slice none 0 0, .slice none 0 0] 24)
  replace p1 := p1.al (.cells #[.bool false, .slice none 0 0, .slice none 0 0] 24)
  replace pz := pz.al (.cells #[.bool false, .slice none 0 0, .slice none 0 0] 24)
  replace p1_0 := p1.c0
  replace p1_1 := p1.c1
  replace p1_2 := p1.c2
  replace pz_0 := pz.c0
  replace pz_1 := pz.c1
  replace pz_2 := pz.c2
  have pg := Abx.new v3 (.bool false) (.slice none 0 0) (.slice none 0 0)
  have pg_0 := pg.c0
  have pg_1 := pg.c1
  have pg_2 := pg.c2
  go_wp2_with fail
  rw [show Value.iface 25 (.int .i64 (flawE c1 sz1 dz1)) = errV (flawE c1 sz1 dz1) from (errV_pos F.out).symm]
  refine (error_same (flawE c1 sz1 dz1) _ hg).mono ?_
  rintro e v4 ⟨rfl, hB⟩
  replace hb : Hid (Below w.heap.size w v4) := hb.out.trans (hB.mono hb.out.size)
  replace hg := hg.go hB
  replace p1 := p1.go hB
  replace pz := pz.go hB
  replace pg := pg.go hB
  replace p1_0 := p1.c0
  replace p1_1 := p1.c1
  replace p1_2 := p1.c2
  replace pz_0 := pz.c0
  replace pz_1 := pz.c1
  replace pz_2 := pz.c2
  replace pg_0 := pg.c0
  replace pg_1 := pg.c1
  replace pg_2 := pg.c2
  clear hB
  go_wp2_with fail
  refine (sarr_self false none 0 [] none 0 [] none 0 none 0 (by simp) (by simp) _ (no_ints _ _) (no_ints _ _) (no_ints _ _) (no_ints _ _)).mono ?_
  rintro e v5 ⟨rfl, hB⟩
  replace hb : Hid (Below w.heap.size w v5) := hb.out.trans (hB.mono hb.out.size)
  replace hg := hg.go hB
  replace p1 := p1.go hB
  replace pz := pz.go hB
  replace pg := pg.go hB
  replace p1_0 := p1.c0
  replace p1_1 := p1.c1
  replace p1_2 := p1.c2
  replace pz_0 := pz.c0
  replace pz_1 := pz.c1
  replace pz_2 := pz.c2
  replace pg_0 := pg.c0
  replace pg_1 := pg.c1
  replace pg_2 := pg.c2
  clear hB
  go_wp2_with fail
  go_ret
  exact ⟨rfl, hb.out⟩
set_option maxRecDepth 100000 in
set_option maxHeartbeats 4000000 in
theorem shapes_ok (a : Option Addr) (cap : Nat) (zs : List Int) (h0 : zs.length ≤ 9223372036854775807) (c1 : Bool) (sa1 : Option Addr) (sc1 : Nat) (sz1 : List Int) (da1 : Option Addr) (dc1 : Nat) (dz1 : List Int) (w : World) (hg : HasErr w) (hz : IsInts w.heap.size w a zs) (w1 : IsArr w sa1 sz1 da1 dz1) (n : Nat) (E : Hid (errOf zs = 0)) (F : Hid (flawE c1 sz1 dz1 = 0)) (M : Hid ((n : Int) = prod zs ∧ zs.length ≤ 6 ∧ n ≤ 4096)) :
    Calls Tryd.prog 3 #[.slice a zs.length cap, .agg #[.bool c1, .slice sa1 sz1.length sc1, .slice da1 dz1.length dc1]] w fun e w' => e = .returned (.bool true) ∧ Below w.heap.size w w' := by
  obtain ⟨x1, x2, x3, x4, _, _⟩ := w1
  have HI : Hid (IsInts w.heap.size w a zs ∧ IsInts w.heap.size w sa1 sz1 ∧ IsInts w.heap.size w da1 dz1) := ⟨hz, x3, x4⟩
  clear x3 x4 hz
  replace hg := hg.al (.cells #[.bool c1, .slice sa1 sz1.length sc1, .slice da1 dz1.length dc1] 24)
  have hb : Hid (Below w.heap.size w (w.alloc (.cells #[.bool c1, .slice sa1 sz1.length sc1, .slice da1 dz1.length dc1] 24))) := (Below.refl _ w).alloc (Nat.le_refl _) _
  have p1 := Abx.new w (.bool c1) (.slice sa1 sz1.length sc1) (.slice da1 dz1.length dc1)
  have p1_0 := p1.c0
  have p1_1 := p1.c1
  have p1_2 := p1.c2
  go_enter Tryd.func3, Tryd.ntmps3
  go_wp2_with fail
  refine (fault_go a cap zs h0 _ ((HI.out.1.below hb.out).mono hb.out.size)).mono ?_
  rintro e v1 ⟨rfl, hB⟩
  replace hb : Hid (Below w.heap.size w v1) := hb.out.trans (hB.mono hb.out.size)
  replace hg := hg.go hB
  replace p1 := p1.go hB
  replace p1_0 := p1.c0
  replace p1_1 := p1.c1
  replace p1_2 := p1.c2
  clear hB
  rw [E.out]
  go_wp2_with fail
  refine (flaw_any c1 sa1 sc1 sz1 da1 dc1 dz1 x1 x2 _ ((HI.out.2.1.below hb.out).mono hb.out.size) ((HI.out.2.2.below hb.out).mono hb.out.size)).mono ?_
  rintro e v2 ⟨rfl, hB⟩
  replace hb : Hid (Below w.heap.size w v2) := hb.out.trans (hB.mono hb.out.size)
  replace hg := hg.go hB
  replace p1 := p1.go hB
  replace p1_0 := p1.c0
  replace p1_1 := p1.c1
  replace p1_2 := p1.c2
  clear hB
  rw [F.out]
  have l_p1 := p1.lt
  have l_hg := hg.pos
  have l_s := hb.out.size
  replace hb : Hid (Below w.heap.size w (v2.alloc (.cells #[.bool false, .slice none 0 0, .slice none 0 0] 24))) := hb.out.alloc hb.out.size _
  replace hg := hg.al (.cells #[.bool false, .slice none 0 0, .slice none 0 0] 24)
  replace p1 := p1.al (.cells #[.bool false, .slice none 0 0, .slice none 0 0] 24)
  replace p1_0 := p1.c0
  replace p1_1 := p1.c1
  replace p1_2 := p1.c2
  have pz := Abx.new v2 (.bool false) (.slice none 0 0) (.slice none 0 0)
  have pz_0 := pz.c0
  have pz_1 := pz.c1
  have pz_2 := pz.c2
  go_wp2_with fail
  refine (shaped_any a cap zs n c1 sa1 sc1 sz1 da1 dc1 dz1 M.out.2.1 M.out.2.2 x2 _ ((HI.out.1.below hb.out).mono hb.out.size) ((HI.out.2.2.below hb.out).mono hb.out.size) E.out M.out.1).mono ?_
  rintro e v3 ⟨ta, tc, ua, uc, rfl, hT, hU, hB⟩
  replace hb : Hid (Below w.heap.size w v3) := hb.out.trans (hB.mono hb.out.size)
  replace hg := hg.go hB
  replace p1 := p1.go hB
  replace pz := pz.go hB
  replace p1_0 := p1.c0
  replace p1_1 := p1.c1
  replace p1_2 := p1.c2
  replace pz_0 := pz.c0
  replace pz_1 := pz.c1
  replace pz_2 := pz.c2
  clear hB
  have fz_0 := pz.fr 0
  have fz_1 := pz.fr 1
  have fz_2 := pz.fr 2
  have N_hg := hg.set3 l_hg (.bool c1) (.slice ta zs.length tc) (.slice ua (cyc dz1 n (fillE c1)).length uc)
  have N_p1 := p1.ot3 l_p1 (.bool c1) (.slice ta zs.length tc) (.slice ua (cyc dz1 n (fillE c1)).length uc)
  have N_pz := pz.set3 (.bool c1) (.slice ta zs.length tc) (.slice ua (cyc dz1 n (fillE c1)).length uc)
  have N_hT := hT.set3 (b := v2.heap.size) (by simp) (.bool c1) (.slice ta zs.length tc) (.slice ua (cyc dz1 n (fillE c1)).length uc)
  have N_hU := hU.set3 (b := v2.heap.size) (by simp) (.bool c1) (.slice ta zs.length tc) (.slice ua (cyc dz1 n (fillE c1)).length uc)
  have N_hb : Hid (Below w.heap.size w (((v3.setCell ⟨v2.heap.size, 0, none⟩ (.bool c1)).setCell ⟨v2.heap.size, 1, none⟩ (.slice ta zs.length tc)).setCell ⟨v2.heap.size, 2, none⟩ (.slice ua (cyc dz1 n (fillE c1)).length uc))) := bel_set3 hb.out l_s (.bool c1) (.slice ta zs.length tc) (.slice ua (cyc dz1 n (fillE c1)).length uc)
  have N_p1_0 := N_p1.c0
  have N_p1_1 := N_p1.c1
  have N_p1_2 := N_p1.c2
  have N_pz_0 := N_pz.c0
  have N_pz_1 := N_pz.c1
  have N_pz_2 := N_pz.c2
  go_wp2_with fail
  clear fz_0 fz_1 fz_2 hb l_s l_hg l_p1 hg p1 pz hT hU p1_0 p1_1 p1_2 pz_0 pz_1 pz_2
  have hb := N_hb
  have hg := N_hg
  have p1 := N_p1
  have pz := N_pz
  have hT := N_hT
  have hU := N_hU
  have p1_0 := N_p1_0
  have p1_1 := N_p1_1
  have p1_2 := N_p1_2
  have pz_0 := N_pz_0
  have pz_1 := N_pz_1
  have pz_2 := N_pz_2
  clear N_hb N_hg N_p1 N_pz N_hT N_hU N_p1_0 N_p1_1 N_p1_2 N_pz_0 N_pz_1 N_pz_2
  refine (reshape_ok a cap zs n c1 sa1 sc1 sz1 da1 dc1 dz1 h0 x1 x2 _ ((HI.out.1.below hb.out).mono hb.out.size) ((HI.out.2.1.below hb.out).mono hb.out.size) ((HI.out.2.2.below hb.out).mono hb.out.size) E.out M.out.1 F.out).mono ?_
  rintro e v4 ⟨xa, xc, ya, yc, rfl, hX, hY, hB⟩
  replace hb : Hid (Below w.heap.size w v4) := hb.out.trans (hB.mono hb.out.size)
  replace hg := hg.go hB
  replace p1 := p1.go hB
  replace pz := pz.go hB
  replace hT := hT.go hB
  replace hU := hU.go hB
  replace p1_0 := p1.c0
  replace p1_1 := p1.c1
  replace p1_2 := p1.c2
  replace pz_0 := pz.c0
  replace pz_1 := pz.c1
  replace pz_2 := pz.c2
  clear hB
  replace hb : Hid (Below w.heap.size w (v4.alloc (.cells #[.bool c1, .slice xa zs.length xc, .slice ya (cyc dz1 n (fillE c1)).length yc] 24))) := hb.out.alloc hb.out.size _
  replace hg := hg.al (.cells #[.bool c1, .slice xa zs.length xc, .slice ya (cyc dz1 n (fillE c1)).length yc] 24)
  replace p1 := p1.al (.cells #[.bool c1, .slice xa zs.length xc, .slice ya (cyc dz1 n (fillE c1)).length yc] 24)
  replace pz := pz.al (.cells #[.bool c1, .slice xa zs.length xc, .slice ya (cyc dz1 n (fillE c1)).length yc] 24)
  replace hT := hT.al (.cells #[.bool c1, .slice xa zs.length xc, .slice ya (cyc dz1 n (fillE c1)).length yc] 24)
  replace hU := hU.al (.cells #[.bool c1, .slice xa zs.length xc, .slice ya (cyc dz1 n (fillE c1)).length yc] 24)
  replace hX := hX.al (.cells #[.bool c1, .slice xa zs.length xc, .slice ya (cyc dz1 n (fillE c1)).length yc] 24)
  replace hY := hY.al (.cells #[.bool c1, .slice xa zs.length xc, .slice ya (cyc dz1 n (fillE c1)).length yc] 24)
  replace p1_0 := p1.c0
  replace p1_1 := p1.c1
  replace p1_2 := p1.c2
  replace pz_0 := pz.c0
  replace pz_1 := pz.c1
  replace pz_2 := pz.c2
  have pg := Abx.new v4 (.bool c1) (.slice xa zs.length xc) (.slice ya (cyc dz1 n (fillE c1)).length yc)
  have pg_0 := pg.c0
  have pg_1 := pg.c1
  have pg_2 := pg.c2
  go_wp2_with fail
  have hes : Calls Tryd.prog 8 #[.nilIface, .int .i64 0] _ _ := error_same 0 (v4.alloc (.cells #[.bool c1, .slice xa zs.length xc, .slice ya (cyc dz1 n (fillE c1)).length yc] 24)) hg
  refine (hes).mono ?_
  rintro e v5 ⟨rfl, hB⟩
  replace hb : Hid (Below w.heap.size w v5) := hb.out.trans (hB.mono hb.out.size)
  replace hg := hg.go hB
  replace p1 := p1.go hB
  replace pz := pz.go hB
  replace hT := hT.go hB
  replace hU := hU.go hB
  replace hX := hX.go hB
  replace hY := hY.go hB
  replace pg := pg.go hB
  replace p1_0 := p1.c0
  replace p1_1 := p1.c1
  replace p1_2 := p1.c2
  replace pz_0 := pz.c0
  replace pz_1 := pz.c1
  replace pz_2 := pz.c2
  replace pg_0 := pg.c0
  replace pg_1 := pg.c1
  replace pg_2 := pg.c2
  clear hB
  clear hes
  go_wp2_with fail
  refine (sarr_self c1 xa xc zs ya yc (cyc dz1 n (fillE c1)) ta tc ua uc h0 (by rw [cyc_length]; have := M.out.2.2; omega) _ hX.ints hY.ints hT.ints hU.ints).mono ?_
  rintro e v6 ⟨rfl, hB⟩
  replace hb : Hid (Below w.heap.size w v6) := hb.out.trans (hB.mono hb.out.size)
  replace hg := hg.go hB
  replace p1 := p1.go hB
  replace pz := pz.go hB
  replace hT := hT.go hB
  replace hU := hU.go hB
  replace hX := hX.go hB
  replace hY := hY.go hB
  replace pg := pg.go hB
  replace p1_0 := p1.c0
  replace p1_1 := p1.c1
  replace p1_2 := p1.c2
  replace pz_0 := pz.c0
  replace pz_1 := pz.c1
  replace pz_2 := pz.c2
  replace pg_0 := pg.c0
  replace pg_1 := pg.c1
  replace pg_2 := pg.c2
  clear hB
  go_wp2_with fail
  go_ret
  exact ⟨rfl, hb.out⟩
theorem shapes_walk (a : Option Addr) (cap : Nat) (zs : List Int) (h0 : zs.length ≤ 9223372036854775807) (c1 : Bool) (sa1 : Option Addr) (sc1 : Nat) (sz1 : List Int) (da1 : Option Addr) (dc1 : Nat) (dz1 : List Int) (w : World) (hg : HasErr w) (hz : IsInts w.heap.size w a zs) (w1 : IsArr w sa1 sz1 da1 dz1) :
    Calls Tryd.prog 3 #[.slice a zs.length cap, .agg #[.bool c1, .slice sa1 sz1.length sc1, .slice da1 dz1.length dc1]] w fun e w' => e = .returned (.bool true) ∧ Below w.heap.size w w' := by
  by_cases e : errOf zs = 0
  · by_cases f : flawE c1 sz1 dz1 = 0
    · obtain ⟨n, hn, h4⟩ := count_nat e
      exact shapes_ok a cap zs h0 c1 sa1 sc1 sz1 da1 dc1 dz1 w hg hz w1 n e f ⟨hn, (errOf_zero.1 e).1, h4⟩
    · exact shapes_no2 a cap zs h0 c1 sa1 sc1 sz1 da1 dc1 dz1 w hg hz w1 e f
  · exact shapes_no1 a cap zs h0 c1 sa1 sc1 sz1 da1 dc1 dz1 w hg hz w1 e
end Go.Proofs.YthmiaiephkcdfaaDoor
