/-
  The walk of the statement that cells come round and round.
-/
import Derived.Deep.QuietTactic
import Derived.BigQuiet
import Derived.Test.YthmiaiephkcdfaaIota
import Derived.Test.YthmiaiephkcdfaaReshape
import Derived.Test.YthmiaiephkcdfaaCycm
namespace Go.Proofs.Ythmiaiephkcdfaa
open Go.RowKit
set_option linter.unusedVariables false

theorem ints_self (a : Option Addr) (cap : Nat) (a' : Option Addr) (cap' : Nat) (us : List Int) (hreach : us.length ≤ 9223372036854775807) (n₀ : Nat) (w : World) (hI : IsInts n₀ w a us) (hI' : IsInts n₀ w a' us) :
    Calls Try.prog 7 #[.slice a us.length cap, .slice a' us.length cap'] w fun e w' => e = .returned (.bool true) ∧ Below w.heap.size w w' :=
  (ints_any a cap us a' cap' us hreach n₀ w hI hI').mono fun e w' ⟨h1, h2⟩ => ⟨by rw [h1, eqB_true rfl], h2⟩
set_option maxRecDepth 100000 in
set_option maxHeartbeats 4000000 in
theorem cycles_no (a : Option Addr) (cap : Nat) (zs : List Int) (h0 : zs.length ≤ 9223372036854775807) (c1 : Bool) (sa1 : Option Addr) (sc1 : Nat) (sz1 : List Int) (da1 : Option Addr) (dc1 : Nat) (dz1 : List Int) (at' : Int) (ha1 : -9223372036854775808 ≤ at') (ha2 : at' ≤ 9223372036854775807) (w : World) (hz : IsInts w.heap.size w a zs) (w1 : IsArr w sa1 sz1 da1 dz1) (F : Hid (rshE zs c1 sz1 dz1 ≠ 0)) :
    Calls Try.prog 4 #[.slice a zs.length cap, .agg #[.bool c1, .slice sa1 sz1.length sc1, .slice da1 dz1.length dc1], .int .i64 at'] w fun e w' => e = .returned (.bool true) ∧ Below w.heap.size w w' := by
  obtain ⟨x1, x2, x3, x4, _, _⟩ := w1
  have HI : Hid (IsInts w.heap.size w a zs ∧ IsInts w.heap.size w sa1 sz1 ∧ IsInts w.heap.size w da1 dz1) := ⟨hz, x3, x4⟩
  clear x3 x4 hz
  have hb : Hid (Below w.heap.size w (w.alloc (.cells #[.bool c1, .slice sa1 sz1.length sc1, .slice da1 dz1.length dc1] 24))) := (Below.refl _ w).alloc (Nat.le_refl _) _
  have p1 := Abx.new w (.bool c1) (.slice sa1 sz1.length sc1) (.slice da1 dz1.length dc1)
  go_enter Try.func4, Try.ntmps4
  go_wp2_with fail
  refine (iota_ok 2 (by omega) _).mono ?_
  rintro e v1 ⟨fa, fc, ga, gc, rfl, _, _, hB⟩
  replace hb : Hid (Below w.heap.size w v1) := hb.out.trans (hB.mono hb.out.size)
  replace p1 := p1.go hB
  clear hB
  replace hb : Hid (Below w.heap.size w (v1.alloc (.cells #[.bool false, .slice fa 1 fc, .slice ga 2 gc] 24))) := hb.out.alloc hb.out.size _
  replace p1 := p1.al (.cells #[.bool false, .slice fa 1 fc, .slice ga 2 gc] 24)
  have p1_0 := p1.c0
  have p1_1 := p1.c1
  have p1_2 := p1.c2
  go_wp2_with fail
  refine (reshape_no a cap zs c1 sa1 sc1 sz1 da1 dc1 dz1 h0 x1 x2 _ ((HI.out.1.below hb.out).mono hb.out.size) ((HI.out.2.1.below hb.out).mono hb.out.size) ((HI.out.2.2.below hb.out).mono hb.out.size) F.out).mono ?_
  rintro e v2 ⟨rfl, hB⟩
  replace hb : Hid (Below w.heap.size w v2) := hb.out.trans (hB.mono hb.out.size)
  replace p1 := p1.go hB
  replace p1_0 := p1.c0
  replace p1_1 := p1.c1
  replace p1_2 := p1.c2
  clear hB
  go_wp2_with fail
  go_ret
  exact ⟨rfl, hb.out.alloc hb.out.size _⟩
set_option maxRecDepth 100000 in
set_option maxHeartbeats 4000000 in
theorem cycles_low (a : Option Addr) (cap : Nat) (zs : List Int) (h0 : zs.length ≤ 9223372036854775807) (c1 : Bool) (sa1 : Option Addr) (sc1 : Nat) (sz1 : List Int) (da1 : Option Addr) (dc1 : Nat) (dz1 : List Int) (at' : Int) (ha1 : -9223372036854775808 ≤ at') (ha2 : at' ≤ 9223372036854775807) (w : World) (hz : IsInts w.heap.size w a zs) (w1 : IsArr w sa1 sz1 da1 dz1) (n : Nat) (F : Hid (errOf zs = 0 ∧ flawE c1 sz1 dz1 = 0)) (N : Hid ((n : Int) = prod zs)) (h : at' < 0) :
    Calls Try.prog 4 #[.slice a zs.length cap, .agg #[.bool c1, .slice sa1 sz1.length sc1, .slice da1 dz1.length dc1], .int .i64 at'] w fun e w' => e = .returned (.bool true) ∧ Below w.heap.size w w' := by
  obtain ⟨x1, x2, x3, x4, _, _⟩ := w1
  have HI : Hid (IsInts w.heap.size w a zs ∧ IsInts w.heap.size w sa1 sz1 ∧ IsInts w.heap.size w da1 dz1) := ⟨hz, x3, x4⟩
  clear x3 x4 hz
  have hb : Hid (Below w.heap.size w (w.alloc (.cells #[.bool c1, .slice sa1 sz1.length sc1, .slice da1 dz1.length dc1] 24))) := (Below.refl _ w).alloc (Nat.le_refl _) _
  have p1 := Abx.new w (.bool c1) (.slice sa1 sz1.length sc1) (.slice da1 dz1.length dc1)
  go_enter Try.func4, Try.ntmps4
  go_wp2_with fail
  refine (iota_ok 2 (by omega) _).mono ?_
  rintro e v1 ⟨fa, fc, ga, gc, rfl, _, _, hB⟩
  replace hb : Hid (Below w.heap.size w v1) := hb.out.trans (hB.mono hb.out.size)
  replace p1 := p1.go hB
  clear hB
  replace hb : Hid (Below w.heap.size w (v1.alloc (.cells #[.bool false, .slice fa 1 fc, .slice ga 2 gc] 24))) := hb.out.alloc hb.out.size _
  replace p1 := p1.al (.cells #[.bool false, .slice fa 1 fc, .slice ga 2 gc] 24)
  have p1_0 := p1.c0
  have p1_1 := p1.c1
  have p1_2 := p1.c2
  go_wp2_with fail
  refine (reshape_ok a cap zs n c1 sa1 sc1 sz1 da1 dc1 dz1 h0 x1 x2 _ ((HI.out.1.below hb.out).mono hb.out.size) ((HI.out.2.1.below hb.out).mono hb.out.size) ((HI.out.2.2.below hb.out).mono hb.out.size) F.out.1 N.out F.out.2).mono ?_
  rintro e v2 ⟨xa, xc, ya, yc, he, hX, hY, hB⟩
  replace hb : Hid (Below w.heap.size w v2) := hb.out.trans (hB.mono hb.out.size)
  replace p1 := p1.go hB
  replace p1_0 := p1.c0
  replace p1_1 := p1.c1
  replace p1_2 := p1.c2
  clear hB
  rw [cyc_length] at he
  subst he
  replace hb : Hid (Below w.heap.size w (v2.alloc (.cells #[.bool c1, .slice xa zs.length xc, .slice ya n yc] 24))) := hb.out.alloc hb.out.size _
  replace p1 := p1.al (.cells #[.bool c1, .slice xa zs.length xc, .slice ya n yc] 24)
  replace hX := hX.al (.cells #[.bool c1, .slice xa zs.length xc, .slice ya n yc] 24)
  replace hY := hY.al (.cells #[.bool c1, .slice xa zs.length xc, .slice ya n yc] 24)
  replace p1_0 := p1.c0
  replace p1_1 := p1.c1
  replace p1_2 := p1.c2
  have px := Abx.new v2 (.bool c1) (.slice xa zs.length xc) (.slice ya n yc)
  have px_0 := px.c0
  have px_1 := px.c1
  have px_2 := px.c2
  go_wp2_with fail
  refine (count_n a cap zs n h0 _ ((HI.out.1.below hb.out).mono hb.out.size) F.out.1 N.out).mono ?_
  rintro e v3 ⟨rfl, hB⟩
  replace hb : Hid (Below w.heap.size w v3) := hb.out.trans (hB.mono hb.out.size)
  replace p1 := p1.go hB
  replace hX := hX.go hB
  replace hY := hY.go hB
  replace px := px.go hB
  replace p1_0 := p1.c0
  replace p1_1 := p1.c1
  replace p1_2 := p1.c2
  replace px_0 := px.c0
  replace px_1 := px.c1
  replace px_2 := px.c2
  clear hB
  go_wp2_with fail
  refine (ints_self xa xc a cap zs h0 _ _ hX.ints ((HI.out.1.below hb.out).mono hb.out.size)).mono ?_
  rintro e v4 ⟨rfl, hB⟩
  replace hb : Hid (Below w.heap.size w v4) := hb.out.trans (hB.mono hb.out.size)
  replace p1 := p1.go hB
  replace hX := hX.go hB
  replace hY := hY.go hB
  replace px := px.go hB
  replace p1_0 := p1.c0
  replace p1_1 := p1.c1
  replace p1_2 := p1.c2
  replace px_0 := px.c0
  replace px_1 := px.c1
  replace px_2 := px.c2
  clear hB
  have tn : ((n : Int) != (n : Int)) = false := by simp
  have tc : (c1 != c1) = false := by simp
  go_wp2_with fail
  go_ret
  exact ⟨rfl, hb.out⟩
set_option maxRecDepth 100000 in
set_option maxHeartbeats 4000000 in
theorem cycles_high (a : Option Addr) (cap : Nat) (zs : List Int) (h0 : zs.length ≤ 9223372036854775807) (c1 : Bool) (sa1 : Option Addr) (sc1 : Nat) (sz1 : List Int) (da1 : Option Addr) (dc1 : Nat) (dz1 : List Int) (at' : Int) (ha1 : -9223372036854775808 ≤ at') (ha2 : at' ≤ 9223372036854775807) (w : World) (hz : IsInts w.heap.size w a zs) (w1 : IsArr w sa1 sz1 da1 dz1) (n : Nat) (F : Hid (errOf zs = 0 ∧ flawE c1 sz1 dz1 = 0)) (N : Hid ((n : Int) = prod zs)) (h : ¬ at' < 0) (h' : (n : Int) ≤ at') :
    Calls Try.prog 4 #[.slice a zs.length cap, .agg #[.bool c1, .slice sa1 sz1.length sc1, .slice da1 dz1.length dc1], .int .i64 at'] w fun e w' => e = .returned (.bool true) ∧ Below w.heap.size w w' := by
  obtain ⟨x1, x2, x3, x4, _, _⟩ := w1
  have HI : Hid (IsInts w.heap.size w a zs ∧ IsInts w.heap.size w sa1 sz1 ∧ IsInts w.heap.size w da1 dz1) := ⟨hz, x3, x4⟩
  clear x3 x4 hz
  have hb : Hid (Below w.heap.size w (w.alloc (.cells #[.bool c1, .slice sa1 sz1.length sc1, .slice da1 dz1.length dc1] 24))) := (Below.refl _ w).alloc (Nat.le_refl _) _
  have p1 := Abx.new w (.bool c1) (.slice sa1 sz1.length sc1) (.slice da1 dz1.length dc1)
  go_enter Try.func4, Try.ntmps4
  go_wp2_with fail
  refine (iota_ok 2 (by omega) _).mono ?_
  rintro e v1 ⟨fa, fc, ga, gc, rfl, _, _, hB⟩
  replace hb : Hid (Below w.heap.size w v1) := hb.out.trans (hB.mono hb.out.size)
  replace p1 := p1.go hB
  clear hB
  replace hb : Hid (Below w.heap.size w (v1.alloc (.cells #[.bool false, .slice fa 1 fc, .slice ga 2 gc] 24))) := hb.out.alloc hb.out.size _
  replace p1 := p1.al (.cells #[.bool false, .slice fa 1 fc, .slice ga 2 gc] 24)
  have p1_0 := p1.c0
  have p1_1 := p1.c1
  have p1_2 := p1.c2
  go_wp2_with fail
  refine (reshape_ok a cap zs n c1 sa1 sc1 sz1 da1 dc1 dz1 h0 x1 x2 _ ((HI.out.1.below hb.out).mono hb.out.size) ((HI.out.2.1.below hb.out).mono hb.out.size) ((HI.out.2.2.below hb.out).mono hb.out.size) F.out.1 N.out F.out.2).mono ?_
  rintro e v2 ⟨xa, xc, ya, yc, he, hX, hY, hB⟩
  replace hb : Hid (Below w.heap.size w v2) := hb.out.trans (hB.mono hb.out.size)
  replace p1 := p1.go hB
  replace p1_0 := p1.c0
  replace p1_1 := p1.c1
  replace p1_2 := p1.c2
  clear hB
  rw [cyc_length] at he
  subst he
  replace hb : Hid (Below w.heap.size w (v2.alloc (.cells #[.bool c1, .slice xa zs.length xc, .slice ya n yc] 24))) := hb.out.alloc hb.out.size _
  replace p1 := p1.al (.cells #[.bool c1, .slice xa zs.length xc, .slice ya n yc] 24)
  replace hX := hX.al (.cells #[.bool c1, .slice xa zs.length xc, .slice ya n yc] 24)
  replace hY := hY.al (.cells #[.bool c1, .slice xa zs.length xc, .slice ya n yc] 24)
  replace p1_0 := p1.c0
  replace p1_1 := p1.c1
  replace p1_2 := p1.c2
  have px := Abx.new v2 (.bool c1) (.slice xa zs.length xc) (.slice ya n yc)
  have px_0 := px.c0
  have px_1 := px.c1
  have px_2 := px.c2
  go_wp2_with fail
  refine (count_n a cap zs n h0 _ ((HI.out.1.below hb.out).mono hb.out.size) F.out.1 N.out).mono ?_
  rintro e v3 ⟨rfl, hB⟩
  replace hb : Hid (Below w.heap.size w v3) := hb.out.trans (hB.mono hb.out.size)
  replace p1 := p1.go hB
  replace hX := hX.go hB
  replace hY := hY.go hB
  replace px := px.go hB
  replace p1_0 := p1.c0
  replace p1_1 := p1.c1
  replace p1_2 := p1.c2
  replace px_0 := px.c0
  replace px_1 := px.c1
  replace px_2 := px.c2
  clear hB
  go_wp2_with fail
  refine (ints_self xa xc a cap zs h0 _ _ hX.ints ((HI.out.1.below hb.out).mono hb.out.size)).mono ?_
  rintro e v4 ⟨rfl, hB⟩
  replace hb : Hid (Below w.heap.size w v4) := hb.out.trans (hB.mono hb.out.size)
  replace p1 := p1.go hB
  replace hX := hX.go hB
  replace hY := hY.go hB
  replace px := px.go hB
  replace p1_0 := p1.c0
  replace p1_1 := p1.c1
  replace p1_2 := p1.c2
  replace px_0 := px.c0
  replace px_1 := px.c1
  replace px_2 := px.c2
  clear hB
  have tn : ((n : Int) != (n : Int)) = false := by simp
  have tc : (c1 != c1) = false := by simp
  go_wp2_with fail
  go_ret
  exact ⟨rfl, hb.out⟩
set_option maxRecDepth 100000 in
set_option maxHeartbeats 4000000 in
theorem cycles_none (a : Option Addr) (cap : Nat) (zs : List Int) (h0 : zs.length ≤ 9223372036854775807) (c1 : Bool) (sa1 : Option Addr) (sc1 : Nat) (sz1 : List Int) (da1 : Option Addr) (dc1 : Nat) (dz1 : List Int) (at' : Int) (ha1 : -9223372036854775808 ≤ at') (ha2 : at' ≤ 9223372036854775807) (w : World) (hz : IsInts w.heap.size w a zs) (w1 : IsArr w sa1 sz1 da1 dz1) (n : Nat) (F : Hid (errOf zs = 0 ∧ flawE c1 sz1 dz1 = 0)) (N : Hid ((n : Int) = prod zs)) (h : ¬ at' < 0) (h' : at' < (n : Int)) (hl : Hid (dz1.length = 0)) :
    Calls Try.prog 4 #[.slice a zs.length cap, .agg #[.bool c1, .slice sa1 sz1.length sc1, .slice da1 dz1.length dc1], .int .i64 at'] w fun e w' => e = .returned (.bool true) ∧ Below w.heap.size w w' := by
  obtain ⟨x1, x2, x3, x4, _, _⟩ := w1
  have HI : Hid (IsInts w.heap.size w a zs ∧ IsInts w.heap.size w sa1 sz1 ∧ IsInts w.heap.size w da1 dz1) := ⟨hz, x3, x4⟩
  clear x3 x4 hz
  have hb : Hid (Below w.heap.size w (w.alloc (.cells #[.bool c1, .slice sa1 sz1.length sc1, .slice da1 dz1.length dc1] 24))) := (Below.refl _ w).alloc (Nat.le_refl _) _
  have p1 := Abx.new w (.bool c1) (.slice sa1 sz1.length sc1) (.slice da1 dz1.length dc1)
  go_enter Try.func4, Try.ntmps4
  go_wp2_with fail
  refine (iota_ok 2 (by omega) _).mono ?_
  rintro e v1 ⟨fa, fc, ga, gc, rfl, _, _, hB⟩
  replace hb : Hid (Below w.heap.size w v1) := hb.out.trans (hB.mono hb.out.size)
  replace p1 := p1.go hB
  clear hB
  replace hb : Hid (Below w.heap.size w (v1.alloc (.cells #[.bool false, .slice fa 1 fc, .slice ga 2 gc] 24))) := hb.out.alloc hb.out.size _
  replace p1 := p1.al (.cells #[.bool false, .slice fa 1 fc, .slice ga 2 gc] 24)
  have p1_0 := p1.c0
  have p1_1 := p1.c1
  have p1_2 := p1.c2
  go_wp2_with fail
  refine (reshape_ok a cap zs n c1 sa1 sc1 sz1 da1 dc1 dz1 h0 x1 x2 _ ((HI.out.1.below hb.out).mono hb.out.size) ((HI.out.2.1.below hb.out).mono hb.out.size) ((HI.out.2.2.below hb.out).mono hb.out.size) F.out.1 N.out F.out.2).mono ?_
  rintro e v2 ⟨xa, xc, ya, yc, he, hX, hY, hB⟩
  replace hb : Hid (Below w.heap.size w v2) := hb.out.trans (hB.mono hb.out.size)
  replace p1 := p1.go hB
  replace p1_0 := p1.c0
  replace p1_1 := p1.c1
  replace p1_2 := p1.c2
  clear hB
  rw [cyc_length] at he
  subst he
  replace hb : Hid (Below w.heap.size w (v2.alloc (.cells #[.bool c1, .slice xa zs.length xc, .slice ya n yc] 24))) := hb.out.alloc hb.out.size _
  replace p1 := p1.al (.cells #[.bool c1, .slice xa zs.length xc, .slice ya n yc] 24)
  replace hX := hX.al (.cells #[.bool c1, .slice xa zs.length xc, .slice ya n yc] 24)
  replace hY := hY.al (.cells #[.bool c1, .slice xa zs.length xc, .slice ya n yc] 24)
  replace p1_0 := p1.c0
  replace p1_1 := p1.c1
  replace p1_2 := p1.c2
  have px := Abx.new v2 (.bool c1) (.slice xa zs.length xc) (.slice ya n yc)
  have px_0 := px.c0
  have px_1 := px.c1
  have px_2 := px.c2
  go_wp2_with fail
  refine (count_n a cap zs n h0 _ ((HI.out.1.below hb.out).mono hb.out.size) F.out.1 N.out).mono ?_
  rintro e v3 ⟨rfl, hB⟩
  replace hb : Hid (Below w.heap.size w v3) := hb.out.trans (hB.mono hb.out.size)
  replace p1 := p1.go hB
  replace hX := hX.go hB
  replace hY := hY.go hB
  replace px := px.go hB
  replace p1_0 := p1.c0
  replace p1_1 := p1.c1
  replace p1_2 := p1.c2
  replace px_0 := px.c0
  replace px_1 := px.c1
  replace px_2 := px.c2
  clear hB
  go_wp2_with fail
  refine (ints_self xa xc a cap zs h0 _ _ hX.ints ((HI.out.1.below hb.out).mono hb.out.size)).mono ?_
  rintro e v4 ⟨rfl, hB⟩
  replace hb : Hid (Below w.heap.size w v4) := hb.out.trans (hB.mono hb.out.size)
  replace p1 := p1.go hB
  replace hX := hX.go hB
  replace hY := hY.go hB
  replace px := px.go hB
  replace p1_0 := p1.c0
  replace p1_1 := p1.c1
  replace p1_2 := p1.c2
  replace px_0 := px.c0
  replace px_1 := px.c1
  replace px_2 := px.c2
  clear hB
  have tl : ((dz1.length : Int) == 0) = true := by rw [hl.out]; rfl
  have tn : ((n : Int) != (n : Int)) = false := by simp
  have tc : (c1 != c1) = false := by simp
  go_wp2_with fail
  go_ret
  exact ⟨rfl, hb.out⟩
set_option maxRecDepth 100000 in
set_option maxHeartbeats 4000000 in
theorem cycles_at (a : Option Addr) (cap : Nat) (zs : List Int) (h0 : zs.length ≤ 9223372036854775807) (c1 : Bool) (sa1 : Option Addr) (sc1 : Nat) (sz1 : List Int) (da1 : Option Addr) (dc1 : Nat) (dz1 : List Int) (at' : Int) (ha1 : -9223372036854775808 ≤ at') (ha2 : at' ≤ 9223372036854775807) (w : World) (hz : IsInts w.heap.size w a zs) (w1 : IsArr w sa1 sz1 da1 dz1) (n : Nat) (F : Hid (errOf zs = 0 ∧ flawE c1 sz1 dz1 = 0)) (N : Hid ((n : Int) = prod zs)) (h : ¬ at' < 0) (h' : at' < (n : Int)) (hl : 0 < dz1.length) :
    Calls Try.prog 4 #[.slice a zs.length cap, .agg #[.bool c1, .slice sa1 sz1.length sc1, .slice da1 dz1.length dc1], .int .i64 at'] w fun e w' => e = .returned (.bool true) ∧ Below w.heap.size w w' := by
  obtain ⟨x1, x2, x3, x4, _, _⟩ := w1
  have HI : Hid (IsInts w.heap.size w a zs ∧ IsInts w.heap.size w sa1 sz1 ∧ IsInts w.heap.size w da1 dz1) := ⟨hz, x3, x4⟩
  clear x3 x4 hz
  have hb : Hid (Below w.heap.size w (w.alloc (.cells #[.bool c1, .slice sa1 sz1.length sc1, .slice da1 dz1.length dc1] 24))) := (Below.refl _ w).alloc (Nat.le_refl _) _
  have p1 := Abx.new w (.bool c1) (.slice sa1 sz1.length sc1) (.slice da1 dz1.length dc1)
  go_enter Try.func4, Try.ntmps4
  go_wp2_with fail
  refine (iota_ok 2 (by omega) _).mono ?_
  rintro e v1 ⟨fa, fc, ga, gc, rfl, _, _, hB⟩
  replace hb : Hid (Below w.heap.size w v1) := hb.out.trans (hB.mono hb.out.size)
  replace p1 := p1.go hB
  clear hB
  replace hb : Hid (Below w.heap.size w (v1.alloc (.cells #[.bool false, .slice fa 1 fc, .slice ga 2 gc] 24))) := hb.out.alloc hb.out.size _
  replace p1 := p1.al (.cells #[.bool false, .slice fa 1 fc, .slice ga 2 gc] 24)
  have p1_0 := p1.c0
  have p1_1 := p1.c1
  have p1_2 := p1.c2
  go_wp2_with fail
  refine (reshape_ok a cap zs n c1 sa1 sc1 sz1 da1 dc1 dz1 h0 x1 x2 _ ((HI.out.1.below hb.out).mono hb.out.size) ((HI.out.2.1.below hb.out).mono hb.out.size) ((HI.out.2.2.below hb.out).mono hb.out.size) F.out.1 N.out F.out.2).mono ?_
  rintro e v2 ⟨xa, xc, ya, yc, he, hX, hY, hB⟩
  replace hb : Hid (Below w.heap.size w v2) := hb.out.trans (hB.mono hb.out.size)
  replace p1 := p1.go hB
  replace p1_0 := p1.c0
  replace p1_1 := p1.c1
  replace p1_2 := p1.c2
  clear hB
  rw [cyc_length] at he
  subst he
  replace hb : Hid (Below w.heap.size w (v2.alloc (.cells #[.bool c1, .slice xa zs.length xc, .slice ya n yc] 24))) := hb.out.alloc hb.out.size _
  replace p1 := p1.al (.cells #[.bool c1, .slice xa zs.length xc, .slice ya n yc] 24)
  replace hX := hX.al (.cells #[.bool c1, .slice xa zs.length xc, .slice ya n yc] 24)
  replace hY := hY.al (.cells #[.bool c1, .slice xa zs.length xc, .slice ya n yc] 24)
  replace p1_0 := p1.c0
  replace p1_1 := p1.c1
  replace p1_2 := p1.c2
  have px := Abx.new v2 (.bool c1) (.slice xa zs.length xc) (.slice ya n yc)
  have px_0 := px.c0
  have px_1 := px.c1
  have px_2 := px.c2
  go_wp2_with fail
  refine (count_n a cap zs n h0 _ ((HI.out.1.below hb.out).mono hb.out.size) F.out.1 N.out).mono ?_
  rintro e v3 ⟨rfl, hB⟩
  replace hb : Hid (Below w.heap.size w v3) := hb.out.trans (hB.mono hb.out.size)
  replace p1 := p1.go hB
  replace hX := hX.go hB
  replace hY := hY.go hB
  replace px := px.go hB
  replace p1_0 := p1.c0
  replace p1_1 := p1.c1
  replace p1_2 := p1.c2
  replace px_0 := px.c0
  replace px_1 := px.c1
  replace px_2 := px.c2
  clear hB
  go_wp2_with fail
  refine (ints_self xa xc a cap zs h0 _ _ hX.ints ((HI.out.1.below hb.out).mono hb.out.size)).mono ?_
  rintro e v4 ⟨rfl, hB⟩
  replace hb : Hid (Below w.heap.size w v4) := hb.out.trans (hB.mono hb.out.size)
  replace p1 := p1.go hB
  replace hX := hX.go hB
  replace hY := hY.go hB
  replace px := px.go hB
  replace p1_0 := p1.c0
  replace p1_1 := p1.c1
  replace p1_2 := p1.c2
  replace px_0 := px.c0
  replace px_1 := px.c1
  replace px_2 := px.c2
  clear hB
  have tl : ((dz1.length : Int) == 0) = false := by rw [beq_eq_false_iff_ne]; omega
  obtain ⟨m, rfl⟩ := Int.eq_ofNat_of_zero_le (show 0 ≤ at' by omega)
  have hm : m < n := by omega
  have hmz : m % dz1.length < dz1.length := Nat.mod_lt _ (by omega)
  obtain ⟨b, off, rfl, _, hcell⟩ := hY.ints.at (q := m) (by rw [cyc_length]; exact hm)
  have hc := hcell m (by rw [cyc_length]; exact hm)
  rw [cyc_nth _ _ _ hm] at hc
  obtain ⟨b', off', hda, _, hcell'⟩ := ((HI.out.2.2.below hb.out).mono hb.out.size).at hmz
  have hc' := hcell' _ hmz
  clear hcell hcell'
  have e1 : ((m : Int) % (dz1.length : Int)) = ((m % dz1.length : Nat) : Int) := rfl
  have HV : Hid (cyA dz1 (fillE c1) m = nth dz1 (m % dz1.length)) := by show _ = _; unfold cyA; rw [if_neg (by omega)]
  rw [HV.out] at hc
  obtain ⟨r, hr⟩ : ∃ r, r = m % dz1.length := ⟨_, rfl⟩
  rw [← hr] at hmz hc hc' e1
  have hne : (dz1.length : Int) ≠ 0 := by omega
  subst hda
  clear hr hY
  have tn : ((n : Int) != (n : Int)) = false := by simp
  have tc : (c1 != c1) = false := by simp
  go_wp2_with fail
  go_quiet (fail)
  have tt : (nth dz1 r == nth dz1 r) = true := by simp
  go_wp2_with fail
  go_ret
  exact ⟨rfl, bel_drewN hb.out _⟩
theorem cycles_walk (a : Option Addr) (cap : Nat) (zs : List Int) (h0 : zs.length ≤ 9223372036854775807) (c1 : Bool) (sa1 : Option Addr) (sc1 : Nat) (sz1 : List Int) (da1 : Option Addr) (dc1 : Nat) (dz1 : List Int) (at' : Int) (ha1 : -9223372036854775808 ≤ at') (ha2 : at' ≤ 9223372036854775807) (w : World) (hz : IsInts w.heap.size w a zs) (w1 : IsArr w sa1 sz1 da1 dz1) :
    Calls Try.prog 4 #[.slice a zs.length cap, .agg #[.bool c1, .slice sa1 sz1.length sc1, .slice da1 dz1.length dc1], .int .i64 at'] w fun e w' => e = .returned (.bool true) ∧ Below w.heap.size w w' := by
  by_cases f : rshE zs c1 sz1 dz1 = 0
  · have f' := rshE_zero.1 f
    obtain ⟨n, hn, _⟩ := count_nat f'.1
    by_cases h : at' < 0
    · exact cycles_low a cap zs h0 c1 sa1 sc1 sz1 da1 dc1 dz1 at' ha1 ha2 w hz w1 n f' hn h
    · by_cases h' : (n : Int) ≤ at'
      · exact cycles_high a cap zs h0 c1 sa1 sc1 sz1 da1 dc1 dz1 at' ha1 ha2 w hz w1 n f' hn h h'
      · by_cases hl : dz1.length = 0
        · exact cycles_none a cap zs h0 c1 sa1 sc1 sz1 da1 dc1 dz1 at' ha1 ha2 w hz w1 n f' hn h (by omega) hl
        · exact cycles_at a cap zs h0 c1 sa1 sc1 sz1 da1 dc1 dz1 at' ha1 ha2 w hz w1 n f' hn h (by omega) (by omega)
  · exact cycles_no a cap zs h0 c1 sa1 sc1 sz1 da1 dc1 dz1 at' ha1 ha2 w hz w1 f
end Go.Proofs.Ythmiaiephkcdfaa
