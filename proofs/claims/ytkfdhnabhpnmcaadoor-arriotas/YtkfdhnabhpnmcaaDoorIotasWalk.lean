/-
  The walk of the statement on the first numbers.
-/
import Derived.Deep.QuietTactic
import Derived.BigQuiet
import Derived.Test.YtkfdhnabhpnmcaaDoorErr
import Derived.Test.YtkfdhnabhpnmcaaDoorIota
import Derived.Test.YtkfdhnabhpnmcaaDoorRowi
namespace Go.Proofs.YtkfdhnabhpnmcaaDoor
open Go.RowKit
set_option linter.unusedVariables false

theorem HasErr.go {w w' : World} (h : HasErr w) (hB : Below w.heap.size w w') : HasErr w' := h.below hB h.pos
theorem HasErr.al {w : World} (h : HasErr w) (o : Obj) : HasErr (w.alloc o) := h.go ((Below.refl _ w).alloc (Nat.le_refl _) o)
set_option maxRecDepth 100000 in
set_option maxHeartbeats 4000000 in
theorem iotas_low (n : Int) (w : World) (hg : HasErr w) (h : n < 0) :
    Calls Tryd.prog 5 #[.int .i64 n] w fun e w' => e = .returned (.bool true) ∧ Below w.heap.size w w' := by
  have HE : Hid (iotE n = 6) := by show _ = _; unfold iotE; rw [if_pos h]
  have hb : Hid (Below w.heap.size w w) := Below.refl _ w
  go_enter Tryd.func5, Tryd.ntmps5
  go_wp2_with fail
  refine (iota_ok 3 (by omega) w).mono ?_
  rintro e v1 ⟨fa, fc, ga, gc, rfl, _, _, hB⟩
  replace hb : Hid (Below w.heap.size w v1) := hb.out.trans (hB.mono hb.out.size)
  replace hg := hg.go hB
  clear hB
  go_wp2_with fail
  replace hb : Hid (Below w.heap.size w (v1.alloc (.cells #[.bool false, .slice fa 1 fc, .slice ga 3 gc] 24))) := hb.out.alloc hb.out.size _
  replace hg := hg.al (.cells #[.bool false, .slice fa 1 fc, .slice ga 3 gc] 24)
  refine (iota_no n (.inl h) _).mono ?_
  rintro e v2 ⟨rfl, hB⟩
  replace hb : Hid (Below w.heap.size w v2) := hb.out.trans (hB.mono hb.out.size)
  replace hg := hg.go hB
  clear hB
  replace hb : Hid (Below w.heap.size w (v2.alloc (.cells #[.bool false, .slice none 0 0, .slice none 0 0] 24))) := hb.out.alloc hb.out.size _
  replace hg := hg.al (.cells #[.bool false, .slice none 0 0, .slice none 0 0] 24)
  have pg := Abx.new v2 (.bool false) (.slice none 0 0) (.slice none 0 0)
  have pg_1 := pg.c1
  have pg_2 := pg.c2
  go_wp2_with fail
  rw [HE.out]
  refine (error_same 6 _ hg).mono ?_
  rintro e v3 ⟨rfl, hB⟩
  replace hb : Hid (Below w.heap.size w v3) := hb.out.trans (hB.mono hb.out.size)
  replace hg := hg.go hB
  replace pg := pg.go hB
  replace pg_1 := pg.c1
  replace pg_2 := pg.c2
  clear hB
  go_wp2_with fail
  go_ret
  exact ⟨rfl, hb.out⟩
set_option maxRecDepth 100000 in
set_option maxHeartbeats 4000000 in
theorem iotas_high (n : Int) (w : World) (hg : HasErr w) (h : 4096 < n) :
    Calls Tryd.prog 5 #[.int .i64 n] w fun e w' => e = .returned (.bool true) ∧ Below w.heap.size w w' := by
  have HE : Hid (iotE n = 7) := by show _ = _; unfold iotE; rw [if_neg (by omega), if_pos h]
  have hb : Hid (Below w.heap.size w w) := Below.refl _ w
  go_enter Tryd.func5, Tryd.ntmps5
  go_wp2_with fail
  refine (iota_ok 3 (by omega) w).mono ?_
  rintro e v1 ⟨fa, fc, ga, gc, rfl, _, _, hB⟩
  replace hb : Hid (Below w.heap.size w v1) := hb.out.trans (hB.mono hb.out.size)
  replace hg := hg.go hB
  clear hB
  go_wp2_with fail
  replace hb : Hid (Below w.heap.size w (v1.alloc (.cells #[.bool false, .slice fa 1 fc, .slice ga 3 gc] 24))) := hb.out.alloc hb.out.size _
  replace hg := hg.al (.cells #[.bool false, .slice fa 1 fc, .slice ga 3 gc] 24)
  refine (iota_no n (.inr h) _).mono ?_
  rintro e v2 ⟨rfl, hB⟩
  replace hb : Hid (Below w.heap.size w v2) := hb.out.trans (hB.mono hb.out.size)
  replace hg := hg.go hB
  clear hB
  replace hb : Hid (Below w.heap.size w (v2.alloc (.cells #[.bool false, .slice none 0 0, .slice none 0 0] 24))) := hb.out.alloc hb.out.size _
  replace hg := hg.al (.cells #[.bool false, .slice none 0 0, .slice none 0 0] 24)
  have pg := Abx.new v2 (.bool false) (.slice none 0 0) (.slice none 0 0)
  have pg_1 := pg.c1
  have pg_2 := pg.c2
  have h0 : ¬ n < 0 := by omega
  go_wp2_with fail
  rw [HE.out]
  refine (error_same 7 _ hg).mono ?_
  rintro e v3 ⟨rfl, hB⟩
  replace hb : Hid (Below w.heap.size w v3) := hb.out.trans (hB.mono hb.out.size)
  replace hg := hg.go hB
  replace pg := pg.go hB
  replace pg_1 := pg.c1
  replace pg_2 := pg.c2
  clear hB
  go_wp2_with fail
  go_ret
  exact ⟨rfl, hb.out⟩
set_option maxRecDepth 100000 in
set_option maxHeartbeats 4000000 in
theorem iotas_ok (n : Nat) (w : World) (hg : HasErr w) (h : n ≤ 4096) :
    Calls Tryd.prog 5 #[.int .i64 (n : Int)] w fun e w' => e = .returned (.bool true) ∧ Below w.heap.size w w' := by
  have hb : Hid (Below w.heap.size w w) := Below.refl _ w
  go_enter Tryd.func5, Tryd.ntmps5
  go_wp2_with fail
  refine (iota_ok 3 (by omega) w).mono ?_
  rintro e v1 ⟨fa, fc, ga, gc, rfl, _, _, hB⟩
  replace hb : Hid (Below w.heap.size w v1) := hb.out.trans (hB.mono hb.out.size)
  replace hg := hg.go hB
  clear hB
  go_wp2_with fail
  replace hb : Hid (Below w.heap.size w (v1.alloc (.cells #[.bool false, .slice fa 1 fc, .slice ga 3 gc] 24))) := hb.out.alloc hb.out.size _
  replace hg := hg.al (.cells #[.bool false, .slice fa 1 fc, .slice ga 3 gc] 24)
  refine (iota_ok n h _).mono ?_
  rintro e v2 ⟨xa, xc, ya, yc, rfl, hX, hY, hB⟩
  replace hb : Hid (Below w.heap.size w v2) := hb.out.trans (hB.mono hb.out.size)
  replace hg := hg.go hB
  clear hB
  replace hb : Hid (Below w.heap.size w (v2.alloc (.cells #[.bool false, .slice xa 1 xc, .slice ya n yc] 24))) := hb.out.alloc hb.out.size _
  replace hg := hg.al (.cells #[.bool false, .slice xa 1 xc, .slice ya n yc] 24)
  replace hX := hX.al (.cells #[.bool false, .slice xa 1 xc, .slice ya n yc] 24)
  replace hY := hY.al (.cells #[.bool false, .slice xa 1 xc, .slice ya n yc] 24)
  have pg := Abx.new v2 (.bool false) (.slice xa 1 xc) (.slice ya n yc)
  have pg_0 := pg.c0
  have pg_1 := pg.c1
  have pg_2 := pg.c2
  have HY : Hid (IsInts (v2.alloc (.cells #[.bool false, .slice xa 1 xc, .slice ya n yc] 24)).heap.size (v2.alloc (.cells #[.bool false, .slice xa 1 xc, .slice ya n yc] 24)) ya (iot n)) := hY.ints
  clear hY
  obtain ⟨b, off, rfl, _, hcell⟩ := hX.ints.at (q := 0) (by simp)
  have hc := hcell 0 (by simp)
  rw [Nat.add_zero, nth_zero] at hc
  clear hcell hX
  have t1 : ¬ (n : Int) < 0 := by omega
  have t2 : ¬ (4096 : Int) < (n : Int) := by omega
  have tn : ((n : Int) != (n : Int)) = false := by simp
  go_wp2_with fail
  clear hc tn
  go_loop [9] (fun i => ∃ k : Nat, k ≤ n ∧ i = .int .i64 k) (fun i => n - (intOf i).toNat)
  case atStart => exact ⟨0, Nat.zero_le _, rfl⟩
  case round =>
    obtain ⟨k, hk, rfl⟩ := hrel
    by_cases hlt : k < n
    · obtain ⟨b, off, rfl, _, hcell⟩ := HY.out.at (q := k) (by rw [iot_length]; exact hlt)
      have hc := hcell k (by rw [iot_length]; exact hlt)
      rw [iot_nth n hlt] at hc
      clear hcell
      have tk : ((k : Int) != (k : Int)) = false := by simp
      go_wp2_with fail
      go_round
      case rel => exact ⟨k + 1, by omega, by go_num⟩
      case measure => simp [intOf]; omega
    · obtain rfl : k = n := by omega
      go_wp2_with fail
      go_ret
      exact ⟨rfl, hb.out⟩
theorem iotas_walk (n : Int) (w : World) (hg : HasErr w) :
    Calls Tryd.prog 5 #[.int .i64 n] w fun e w' => e = .returned (.bool true) ∧ Below w.heap.size w w' := by
  by_cases h : n < 0
  · exact iotas_low n w hg h
  · by_cases h' : 4096 < n
    · exact iotas_high n w hg h'
    · obtain ⟨k, rfl⟩ := Int.eq_ofNat_of_zero_le (show 0 ≤ n by omega)
      exact iotas_ok k w hg (by omega)
end Go.Proofs.YtkfdhnabhpnmcaaDoor
