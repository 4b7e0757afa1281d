/-
  What the program tells of an array that is a relation: the least numbers of steps.
-/
import Derived.BigQuiet
import Derived.Deep.DeepCutAuto
import Derived.Test.YtgaelbgeoobgiabRgj
namespace Go.Proofs.Ytgaelbgeoobgiab
open Go.RowKit
set_option linter.unusedVariables false

set_option maxRecDepth 100000 in
set_option maxHeartbeats 2000000 in
theorem fra_no (c : Bool) (sa : Option Addr) (sc : Nat) (sz : List Int) (da : Option Addr) (dc : Nat) (dz : List Int) (i : Int) (w : World) (h1 : sz.length ≤ 9223372036854775807) (h2 : dz.length ≤ 9223372036854775807) (hs : IsInts w.heap.size w sa sz) (hd : IsInts w.heap.size w da dz) (h : rlE c sz dz ≠ 0) :
    Calls Try.prog 5 #[.agg #[.bool c, .slice sa sz.length sc, .slice da dz.length dc], .int .i64 i] w fun e w' => e = .returned (.tuple #[.slice none 0 0, .iface 41 (.int .i64 (rlE c sz dz))]) ∧ Below w.heap.size w w' := by
  obtain ⟨w0, HW⟩ : ∃ w0, Hid (w0 = (w.alloc (.cells #[.bool c, .slice sa sz.length sc, .slice da dz.length dc] 24))) := ⟨_, rfl⟩
  have HB0 : Hid (Below w.heap.size w w0) := by rw [HW.out]; exact (Below.refl _ w).alloc (Nat.le_refl _) _
  have HA : Abx w0 w.heap.size (.bool c) (.slice sa sz.length sc) (.slice da dz.length dc) := by rw [HW.out]; exact Abx.new w _ _ _
  have hC := rread_no c sa sc sz da dc dz w0 h1 h2 ((hs.below HB0.out).mono HB0.out.size) ((hd.below HB0.out).mono HB0.out.size) h
  have p0 := HA.c0
  have p1 := HA.c1
  have p2 := HA.c2
  have hzR := zeroR
  clear hs hd HA h
  go_enter Try.func5, Try.ntmps5
  go_upto_region 1 with fail
  rw [← HW.out]
  go_wp2_with fail
  refine hC.mono ?_
  rintro e y1 ⟨rfl, hB⟩
  have HB1 : Hid (Below w.heap.size w y1) := HB0.out.trans (hB.mono HB0.out.size)
  clear p0 p1 p2 HW HB0 hC hB
  go_wp2_with (refine wpl_str y1.heap.size _ (fun _ _ => false) _ _ (Rb.new y1 _) rfl rfl rfl rfl rfl ?_)
  go_ret2
  exact ⟨rfl, bel_rw (HB1.out.alloc HB1.out.size _) HB1.out.size⟩
set_option maxRecDepth 100000 in
set_option maxHeartbeats 2000000 in
theorem fra_lo (n : Nat) (hn : n ≤ 24) (sa : Option Addr) (sc : Nat) (da : Option Addr) (dc : Nat) (dz : List Int) (m : Nat) (hm : dz.length = m) (hl : dz.length = n * n) (hk : mskB dz = true) (i : Int) (hx : i < 0) (w : World) (hs : IsInts w.heap.size w sa [(n : Int), (n : Int)]) (hd : IsInts w.heap.size w da dz) :
    Calls Try.prog 5 #[.agg #[.bool false, .slice sa 2 sc, .slice da m dc], .int .i64 i] w fun e w' => e = .returned (.tuple #[.slice none 0 0, .iface 41 (.int .i64 5)]) ∧ Below w.heap.size w w' := by
  obtain ⟨w0, HW⟩ : ∃ w0, Hid (w0 = (w.alloc (.cells #[.bool false, .slice sa 2 sc, .slice da m dc] 24))) := ⟨_, rfl⟩
  have HB0 : Hid (Below w.heap.size w w0) := by rw [HW.out]; exact (Below.refl _ w).alloc (Nat.le_refl _) _
  have HA : Abx w0 w.heap.size (.bool false) (.slice sa 2 sc) (.slice da m dc) := by rw [HW.out]; exact Abx.new w _ _ _
  have hC := rread_ok n hn sa sc da dc dz hl hk w0 ((hs.below HB0.out).mono HB0.out.size) ((hd.below HB0.out).mono HB0.out.size)
  rw [hm] at hC
  have HL : Hid (dz.length = n * n) := hl
  have p0 := HA.c0
  have p1 := HA.c1
  have p2 := HA.c2
  have hzR := zeroR
  clear hs hd HA hl hm hk
  go_enter Try.func5, Try.ntmps5
  go_upto_region 1 with fail
  rw [← HW.out]
  go_wp2_with fail
  refine hC.mono ?_
  rintro e y1 ⟨rfl, hB⟩
  have HB1 : Hid (Below w.heap.size w y1) := HB0.out.trans (hB.mono HB0.out.size)
  clear p0 p1 p2 HW HB0 hC hB
  go_wp2_with (first | refine wpl_str y1.heap.size _ (rdR n dz) _ _ (Rb.new y1 _) rfl rfl rfl rfl rfl ?_ | refine wpl_ldr y1.heap.size (rdR n dz) _ (Rb.new y1 _).row rfl rfl rfl ?_)
  go_ret2
  exact ⟨rfl, bel_rw (HB1.out.alloc HB1.out.size _) HB1.out.size⟩
set_option maxRecDepth 100000 in
set_option maxHeartbeats 2000000 in
theorem fra_hi (n : Nat) (hn : n ≤ 24) (sa : Option Addr) (sc : Nat) (da : Option Addr) (dc : Nat) (dz : List Int) (m : Nat) (hm : dz.length = m) (hl : dz.length = n * n) (hk : mskB dz = true) (i : Int) (hx : ¬ i < 0) (hy : (n : Int) ≤ i) (w : World) (hs : IsInts w.heap.size w sa [(n : Int), (n : Int)]) (hd : IsInts w.heap.size w da dz) :
    Calls Try.prog 5 #[.agg #[.bool false, .slice sa 2 sc, .slice da m dc], .int .i64 i] w fun e w' => e = .returned (.tuple #[.slice none 0 0, .iface 41 (.int .i64 5)]) ∧ Below w.heap.size w w' := by
  obtain ⟨w0, HW⟩ : ∃ w0, Hid (w0 = (w.alloc (.cells #[.bool false, .slice sa 2 sc, .slice da m dc] 24))) := ⟨_, rfl⟩
  have HB0 : Hid (Below w.heap.size w w0) := by rw [HW.out]; exact (Below.refl _ w).alloc (Nat.le_refl _) _
  have HA : Abx w0 w.heap.size (.bool false) (.slice sa 2 sc) (.slice da m dc) := by rw [HW.out]; exact Abx.new w _ _ _
  have hC := rread_ok n hn sa sc da dc dz hl hk w0 ((hs.below HB0.out).mono HB0.out.size) ((hd.below HB0.out).mono HB0.out.size)
  rw [hm] at hC
  have HL : Hid (dz.length = n * n) := hl
  have p0 := HA.c0
  have p1 := HA.c1
  have p2 := HA.c2
  have hzR := zeroR
  clear hs hd HA hl hm hk
  go_enter Try.func5, Try.ntmps5
  go_upto_region 1 with fail
  rw [← HW.out]
  go_wp2_with fail
  refine hC.mono ?_
  rintro e y1 ⟨rfl, hB⟩
  have HB1 : Hid (Below w.heap.size w y1) := HB0.out.trans (hB.mono HB0.out.size)
  clear p0 p1 p2 HW HB0 hC hB
  go_wp2_with (first | refine wpl_str y1.heap.size _ (rdR n dz) _ _ (Rb.new y1 _) rfl rfl rfl rfl rfl ?_ | refine wpl_ldr y1.heap.size (rdR n dz) _ (Rb.new y1 _).row rfl rfl rfl ?_)
  go_ret2
  exact ⟨rfl, bel_rw (HB1.out.alloc HB1.out.size _) HB1.out.size⟩
set_option maxRecDepth 100000 in
set_option maxHeartbeats 2000000 in
theorem fra_ok (n : Nat) (hn : n ≤ 24) (sa : Option Addr) (sc : Nat) (da : Option Addr) (dc : Nat) (dz : List Int) (m : Nat) (hm : dz.length = m) (hl : dz.length = n * n) (hk : mskB dz = true) (i : Nat) (hi : i < n) (w : World) (hs : IsInts w.heap.size w sa [(n : Int), (n : Int)]) (hd : IsInts w.heap.size w da dz) :
    Calls Try.prog 5 #[.agg #[.bool false, .slice sa 2 sc, .slice da m dc], .int .i64 (i : Nat)] w fun e w' => ∃ xa, e = .returned (.tuple #[.slice xa n n, .nilIface]) ∧ NewC w.heap.size w' xa (frL n (rdR n dz) i) n ∧ Below w.heap.size w w' := by
  have hx : ¬ (i : Int) < 0 := by omega
  have hy : ¬ (n : Int) ≤ (i : Int) := by omega
  obtain ⟨w0, HW⟩ : ∃ w0, Hid (w0 = (w.alloc (.cells #[.bool false, .slice sa 2 sc, .slice da m dc] 24))) := ⟨_, rfl⟩
  have HB0 : Hid (Below w.heap.size w w0) := by rw [HW.out]; exact (Below.refl _ w).alloc (Nat.le_refl _) _
  have HA : Abx w0 w.heap.size (.bool false) (.slice sa 2 sc) (.slice da m dc) := by rw [HW.out]; exact Abx.new w _ _ _
  have hC := rread_ok n hn sa sc da dc dz hl hk w0 ((hs.below HB0.out).mono HB0.out.size) ((hd.below HB0.out).mono HB0.out.size)
  rw [hm] at hC
  have HL : Hid (dz.length = n * n) := hl
  have p0 := HA.c0
  have p1 := HA.c1
  have p2 := HA.c2
  have hzR := zeroR
  clear hs hd HA hl hm hk
  go_enter Try.func5, Try.ntmps5
  go_upto_region 1 with fail
  rw [← HW.out]
  go_wp2_with fail
  refine hC.mono ?_
  rintro e y1 ⟨rfl, hB⟩
  have HB1 : Hid (Below w.heap.size w y1) := HB0.out.trans (hB.mono HB0.out.size)
  clear p0 p1 p2 HW HB0 hC hB
  go_wp2_with (first | refine wpl_str y1.heap.size _ (rdR n dz) _ _ (Rb.new y1 _) rfl rfl rfl rfl rfl ?_ | refine wpl_ldr y1.heap.size (rdR n dz) _ (Rb.new y1 _).row rfl rfl rfl ?_)
  refine (far_any (rdR n dz) n i hn hi _).mono ?_
  rintro e y2 ⟨xa, rfl, hX, hB2⟩
  have HBw : Hid (Below w.heap.size w y2) := (bel_rw (HB1.out.alloc HB1.out.size _) HB1.out.size).trans (hB2.mono (bel_rw (HB1.out.alloc HB1.out.size _) HB1.out.size).size)
  have HX : Hid (NewC w.heap.size y2 xa (frL n (rdR n dz) i) n) := hX.lowc (by have := HB1.out.size; simp [World.setRow]; omega)
  clear hX hB2 HB1
  go_wp2_with fail
  go_ret2
  exact ⟨xa, rfl, HX.out, HBw.out⟩
end Go.Proofs.Ytgaelbgeoobgiab
