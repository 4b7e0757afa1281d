/-
  The program's orders of rows: from the least, from the greatest.
-/
import Derived.Deep.DeepCutAuto
import Derived.Test.YtmbgomljofngnabGrdo
import Derived.Test.YtmbgomljofngnabGrdq
import Derived.Test.YtmbgomljofngnabBase
namespace Go.Proofs.Ytmbgomljofngnab
open Go.RowKit
set_option linter.unusedVariables false

set_option maxRecDepth 100000 in
set_option maxHeartbeats 2000000 in
theorem gchk_any (c : Bool) (sa : Option Addr) (sc : Nat) (sz : List Int) (da : Option Addr) (dc : Nat) (dz : List Int) (h1 : sz.length ≤ 9223372036854775807) (h2 : dz.length ≤ 9223372036854775807) (w : World) (hs : IsInts w.heap.size w sa sz) (hd : IsInts w.heap.size w da dz) :
    Calls Try.prog 34 #[.agg #[.bool c, .slice sa sz.length sc, .slice da dz.length dc]] w fun r w' => r = .returned (errV (gdE c sz dz)) ∧ Below w.heap.size w w' := by
  have HI : Hid (IsInts w.heap.size w sa sz ∧ IsInts w.heap.size w da dz) := ⟨hs, hd⟩
  obtain ⟨W0, hW0⟩ : ∃ W0, W0 = w.alloc (.cells #[.bool c, .slice sa sz.length sc, .slice da dz.length dc] 24) := ⟨_, rfl⟩
  have HB0 : Hid (Below w.heap.size w W0) := by rw [hW0]; exact (Below.refl _ w).alloc (Nat.le_refl _) _
  have HP : Hid (Abx W0 w.heap.size (.bool c) (.slice sa sz.length sc) (.slice da dz.length dc)) := by rw [hW0]; exact Abx.new w _ _ _
  have p0 := HP.out.c0
  have p1 := HP.out.c1
  have p2 := HP.out.c2
  clear hs hd
  go_enter Try.func34, Try.ntmps34
  go_upto_region 1 with fail
  rw [← hW0]
  clear hW0
  by_cases h3 : flawE c sz dz = 0
  · have HC : Hid (Calls Try.prog 26 #[.agg #[.bool c, .slice sa sz.length sc, .slice da dz.length dc]] W0 fun e w' => e = .returned .nilIface ∧ Below W0.heap.size W0 w') :=
      check_ok c sa sc sz da dc dz h1 h2 W0 ((HI.out.1.below HB0.out).mono HB0.out.size) ((HI.out.2.below HB0.out).mono HB0.out.size) h3
    by_cases h4 : sz.length = 0
    · have HE : Hid (gdE c sz dz = 3) := gdE_rank h3 h4
      have H4 : Hid (sz.length = 0) := h4
      clear h3 h4
      go_wp2_with fail
      refine HC.out.mono ?_
      rintro e v1 ⟨rfl, hB1⟩
      have HB1 : Hid (Below w.heap.size w v1) := HB0.out.trans (hB1.mono HB0.out.size)
      have q1 := (HP.out.go hB1).c1
      have hl0 : ((sz.length : Int) == 0) = true := by rw [H4.out]; rfl
      clear p0 p1 p2 hB1
      go_wp2_with fail
      go_ret
      refine ⟨?_, HB1.out⟩
      rw [HE.out]; rfl
    · have HE : Hid (gdE c sz dz = 0) := gdE_zero.2 ⟨h3, by omega⟩
      clear h3
      go_wp2_with fail
      refine HC.out.mono ?_
      rintro e v1 ⟨rfl, hB1⟩
      have HB1 : Hid (Below w.heap.size w v1) := HB0.out.trans (hB1.mono HB0.out.size)
      have q1 := (HP.out.go hB1).c1
      have hl0 : ((sz.length : Int) == 0) = false := by rw [beq_eq_false_iff_ne]; omega
      clear p0 p1 p2 hB1
      go_wp2_with fail
      go_ret
      refine ⟨?_, HB1.out⟩
      rw [HE.out]; rfl
  · have HE : Hid (gdE c sz dz = flawE c sz dz) := gdE_flaw h3
    have H3 : Hid (flawE c sz dz ≠ 0) := h3
    have HC : Hid (Calls Try.prog 26 #[.agg #[.bool c, .slice sa sz.length sc, .slice da dz.length dc]] W0 fun e w' => e = .returned (.iface 43 (.int .i64 (flawE c sz dz))) ∧ Below W0.heap.size W0 w') :=
      check_no c sa sc sz da dc dz h1 h2 W0 ((HI.out.1.below HB0.out).mono HB0.out.size) ((HI.out.2.below HB0.out).mono HB0.out.size) h3
    clear h3
    go_wp2_with fail
    refine HC.out.mono ?_
    rintro e v1 ⟨rfl, hB1⟩
    have HB1 : Hid (Below w.heap.size w v1) := HB0.out.trans (hB1.mono HB0.out.size)
    clear p0 p1 p2 hB1
    go_wp2_with fail
    go_ret
    refine ⟨?_, HB1.out⟩
    rw [HE.out, errV_pos H3.out]; rfl
theorem up_cl {dz : List Int} {long x y : Nat} (h : y < x) : cmpL (rwL dz long x) (rwL dz long y) < 0 ↔ ltR false dz long x y = true := by
  rw [ltR_iff]
  simp only [cmR, Bool.false_eq_true, if_false]
  exact ⟨fun h => .inl h, fun q => by omega⟩
theorem down_cl {dz : List Int} {long x y : Nat} (h : y < x) : cmpL (rwL dz long y) (rwL dz long x) < 0 ↔ ltR true dz long x y = true := by
  rw [ltR_iff]
  simp only [cmR, if_true]
  have := cmpL_swap (rwL dz long x) (rwL dz long y)
  exact ⟨fun h => .inl (by omega), fun q => by omega⟩
set_option maxRecDepth 100000 in
set_option maxHeartbeats 2000000 in
theorem up_holds : CUp := by
  intro c sa sc sz da dc dz w h1 h2 hs hd
  have HI : Hid (IsC w.heap.size w sa sz sc ∧ IsC w.heap.size w da dz dc) := ⟨hs, hd⟩
  obtain ⟨W0, hW0⟩ : ∃ W0, W0 = w.alloc (.cells #[.bool c, .slice sa sz.length sc, .slice da dz.length dc] 24) := ⟨_, rfl⟩
  have HB0 : Hid (Below w.heap.size w W0) := by rw [hW0]; exact (Below.refl _ w).alloc (Nat.le_refl _) _
  have HP : Hid (Abx W0 w.heap.size (.bool c) (.slice sa sz.length sc) (.slice da dz.length dc)) := by rw [hW0]; exact Abx.new w _ _ _
  have HC : Hid (Calls Try.prog 34 #[.agg #[.bool c, .slice sa sz.length sc, .slice da dz.length dc]] W0 fun r w' => r = .returned (errV (gdE c sz dz)) ∧ Below W0.heap.size W0 w') := gchk_any c sa sc sz da dc dz h1 h2 W0 ((HI.out.1.1.below HB0.out).mono HB0.out.size) ((HI.out.2.1.below HB0.out).mono HB0.out.size)
  have p0 := HP.out.c0
  have p1 := HP.out.c1
  have p2 := HP.out.c2
  clear hs hd
  by_cases h3 : gdE c sz dz = 0
  · have H3 : Hid (gdE c sz dz = 0) := h3
    rw [h3, show errV 0 = .nilIface from rfl] at HC
    go_enter Try.func14, Try.ntmps14
    go_upto_region 1 with fail
    rw [← hW0]
    clear hW0
    go_wp2_with fail
    refine HC.out.mono ?_
    rintro e v1 ⟨rfl, hB1⟩
    have HB1 : Hid (Below w.heap.size w v1) := HB0.out.trans (hB1.mono HB0.out.size)
    have hA1 := HP.out.go hB1
    have q0 := hA1.c0
    have q1 := hA1.c1
    have q2 := hA1.c2
    have hnR := nR_is h3
    have hfl := flawE_short (gdE_zero.1 h3).1
    have HRW : Hid (Calls Try.prog 36 #[.agg #[.bool c, .slice sa sz.length sc, .slice da dz.length dc]] v1 (RwsP da dc (nR sz) (lR sz dz) v1)) := by
      rw [lR_is]
      exact rows_any c sa sc sz da dc dz (nR sz) hnR.1 hnR.2 (gdE_zero.1 h3).2 hfl.2 v1 ((HI.out.1.1.below HB1.out).mono HB1.out.size) ((HI.out.2.below HB1.out).mono HB1.out.size)
    have HN : Hid (nR sz ≤ 4096 ∧ dz.length ≤ 4096) := ⟨hnR.2, hfl.2⟩
    clear p0 p1 p2 hB1 hA1 hnR hfl h3
    go_wp2_with fail
    refine HRW.out.mono ?_
    rintro e v2 ⟨B, rfl, hBl, hrow2, hB2⟩
    have HB2 : Hid (Below w.heap.size w v2) := HB1.out.trans (hB2.mono HB1.out.size)
    have HO : Hid (Calls Try.prog 35 #[.slice (some ⟨B, 0, none⟩) (nR sz) (nR sz), .func (.func 39) #[] #[]] v2 (OrP (grd (ltR false dz (lR sz dz)) (nR sz)) v2)) :=
      order_any 39 (enters_of Try.func39 (by kernel_rfl) rfl) _ up1_any da dc dz (nR sz) (lR sz dz) (lR_le sz dz) HN.out.1 HN.out.2 (ltR false dz (lR sz dz)) (ltR_tot (lR_le sz dz)) (fun x y _ _ h => up_cl h) B (nR sz) v2 ((HI.out.2.below HB2.out).mono HB2.out.size) hrow2
    clear hrow2 hBl hB2
    go_wp2_with fail
    refine HO.out.mono ?_
    rintro e v3 ⟨g, gc, rfl, hN3, hB3⟩
    have HN3 : Hid (NewC w.heap.size v3 g (grd (ltR false dz (lR sz dz)) (nR sz)) gc) := hN3.low HB2.out.size
    have HB3 : Hid (Below w.heap.size w v3) := HB2.out.trans (hB3.mono HB2.out.size)
    clear hN3 hB3
    generalize hG : grd (ltR false dz (lR sz dz)) (nR sz) = G at *
    have HG : Hid (gdO false sz dz = G) := hG
    clear hG
    go_wp2_with fail
    go_ret2
    rw [HG.out]
    exact UL.mkok H3.out HN3.out HB3.out
  · have H3 : Hid (gdE c sz dz ≠ 0) := h3
    rw [errV_pos h3] at HC
    clear h3
    go_enter Try.func14, Try.ntmps14
    go_upto_region 1 with fail
    rw [← hW0]
    clear hW0
    go_wp2_with fail
    refine HC.out.mono ?_
    rintro e v1 ⟨rfl, hB1⟩
    have HB1 : Hid (Below w.heap.size w v1) := HB0.out.trans (hB1.mono HB0.out.size)
    clear p0 p1 p2 hB1
    generalize gdE c sz dz = e0 at *
    go_wp2_with fail
    go_ret2
    exact UL.mkno rfl H3.out HB1.out
set_option maxRecDepth 100000 in
set_option maxHeartbeats 2000000 in
theorem down_holds : CDn := by
  intro c sa sc sz da dc dz w h1 h2 hs hd
  have HI : Hid (IsC w.heap.size w sa sz sc ∧ IsC w.heap.size w da dz dc) := ⟨hs, hd⟩
  obtain ⟨W0, hW0⟩ : ∃ W0, W0 = w.alloc (.cells #[.bool c, .slice sa sz.length sc, .slice da dz.length dc] 24) := ⟨_, rfl⟩
  have HB0 : Hid (Below w.heap.size w W0) := by rw [hW0]; exact (Below.refl _ w).alloc (Nat.le_refl _) _
  have HP : Hid (Abx W0 w.heap.size (.bool c) (.slice sa sz.length sc) (.slice da dz.length dc)) := by rw [hW0]; exact Abx.new w _ _ _
  have HC : Hid (Calls Try.prog 34 #[.agg #[.bool c, .slice sa sz.length sc, .slice da dz.length dc]] W0 fun r w' => r = .returned (errV (gdE c sz dz)) ∧ Below W0.heap.size W0 w') := gchk_any c sa sc sz da dc dz h1 h2 W0 ((HI.out.1.1.below HB0.out).mono HB0.out.size) ((HI.out.2.1.below HB0.out).mono HB0.out.size)
  have p0 := HP.out.c0
  have p1 := HP.out.c1
  have p2 := HP.out.c2
  clear hs hd
  by_cases h3 : gdE c sz dz = 0
  · have H3 : Hid (gdE c sz dz = 0) := h3
    rw [h3, show errV 0 = .nilIface from rfl] at HC
    go_enter Try.func12, Try.ntmps12
    go_upto_region 1 with fail
    rw [← hW0]
    clear hW0
    go_wp2_with fail
    refine HC.out.mono ?_
    rintro e v1 ⟨rfl, hB1⟩
    have HB1 : Hid (Below w.heap.size w v1) := HB0.out.trans (hB1.mono HB0.out.size)
    have hA1 := HP.out.go hB1
    have q0 := hA1.c0
    have q1 := hA1.c1
    have q2 := hA1.c2
    have hnR := nR_is h3
    have hfl := flawE_short (gdE_zero.1 h3).1
    have HRW : Hid (Calls Try.prog 36 #[.agg #[.bool c, .slice sa sz.length sc, .slice da dz.length dc]] v1 (RwsP da dc (nR sz) (lR sz dz) v1)) := by
      rw [lR_is]
      exact rows_any c sa sc sz da dc dz (nR sz) hnR.1 hnR.2 (gdE_zero.1 h3).2 hfl.2 v1 ((HI.out.1.1.below HB1.out).mono HB1.out.size) ((HI.out.2.below HB1.out).mono HB1.out.size)
    have HN : Hid (nR sz ≤ 4096 ∧ dz.length ≤ 4096) := ⟨hnR.2, hfl.2⟩
    clear p0 p1 p2 hB1 hA1 hnR hfl h3
    go_wp2_with fail
    refine HRW.out.mono ?_
    rintro e v2 ⟨B, rfl, hBl, hrow2, hB2⟩
    have HB2 : Hid (Below w.heap.size w v2) := HB1.out.trans (hB2.mono HB1.out.size)
    have HO : Hid (Calls Try.prog 35 #[.slice (some ⟨B, 0, none⟩) (nR sz) (nR sz), .func (.func 37) #[] #[]] v2 (OrP (grd (ltR true dz (lR sz dz)) (nR sz)) v2)) :=
      order_any 37 (enters_of Try.func37 (by kernel_rfl) rfl) _ down1_any da dc dz (nR sz) (lR sz dz) (lR_le sz dz) HN.out.1 HN.out.2 (ltR true dz (lR sz dz)) (ltR_tot (lR_le sz dz)) (fun x y _ _ h => down_cl h) B (nR sz) v2 ((HI.out.2.below HB2.out).mono HB2.out.size) hrow2
    clear hrow2 hBl hB2
    go_wp2_with fail
    refine HO.out.mono ?_
    rintro e v3 ⟨g, gc, rfl, hN3, hB3⟩
    have HN3 : Hid (NewC w.heap.size v3 g (grd (ltR true dz (lR sz dz)) (nR sz)) gc) := hN3.low HB2.out.size
    have HB3 : Hid (Below w.heap.size w v3) := HB2.out.trans (hB3.mono HB2.out.size)
    clear hN3 hB3
    generalize hG : grd (ltR true dz (lR sz dz)) (nR sz) = G at *
    have HG : Hid (gdO true sz dz = G) := hG
    clear hG
    go_wp2_with fail
    go_ret2
    rw [HG.out]
    exact UL.mkok H3.out HN3.out HB3.out
  · have H3 : Hid (gdE c sz dz ≠ 0) := h3
    rw [errV_pos h3] at HC
    clear h3
    go_enter Try.func12, Try.ntmps12
    go_upto_region 1 with fail
    rw [← hW0]
    clear hW0
    go_wp2_with fail
    refine HC.out.mono ?_
    rintro e v1 ⟨rfl, hB1⟩
    have HB1 : Hid (Below w.heap.size w v1) := HB0.out.trans (hB1.mono HB0.out.size)
    clear p0 p1 p2 hB1
    generalize gdE c sz dz = e0 at *
    go_wp2_with fail
    go_ret2
    exact UL.mkno rfl H3.out HB1.out
end Go.Proofs.Ytmbgomljofngnab
