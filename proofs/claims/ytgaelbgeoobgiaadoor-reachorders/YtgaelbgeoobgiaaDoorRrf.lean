/-
  The reference's word on an array that should be a relation; an array of so many rows.
-/
import Derived.BigQuiet
import Derived.Test.YtgaelbgeoobgiaaDoorRgg
import Derived.Test.YtgaelbgeoobgiaaDoorFlaw
import Derived.Test.YtgaelbgeoobgiaaDoorRmask
namespace Go.Proofs.YtgaelbgeoobgiaaDoor
open Go.RowKit
set_option linter.unusedVariables false

set_option maxRecDepth 100000 in
set_option maxHeartbeats 2000000 in
theorem sfault15_any (c : Bool) (sa : Option Addr) (sc : Nat) (sz : List Int) (da : Option Addr) (dc : Nat) (dz : List Int) (w : World) (h1 : sz.length ≤ 9223372036854775807) (h2 : dz.length ≤ 9223372036854775807) (hs : IsInts w.heap.size w sa sz) (hd : IsInts w.heap.size w da dz) :
    Calls Tryd.prog 18 #[.agg #[.bool c, .slice sa sz.length sc, .slice da dz.length dc], .int .i64 24] w fun e w' => e = .returned (.int .i64 (sqE c sz dz)) ∧ Below w.heap.size w w' := by
  have HB0 : Hid (Below w.heap.size w (w.alloc (.cells #[.bool c, .slice sa sz.length sc, .slice da dz.length dc] 24))) := (Below.refl _ w).alloc (Nat.le_refl _) _
  have pa := Abx.new w (.bool c) (.slice sa sz.length sc) (.slice da dz.length dc)
  have HA : Hid (Abx (w.alloc (.cells #[.bool c, .slice sa sz.length sc, .slice da dz.length dc] 24)) w.heap.size (.bool c) (.slice sa sz.length sc) (.slice da dz.length dc)) := pa
  have p0 := pa.c0
  have p1 := pa.c1
  have p2 := pa.c2
  have HI : Hid (IsInts w.heap.size w sa sz ∧ IsInts w.heap.size w da dz) := ⟨hs, hd⟩
  clear pa hs hd
  by_cases hF : flawE c sz dz = 0
  · have hC := flaw_any c sa sc sz da dc dz h1 h2 (w.alloc (.cells #[.bool c, .slice sa sz.length sc, .slice da dz.length dc] 24)) ((HI.out.1.below HB0.out).mono HB0.out.size) ((HI.out.2.below HB0.out).mono HB0.out.size)
    rw [hF] at hC
    have HF : Hid (flawE c sz dz = 0) := hF
    clear hF
    by_cases hl : sz.length = 2
    · obtain ⟨x, hx⟩ : ∃ x, nth sz 0 = x := ⟨_, rfl⟩
      obtain ⟨y, hy⟩ : ∃ y, nth sz 1 = y := ⟨_, rfl⟩
      have HL : Hid (sz.length = 2) := hl
      have HX : Hid (nth sz 0 = x) := hx
      have HY : Hid (nth sz 1 = y) := hy
      have l1 : (1 : Int) < (sz.length : Int) := by omega
      have l0 : (0 : Int) < (sz.length : Int) := by omega
      rw [hl] at hC p1 HA HB0 ⊢
      clear hl hx hy l1 l0
      by_cases hxy : x = y
      · have t1 : (x != y) = false := by rw [hxy]; simp
        have HXY : Hid (x = y) := hxy
        clear hxy
        by_cases h6 : 24 < x
        · have HE : Hid (sqE c sz dz = 7) := sqE_full HF.out HL.out (by rw [HX.out, HY.out]; exact HXY.out) (by rw [HX.out]; exact h6)
          go_enter Tryd.func18, Tryd.ntmps18
          go_wp2_with fail
          refine hC.mono ?_
          rintro e v1 ⟨rfl, hB⟩
          have HB1 : Hid (Below w.heap.size w v1) := HB0.out.trans (hB.mono HB0.out.size)
          have q := HA.out.go hB
          have q0 := q.c0
          have q1 := q.c1
          have q2 := q.c2
          obtain ⟨b, off, hab, hb, hc⟩ := (HI.out.1.below HB1.out).at (q := 0) (by rw [HL.out]; decide)
          subst hab
          have k0 := hc 0 (by rw [HL.out]; decide)
          have k1 := hc 1 (by rw [HL.out]; decide)
          rw [Nat.add_zero] at k0
          rw [HX.out] at k0
          rw [HY.out] at k1
          clear hc
          clear hC hB q p0 p1 p2 HA HB0
          go_wp2_with fail
          go_quiet (fail)
          go_wp2_with fail
          go_ret
          exact ⟨by rw [HE.out]; rfl, bel_drewN HB1.out _⟩
        · by_cases hcc : c = true
          · have HE : Hid (sqE c sz dz = 6) := sqE_char HF.out HL.out (by rw [HX.out, HY.out]; exact HXY.out) (by rw [HX.out]; exact h6) hcc
            subst hcc
            go_enter Tryd.func18, Tryd.ntmps18
            go_wp2_with fail
            refine hC.mono ?_
            rintro e v1 ⟨rfl, hB⟩
            have HB1 : Hid (Below w.heap.size w v1) := HB0.out.trans (hB.mono HB0.out.size)
            have q := HA.out.go hB
            have q0 := q.c0
            have q1 := q.c1
            have q2 := q.c2
            obtain ⟨b, off, hab, hb, hc⟩ := (HI.out.1.below HB1.out).at (q := 0) (by rw [HL.out]; decide)
            subst hab
            have k0 := hc 0 (by rw [HL.out]; decide)
            have k1 := hc 1 (by rw [HL.out]; decide)
            rw [Nat.add_zero] at k0
            rw [HX.out] at k0
            rw [HY.out] at k1
            clear hc
            clear hC hB q p0 p1 p2 HA HB0
            go_wp2_with fail
            go_quiet (fail)
            go_wp2_with fail
            go_ret
            exact ⟨by rw [HE.out]; rfl, bel_drewN HB1.out _⟩
          · obtain rfl : c = false := by simpa using hcc
            have HE : Hid (sqE false sz dz = 0) := sqE_ok HF.out HL.out (by rw [HX.out, HY.out]; exact HXY.out) (by rw [HX.out]; exact h6) rfl
            go_enter Tryd.func18, Tryd.ntmps18
            go_wp2_with fail
            refine hC.mono ?_
            rintro e v1 ⟨rfl, hB⟩
            have HB1 : Hid (Below w.heap.size w v1) := HB0.out.trans (hB.mono HB0.out.size)
            have q := HA.out.go hB
            have q0 := q.c0
            have q1 := q.c1
            have q2 := q.c2
            obtain ⟨b, off, hab, hb, hc⟩ := (HI.out.1.below HB1.out).at (q := 0) (by rw [HL.out]; decide)
            subst hab
            have k0 := hc 0 (by rw [HL.out]; decide)
            have k1 := hc 1 (by rw [HL.out]; decide)
            rw [Nat.add_zero] at k0
            rw [HX.out] at k0
            rw [HY.out] at k1
            clear hc
            clear hC hB q p0 p1 p2 HA HB0
            go_wp2_with fail
            go_quiet (fail)
            go_wp2_with fail
            go_ret
            exact ⟨by rw [HE.out]; rfl, bel_drewN HB1.out _⟩
      · have t1 : (x != y) = true := by simpa using hxy
        have HE : Hid (sqE c sz dz = 4) := sqE_len HF.out HL.out (by rw [HX.out, HY.out]; exact hxy)
        clear hxy
        go_enter Tryd.func18, Tryd.ntmps18
        go_wp2_with fail
        refine hC.mono ?_
        rintro e v1 ⟨rfl, hB⟩
        have HB1 : Hid (Below w.heap.size w v1) := HB0.out.trans (hB.mono HB0.out.size)
        have q := HA.out.go hB
        have q0 := q.c0
        have q1 := q.c1
        have q2 := q.c2
        obtain ⟨b, off, hab, hb, hc⟩ := (HI.out.1.below HB1.out).at (q := 0) (by rw [HL.out]; decide)
        subst hab
        have k0 := hc 0 (by rw [HL.out]; decide)
        have k1 := hc 1 (by rw [HL.out]; decide)
        rw [Nat.add_zero] at k0
        rw [HX.out] at k0
        rw [HY.out] at k1
        clear hc
        clear hC hB q p0 p1 p2 HA HB0
        go_wp2_with fail
        go_quiet (fail)
        go_wp2_with fail
        go_ret
        exact ⟨by rw [HE.out]; rfl, bel_drewN HB1.out _⟩
    · have t0 : ((sz.length : Int) != 2) = true := by simp; omega
      have HE : Hid (sqE c sz dz = 3) := sqE_rank HF.out hl
      clear hl
      go_enter Tryd.func18, Tryd.ntmps18
      go_wp2_with fail
      refine hC.mono ?_
      rintro e v1 ⟨rfl, hB⟩
      have HB1 : Hid (Below w.heap.size w v1) := HB0.out.trans (hB.mono HB0.out.size)
      have q := HA.out.go hB
      have q0 := q.c0
      have q1 := q.c1
      have q2 := q.c2
      clear hC hB q p0 p1 p2 HA HB0
      go_wp2_with fail
      go_ret
      exact ⟨by rw [HE.out]; rfl, HB1.out⟩
  · obtain ⟨fe, hfe⟩ : ∃ x, flawE c sz dz = x := ⟨_, rfl⟩
    have hC := flaw_any c sa sc sz da dc dz h1 h2 (w.alloc (.cells #[.bool c, .slice sa sz.length sc, .slice da dz.length dc] 24)) ((HI.out.1.below HB0.out).mono HB0.out.size) ((HI.out.2.below HB0.out).mono HB0.out.size)
    rw [hfe] at hC
    have tf : (fe != 0) = true := by rw [← hfe]; simpa using hF
    have HE : Hid (sqE c sz dz = fe) := (sqE_flaw hF).trans hfe
    clear hF hfe
    go_enter Tryd.func18, Tryd.ntmps18
    go_wp2_with fail
    refine hC.mono ?_
    rintro e v1 ⟨rfl, hB⟩
    have HB1 : Hid (Below w.heap.size w v1) := HB0.out.trans (hB.mono HB0.out.size)
    have q := HA.out.go hB
    have q0 := q.c0
    have q1 := q.c1
    have q2 := q.c2
    clear hC hB q p0 p1 p2 HA HB0
    go_wp2_with fail
    go_ret
    exact ⟨by rw [HE.out]; rfl, HB1.out⟩
set_option maxRecDepth 100000 in
set_option maxHeartbeats 2000000 in
theorem rfault_any (c : Bool) (sa : Option Addr) (sc : Nat) (sz : List Int) (da : Option Addr) (dc : Nat) (dz : List Int) (w : World) (h1 : sz.length ≤ 9223372036854775807) (h2 : dz.length ≤ 9223372036854775807) (hs : IsInts w.heap.size w sa sz) (hd : IsInts w.heap.size w da dz) :
    Calls Tryd.prog 6 #[.agg #[.bool c, .slice sa sz.length sc, .slice da dz.length dc]] w fun e w' => e = .returned (.int .i64 (rlE c sz dz)) ∧ Below w.heap.size w w' := by
  obtain ⟨w0, HW⟩ : ∃ w0, Hid (w0 = (w.alloc (.cells #[.bool c, .slice sa sz.length sc, .slice da dz.length dc] 24))) := ⟨_, rfl⟩
  have HB0 : Hid (Below w.heap.size w w0) := by rw [HW.out]; exact (Below.refl _ w).alloc (Nat.le_refl _) _
  have HA : Hid (Abx w0 w.heap.size (.bool c) (.slice sa sz.length sc) (.slice da dz.length dc)) := by rw [HW.out]; exact Abx.new w _ _ _
  have hC := sfault15_any c sa sc sz da dc dz w0 h1 h2 ((hs.below HB0.out).mono HB0.out.size) ((hd.below HB0.out).mono HB0.out.size)
  have HD : Hid (IsInts w.heap.size w da dz) := hd
  obtain ⟨E, hE⟩ : ∃ E, E = sqE c sz dz := ⟨_, rfl⟩
  have HE : Hid (E = sqE c sz dz) := hE
  rw [← hE] at hC
  have p0 := HA.out.c0
  have p1 := HA.out.c1
  have p2 := HA.out.c2
  clear hs hd hE
  go_enter Tryd.func6, Tryd.ntmps6
  go_upto_region 1 with fail
  rw [← HW.out]
  go_wp2_with fail
  refine hC.mono ?_
  rintro e v1 ⟨rfl, hB⟩
  have HB1 : Hid (Below w.heap.size w v1) := HB0.out.trans (hB.mono HB0.out.size)
  have HA1 : Hid (Abx v1 w.heap.size (.bool c) (.slice sa sz.length sc) (.slice da dz.length dc)) := HA.out.go hB
  clear p0 p1 p2 HA HW HB0 hC hB
  have q2 := HA1.out.c2
  by_cases h0 : E = 0
  · have t0 : (E == 0) = true := by simpa using h0
    have hM := mask_any da dc dz h2 v1.heap.size v1 ((HD.out.below HB1.out).mono HB1.out.size)
    obtain ⟨b, hb⟩ : ∃ b, b = mskB dz := ⟨_, rfl⟩
    have HV : Hid (rlE c sz dz = if b = true then 0 else 6) := by
      show _ = _
      unfold rlE
      rw [if_neg (by rw [← HE.out, h0]; decide), hb]
    rw [← hb] at hM
    subst h0
    clear hb HE
    cases b
    · have HV6 : Hid (rlE c sz dz = 6) := by show _ = _; rw [HV.out]; rfl
      go_wp2_with (refine hM.mono ?_; rintro e v2 ⟨rfl, hv2⟩; obtain rfl := hv2.symm; clear hv2)
      go_ret
      exact ⟨by rw [HV6.out]; rfl, HB1.out⟩
    · have HV6 : Hid (rlE c sz dz = 0) := by show _ = _; rw [HV.out]; rfl
      go_wp2_with (refine hM.mono ?_; rintro e v2 ⟨rfl, hv2⟩; obtain rfl := hv2.symm; clear hv2)
      go_ret
      exact ⟨by rw [HV6.out]; rfl, HB1.out⟩
  · have t0 : (E == 0) = false := by simpa using h0
    have HV : Hid (rlE c sz dz = E) := by show _ = _; rw [rlE_sq (by rw [← HE.out]; exact h0), HE.out]
    clear h0 HE
    go_wp2_with fail
    go_ret
    exact ⟨by rw [HV.out]; rfl, HB1.out⟩
end Go.Proofs.YtgaelbgeoobgiaaDoor
