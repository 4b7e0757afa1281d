/-
  What the document's answer says of each cell once.
-/
import Derived.Test.YteieliajdfbipaaDoorRsh
import Derived.Test.YteieliajdfbipaaDoorRmove
import Derived.Test.YteieliajdfbipaaDoorVec
import Derived.Deep.QuietTactic
import Derived.BigQuiet
import Derived.WalkSmall
import Derived.Deep.RegionWith
import Derived.Deep.RegionHeld3
namespace Go.Proofs.YteieliajdfbipaaDoor
open Go.RowKit
set_option linter.unusedVariables false

set_option maxRecDepth 100000 in
set_option maxHeartbeats 8000000 in
theorem unlike_any (c : Bool) (sa : Option Addr) (sc : Nat) (sz : List Int) (da : Option Addr) (dc : Nat) (dz : List Int) (h1 : sz.length ≤ 9223372036854775807) (h2 : dz.length ≤ 9223372036854775807) (w : World) (hs : IsInts w.heap.size w sa sz) (hd : IsInts w.heap.size w da dz) :
    Calls Tryd.prog 11 #[.agg #[.bool c, .slice sa sz.length sc, .slice da dz.length dc]] w (UR (nbE c sz dz) (onc (nbE c sz dz) c) (onl (nbE c sz dz) [((nbL dz).length : Int)]) (onl (nbE c sz dz) (nbL dz)) w) := by
  have HI : Hid (IsInts w.heap.size w sa sz ∧ IsInts w.heap.size w da dz) := ⟨hs, hd⟩
  clear hs hd
  have HB0 : Hid (Below w.heap.size w ((w.alloc (.cells #[.bool c, .slice sa sz.length sc, .slice da dz.length dc] 24)).alloc (.cells #[.bool false, .slice none 0 0, .slice none 0 0] 24))) := ((Below.refl _ w).alloc (Nat.le_refl _) _).alloc (by simp) _
  have HP0 : Hid (Abx ((w.alloc (.cells #[.bool c, .slice sa sz.length sc, .slice da dz.length dc] 24)).alloc (.cells #[.bool false, .slice none 0 0, .slice none 0 0] 24)) w.heap.size (.bool c) (.slice sa sz.length sc) (.slice da dz.length dc)) := (Abx.new w (.bool c) (.slice sa sz.length sc) (.slice da dz.length dc)).al _
  have HR0 : Hid (Abx ((w.alloc (.cells #[.bool c, .slice sa sz.length sc, .slice da dz.length dc] 24)).alloc (.cells #[.bool false, .slice none 0 0, .slice none 0 0] 24)) (w.heap.size + 1) (.bool false) (.slice none 0 0) (.slice none 0 0)) := Abx.new1 w (.cells #[.bool c, .slice sa sz.length sc, .slice da dz.length dc] 24) (.bool false) (.slice none 0 0) (.slice none 0 0)
  have p0 := HP0.out.c0
  have p1 := HP0.out.c1
  have p2 := HP0.out.c2
  go_enter Tryd.func11, Tryd.ntmps11
  go_wp2_with fail
  refine (flaw_any c sa sc sz da dc dz h1 h2 _ ((HI.out.1.below HB0.out).mono HB0.out.size) ((HI.out.2.below HB0.out).mono HB0.out.size)).mono ?_
  rintro e v1 ⟨rfl, hC⟩
  have HB1 : Hid (Below w.heap.size w v1) := HB0.out.trans (hC.mono HB0.out.size)
  have HP1 : Hid (Abx v1 w.heap.size (.bool c) (.slice sa sz.length sc) (.slice da dz.length dc)) := HP0.out.go hC
  have HR1 : Hid (Abx v1 (w.heap.size + 1) (.bool false) (.slice none 0 0) (.slice none 0 0)) := HR0.out.go hC
  have hR1 : w.heap.size + 1 < v1.heap.size := HR1.out.lt
  clear hC p0 p1 p2 HB0 HP0 HR0
  have a1 := HP1.out.c1
  by_cases he : flawE c sz dz = 0
  · rw [he]
    by_cases hl : sz.length = 1
    · have HE : Hid (nbE c sz dz = 0) := nbE_zero.2 ⟨he, hl⟩
      have tl : ((sz.length : Int) != 1) = false := by rw [hl]; rfl
      have hd4 : dz.length ≤ 4096 := (flawE_short he).2
      clear he hl
      go_wp2_with fail
      clear tl a1
      go_loopw [5, 6] (fun v i wx => ∃ k : Nat, k ≤ dz.length ∧ i = .int .i64 k ∧ Abx wx w.heap.size (.bool c) (.slice sa sz.length sc) (.slice da dz.length dc) ∧ Abx wx (w.heap.size + 1) (.bool false) (.slice none 0 0) (.slice none 0 0) ∧ wx.ownsRow v1.heap.size 3 1 v (nbK dz k).length ((nbK dz k).map (Value.int .i64)) ∧ v1.heap.size ≤ wx.heap.size ∧ Below w.heap.size w wx) (fun _ i _ => dz.length - (intOf i).toNat)
      case atStart => exact ⟨0, Nat.zero_le _, rfl, HP1.out, HR1.out, World.ownsRow_nil _ _ _ _, Nat.le_refl _, HB1.out⟩
      case round =>
        obtain ⟨k, hk, rfl, hP, hR, hown, hsx, hBx⟩ := hrel
        obtain ⟨L, hL⟩ : ∃ L, L = nbK dz k := ⟨_, rfl⟩
        have HL : Hid (L = nbK dz k) := hL
        rw [← hL] at hown
        have hLl : L.length ≤ 4096 := by rw [hL]; have := nbK_len (dz := dz) k; omega
        clear hL
        obtain ⟨g, gc, rfl, hN⟩ := owns_new hown
        by_cases hlt : k < dz.length
        · have hN1 := nbK.eq_2 dz k
          have HNX : Hid (nbK dz (k + 1) = if nth dz k ∈ L then L else L ++ [nth dz k]) := by rw [HL.out]; rfl
          have a0 := hP.c0
          have a2 := hP.c2
          have HQ : Hid (Abx wr w.heap.size (.bool c) (.slice sa sz.length sc) (.slice da dz.length dc) ∧ Abx wr (w.heap.size + 1) (.bool false) (.slice none 0 0) (.slice none 0 0) ∧ Below w.heap.size w wr ∧ wr.ownsRow v1.heap.size 3 1 (.slice g L.length gc) L.length (L.map (Value.int .i64))) := ⟨hP, hR, hBx, hown⟩
          have hwr : w.heap.size ≤ wr.heap.size := hBx.size
          clear hP hR hown hBx hN1
          go_wp2_with fail
          refine (vector_any c g gc L (by omega) wr hN.ints).mono ?_
          rintro e y1 ⟨xa, xc, ya, yc, rfl, hX, hY, hB1⟩
          obtain ⟨y2, hy2⟩ : ∃ y2, y2 = y1.alloc (.cells #[.bool c, .slice xa 1 xc, .slice ya L.length yc] 24) := ⟨_, rfl⟩
          have HY2 : Hid (y2 = y1.alloc (.cells #[.bool c, .slice xa 1 xc, .slice ya L.length yc] 24)) := hy2
          have HB2 : Hid (Below wr.heap.size wr y2 ∧ y2.heap.size = y1.heap.size + 1 ∧ wr.heap.size ≤ y1.heap.size) := by rw [hy2]; exact ⟨hB1.alloc hB1.size _, World.size_alloc _ _, hB1.size⟩
          have HJ : Hid (IsInts y2.heap.size y2 ya L) := by rw [hy2]; exact (hY.al _).ints
          have HA2 : Hid (Abx y2 y1.heap.size (.bool c) (.slice xa 1 xc) (.slice ya L.length yc)) := by rw [hy2]; exact Abx.new y1 _ _ _
          have e0 := HA2.out.c0
          have e1 := HA2.out.c1
          have e2 := HA2.out.c2
          have PP := HQ.out.1.go HB2.out.1
          have f0 := PP.c0
          have f2 := PP.c2
          have hzs : wr.heap.size ≤ y2.heap.size := HB2.out.1.size
          obtain ⟨be, oe, rfl, hbe, hcE⟩ := (HI.out.2.below HQ.out.2.2.1).at hlt
          have ce : y2.cell? ⟨be, oe + k, none⟩ = some (.int .i64 (nth dz k)) := (HB2.out.1.cell (p := ⟨be, oe + k, none⟩) (by show be < wr.heap.size; omega)).trans (hcE k hlt)
          clear hX hY hB1 hy2 hcE PP a0 a2
          go_wp2_with fail
          rw [← HY2.out]
          by_cases hin : nth dz k ∈ L
          · have HH : Hid (hsB c L c (nth dz k) = true) := hsB_iff.2 ⟨rfl, hin⟩
            have HN2 : Hid (nbK dz (k + 1) = L) := by show _ = _; rw [HNX.out, if_pos hin]
            clear hin
            have hh := hs_any c xa xc 1 ya yc L c (nth dz k) (by omega) y2.drew HJ.out
            rw [HH.out] at hh
            go_region_held3 (fun w' => w'.cell? ⟨y1.heap.size, 0, none⟩ = some (.bool c) ∧ w'.cell? ⟨y1.heap.size, 1, none⟩ = some (.slice xa 1 xc) ∧ w'.cell? ⟨y1.heap.size, 2, none⟩ = some (.slice ya L.length yc) ∧ w'.cell? ⟨w.heap.size, 0, none⟩ = some (.bool c) ∧ w'.cell? ⟨w.heap.size, 2, none⟩ = some (.slice (some ⟨be, oe, none⟩) dz.length dc) ∧ w'.cell? ⟨be, oe + k, none⟩ = some (.int .i64 (nth dz k))) (go_keep) (first | (go_at_call 28; refine hh.mono ?_; rintro e y3 ⟨rfl, hB3⟩; have hB3' : Below y2.heap.size y2 y3 := (Below.refl y2.heap.size y2).drew.trans hB3; have G1 := HA2.out.go hB3'; have G2 := (HQ.out.1.go HB2.out.1).go hB3'; have G3 : y3.cell? ⟨be, oe + k, none⟩ = some (.int .i64 (nth dz k)) := (hB3'.cell (p := ⟨be, oe + k, none⟩) (by show be < y2.heap.size; omega)).trans ce; have j0 := G1.c0; have j1 := G1.c1; have j2 := G1.c2; have j3 := G2.c0; have j4 := G2.c2))
            go_wp2_with fail
            refine ⟨⟨k + 1, by omega, by go_num, G2, (HQ.out.2.1.go HB2.out.1).go hB3', ?_, by have := hB3'.size; omega, (HQ.out.2.2.1.trans (HB2.out.1.mono hwr)).trans (hB3'.mono (by omega))⟩, by simp [intOf]; omega⟩
            rw [HN2.out]
            exact own_go (own_go HQ.out.2.2.2 HB2.out.1) hB3'
          · have HH : Hid (hsB c L c (nth dz k) = false) := hsB_no.2 fun q => hin q.2
            have HN2 : Hid (nbK dz (k + 1) = L ++ [nth dz k]) := by show _ = _; rw [HNX.out, if_neg hin]
            clear hin
            have hh := hs_any c xa xc 1 ya yc L c (nth dz k) (by omega) y2.drew HJ.out
            rw [HH.out] at hh
            go_region_held3 (fun w' => w'.cell? ⟨y1.heap.size, 0, none⟩ = some (.bool c) ∧ w'.cell? ⟨y1.heap.size, 1, none⟩ = some (.slice xa 1 xc) ∧ w'.cell? ⟨y1.heap.size, 2, none⟩ = some (.slice ya L.length yc) ∧ w'.cell? ⟨w.heap.size, 0, none⟩ = some (.bool c) ∧ w'.cell? ⟨w.heap.size, 2, none⟩ = some (.slice (some ⟨be, oe, none⟩) dz.length dc) ∧ w'.cell? ⟨be, oe + k, none⟩ = some (.int .i64 (nth dz k))) (go_keep) (first | (go_at_call 28; refine hh.mono ?_; rintro e y3 ⟨rfl, hB3⟩; have hB3' : Below y2.heap.size y2 y3 := (Below.refl y2.heap.size y2).drew.trans hB3; have G1 := HA2.out.go hB3'; have G2 := (HQ.out.1.go HB2.out.1).go hB3'; have G3 : y3.cell? ⟨be, oe + k, none⟩ = some (.int .i64 (nth dz k)) := (hB3'.cell (p := ⟨be, oe + k, none⟩) (by show be < y2.heap.size; omega)).trans ce; have j0 := G1.c0; have j1 := G1.c1; have j2 := G1.c2; have j3 := G2.c0; have j4 := G2.c2))
            have HOW : Hid (y3.ownsRow v1.heap.size 3 1 (.slice g L.length gc) L.length (L.map (Value.int .i64))) := own_go (own_go HQ.out.2.2.2 HB2.out.1) hB3'
            have hz3 := hB3'.size
            have h0 := G2.c0
            have h2' := G2.c2
            clear e0 e1 e2 f0 f2 ce
            have ce3 := G3
            go_wp2_with (at_builtin; refine app_list rfl _ _ rfl (y3.alloc (.cells #[.int .i64 (nth dz k)] 3)) v1.heap.size y3.heap.size (.slice g L.length gc) L (nth dz k) rfl rfl (HOW.out.alloc _) (heap_alloc_new y3 _) (by omega) (by rw [World.size_alloc]; omega) ?_; intro g1 gc1 w4 hown1 hB4)
            have Z7 : Below w.heap.size w w4 := (((HQ.out.2.2.1.trans (HB2.out.1.mono hwr)).trans (hB3'.mono (by omega))).alloc (by omega) _).trans (hB4.mono (by omega))
            have hz4 := hB4.size
            rw [World.size_alloc] at hz4
            refine ⟨⟨k + 1, by omega, by go_num, (G2.al _).bel hB4 (by omega), (((HQ.out.2.1.go HB2.out.1).go hB3').al _).bel hB4 (by omega), ?_, by omega, Z7⟩, by simp [intOf]; omega⟩
            rw [HN2.out]
            simpa using hown1
        · obtain rfl : k = dz.length := by omega
          have HLD : Hid (L = nbL dz) := HL.out
          clear hlt hk hown
          have a0 := hP.c0
          have a2 := hP.c2
          have hs0 := hBx.size
          have HX : Hid (Abx wr (w.heap.size + 1) (.bool false) (.slice none 0 0) (.slice none 0 0) ∧ Below w.heap.size w wr ∧ w.heap.size + 1 < wr.heap.size) := ⟨hR, hBx, hR.lt⟩
          clear hR hBx hP
          go_wp2_with fail
          refine (vector_any c g gc L (by omega) wr hN.ints).mono ?_
          rintro e v9 ⟨xa, xc, ya, yc, rfl, hX, hY, hB9⟩
          have HR9 : Hid (Abx v9 (w.heap.size + 1) (.bool false) (.slice none 0 0) (.slice none 0 0)) := HX.out.1.go hB9
          have HB9 : Hid (Below w.heap.size w v9) := HX.out.2.1.trans (hB9.mono HX.out.2.1.size)
          have HXY : Hid (NewInts wr.heap.size v9 xa [(L.length : Int)] ∧ NewInts wr.heap.size v9 ya L) := ⟨hX, hY⟩
          have hRl := HX.out.2.2
          have r_0 := HR9.out.c0
          have r_1 := HR9.out.c1
          have r_2 := HR9.out.c2
          have f_0 := HR9.out.fr 0
          have f_1 := HR9.out.fr 1
          have f_2 := HR9.out.fr 2
          clear hX hY hB9 a0 a2
          go_wp2_with fail
          have FF := HR9.out.set3 (.bool c) (.slice xa 1 xc) (.slice ya L.length yc)
          have q0' := FF.c0
          have q1' := FF.c1
          have q2' := FF.c2
          refine bodyPost_ret (v := .tuple #[.agg #[.bool c, .slice xa 1 xc, .slice ya L.length yc], .int .i64 0]) (by simp [results, Tryd.results11, go_sem, q0', q1', q2']) rfl ?_
          have hX := (HXY.out.1.set3 (b := w.heap.size + 1) (by omega) (.bool c) (.slice xa 1 xc) (.slice ya L.length yc)).low (lo' := w.heap.size) (by omega)
          have hY := (HXY.out.2.set3 (b := w.heap.size + 1) (by omega) (.bool c) (.slice xa 1 xc) (.slice ya L.length yc)).low (lo' := w.heap.size) (by omega)
          have hZ := bel_set3 HB9.out (b := w.heap.size + 1) (by omega) (.bool c) (.slice xa 1 xc) (.slice ya L.length yc)
          have hUR := UR.ok (c := c) (xc := xc) (yc := yc) HE.out hX hY hZ
          rw [HLD.out] at hUR ⊢
          exact hUR
    · have HE : Hid (nbE c sz dz = 3) := by show nbE _ _ _ = _; unfold nbE; rw [if_neg (not_not_intro he), if_pos hl]
      have tl : ((sz.length : Int) != 1) = true := by simp; omega
      clear he hl
      have r_0 := HR1.out.c0
      have r_1 := HR1.out.c1
      have r_2 := HR1.out.c2
      have f_0 := HR1.out.fr 0
      have f_1 := HR1.out.fr 1
      have f_2 := HR1.out.fr 2
      go_wp2_with fail
      have FF := HR1.out.set3 (.bool false) (.slice none 0 0) (.slice none 0 0)
      have q0' := FF.c0
      have q1' := FF.c1
      have q2' := FF.c2
      exact bodyPost_ret (v := .tuple #[.agg #[.bool false, .slice none 0 0, .slice none 0 0], .int .i64 (3)]) (by simp [results, Tryd.results11, go_sem, q0', q1', q2']) rfl (UR.no HE.out (by decide) (bel_set3 HB1.out (by omega) _ _ _))
  · have t0 : (flawE c sz dz != 0) = true := by simpa using he
    have t1 : (flawE c sz dz == 0) = false := by simpa using he
    have HE : Hid (nbE c sz dz = flawE c sz dz) := by show nbE _ _ _ = _; unfold nbE; rw [if_pos he]
    have HA : Hid (flawE c sz dz ≠ 0) := he
    clear he
    have r_0 := HR1.out.c0
    have r_1 := HR1.out.c1
    have r_2 := HR1.out.c2
    have f_0 := HR1.out.fr 0
    have f_1 := HR1.out.fr 1
    have f_2 := HR1.out.fr 2
    go_wp2_with fail
    have FF := HR1.out.set3 (.bool false) (.slice none 0 0) (.slice none 0 0)
    have q0' := FF.c0
    have q1' := FF.c1
    have q2' := FF.c2
    exact bodyPost_ret (v := .tuple #[.agg #[.bool false, .slice none 0 0, .slice none 0 0], .int .i64 (flawE c sz dz)]) (by simp [results, Tryd.results11, go_sem, q0', q1', q2']) rfl (UR.no HE.out HA.out (bel_set3 HB1.out (by omega) _ _ _))
end Go.Proofs.YteieliajdfbipaaDoor
