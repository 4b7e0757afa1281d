/-
  What the document's answer says of the cells that another list has, or has not.
-/
import Derived.Test.YteieliajdfbipaaDoorRsh
import Derived.Test.YteieliajdfbipaaDoorRmove
import Derived.Test.YteieliajdfbipaaDoorVec
import Derived.Deep.QuietTactic
import Derived.BigQuiet
import Derived.WalkSmall
import Derived.Deep.RegionWith
import Derived.Deep.RegionHeld3
namespace Go.Proofs.YteieliajdfbipaaDoor
open Go.RowKit
set_option linter.unusedVariables false

set_option maxRecDepth 100000 in
set_option maxHeartbeats 8000000 in
theorem shared_any (c : Bool) (sa : Option Addr) (sc : Nat) (sz : List Int) (da : Option Addr) (dc : Nat) (dz : List Int) (c' : Bool) (sa' : Option Addr) (sc' : Nat) (sz' : List Int) (da' : Option Addr) (dc' : Nat) (dz' : List Int) (has : Bool) (h1 : sz.length ≤ 9223372036854775807) (h2 : dz.length ≤ 9223372036854775807) (h1' : sz'.length ≤ 9223372036854775807) (h2' : dz'.length ≤ 9223372036854775807) (w : World) (hs : IsInts w.heap.size w sa sz) (hd : IsInts w.heap.size w da dz) (hs' : IsInts w.heap.size w sa' sz') (hd' : IsInts w.heap.size w da' dz') :
    Calls Tryd.prog 13 #[.agg #[.bool c, .slice sa sz.length sc, .slice da dz.length dc], .agg #[.bool c', .slice sa' sz'.length sc', .slice da' dz'.length dc'], .bool has] w (UR (lsE c sz dz c' sz' dz') (onc (lsE c sz dz c' sz' dz') c) (onl (lsE c sz dz c' sz' dz') [((shD c dz c' dz' has).length : Int)]) (onl (lsE c sz dz c' sz' dz') (shD c dz c' dz' has)) w) := by
  have HI : Hid (IsInts w.heap.size w sa sz ∧ IsInts w.heap.size w da dz ∧ IsInts w.heap.size w sa' sz' ∧ IsInts w.heap.size w da' dz') := ⟨hs, hd, hs', hd'⟩
  clear hs hd hs' hd'
  have HB0 : Hid (Below w.heap.size w (((w.alloc (.cells #[.bool c, .slice sa sz.length sc, .slice da dz.length dc] 24)).alloc (.cells #[.bool c', .slice sa' sz'.length sc', .slice da' dz'.length dc'] 24)).alloc (.cells #[.bool false, .slice none 0 0, .slice none 0 0] 24))) := (((Below.refl _ w).alloc (Nat.le_refl _) _).alloc (by simp) _).alloc (by simp; omega) _
  have HP0 : Hid (Abx (((w.alloc (.cells #[.bool c, .slice sa sz.length sc, .slice da dz.length dc] 24)).alloc (.cells #[.bool c', .slice sa' sz'.length sc', .slice da' dz'.length dc'] 24)).alloc (.cells #[.bool false, .slice none 0 0, .slice none 0 0] 24)) w.heap.size (.bool c) (.slice sa sz.length sc) (.slice da dz.length dc)) := ((Abx.new w (.bool c) (.slice sa sz.length sc) (.slice da dz.length dc)).al _).al _
  have HQ0 : Hid (Abx (((w.alloc (.cells #[.bool c, .slice sa sz.length sc, .slice da dz.length dc] 24)).alloc (.cells #[.bool c', .slice sa' sz'.length sc', .slice da' dz'.length dc'] 24)).alloc (.cells #[.bool false, .slice none 0 0, .slice none 0 0] 24)) (w.heap.size + 1) (.bool c') (.slice sa' sz'.length sc') (.slice da' dz'.length dc')) := (Abx.new1 w (.cells #[.bool c, .slice sa sz.length sc, .slice da dz.length dc] 24) (.bool c') (.slice sa' sz'.length sc') (.slice da' dz'.length dc')).al _
  have HR0 : Hid (Abx (((w.alloc (.cells #[.bool c, .slice sa sz.length sc, .slice da dz.length dc] 24)).alloc (.cells #[.bool c', .slice sa' sz'.length sc', .slice da' dz'.length dc'] 24)).alloc (.cells #[.bool false, .slice none 0 0, .slice none 0 0] 24)) (w.heap.size + 1 + 1) (.bool false) (.slice none 0 0) (.slice none 0 0)) := by
    have h := Abx.new ((w.alloc (.cells #[.bool c, .slice sa sz.length sc, .slice da dz.length dc] 24)).alloc (.cells #[.bool c', .slice sa' sz'.length sc', .slice da' dz'.length dc'] 24)) (.bool false) (.slice none 0 0) (.slice none 0 0)
    simp only [World.size_alloc] at h
    exact h
  have p0 := HP0.out.c0
  have p1 := HP0.out.c1
  have p2 := HP0.out.c2
  have q0 := HQ0.out.c0
  have q1 := HQ0.out.c1
  have q2 := HQ0.out.c2
  go_enter Tryd.func13, Tryd.ntmps13
  go_wp2_with fail
  refine (lists_any c c' sa sc sz da dc dz sa' sc' sz' da' dc' dz' h1 h2 h1' h2' _ ((HI.out.1.below HB0.out).mono HB0.out.size) ((HI.out.2.1.below HB0.out).mono HB0.out.size) ((HI.out.2.2.1.below HB0.out).mono HB0.out.size) ((HI.out.2.2.2.below HB0.out).mono HB0.out.size)).mono ?_
  rintro e v1 ⟨rfl, hC⟩
  have HB1 : Hid (Below w.heap.size w v1) := HB0.out.trans (hC.mono HB0.out.size)
  have HP1 : Hid (Abx v1 w.heap.size (.bool c) (.slice sa sz.length sc) (.slice da dz.length dc)) := HP0.out.go hC
  have HQ1 : Hid (Abx v1 (w.heap.size + 1) (.bool c') (.slice sa' sz'.length sc') (.slice da' dz'.length dc')) := HQ0.out.go hC
  have HR1 : Hid (Abx v1 (w.heap.size + 1 + 1) (.bool false) (.slice none 0 0) (.slice none 0 0)) := HR0.out.go hC
  have hR1 : w.heap.size + 1 + 1 < v1.heap.size := HR1.out.lt
  clear hC p0 p1 p2 q0 q1 q2 HB0 HP0 HQ0 HR0
  by_cases he : lsE c sz dz c' sz' dz' = 0
  · have HE : Hid (lsE c sz dz c' sz' dz' = 0) := he
    have hd4 : dz.length ≤ 4096 := (flawE_short (lsE_zero.1 he).1).2
    rw [he]
    clear he
    go_wp2_with fail
    go_loopw [9, 10] (fun v i wx => ∃ k : Nat, k ≤ dz.length ∧ i = .int .i64 k ∧ Abx wx w.heap.size (.bool c) (.slice sa sz.length sc) (.slice da dz.length dc) ∧ Abx wx (w.heap.size + 1) (.bool c') (.slice sa' sz'.length sc') (.slice da' dz'.length dc') ∧ Abx wx (w.heap.size + 1 + 1) (.bool false) (.slice none 0 0) (.slice none 0 0) ∧ wx.ownsRow v1.heap.size 3 1 v (shD c (dz.take k) c' dz' has).length ((shD c (dz.take k) c' dz' has).map (Value.int .i64)) ∧ v1.heap.size ≤ wx.heap.size ∧ Below w.heap.size w wx) (fun _ i _ => dz.length - (intOf i).toNat)
    case atStart => exact ⟨0, Nat.zero_le _, rfl, HP1.out, HQ1.out, HR1.out, World.ownsRow_nil _ _ _ _, Nat.le_refl _, HB1.out⟩
    case round =>
      obtain ⟨k, hk, rfl, hP, hQ, hR, hown, hsx, hBx⟩ := hrel
      obtain ⟨L, hL⟩ : ∃ L, L = shD c (dz.take k) c' dz' has := ⟨_, rfl⟩
      have HL : Hid (L = shD c (dz.take k) c' dz' has) := hL
      rw [← hL] at hown
      have hLl : L.length ≤ 4096 := by rw [hL]; have := shD_le (c := c) (dz := dz.take k) (c' := c') (dz' := dz') (has := has); rw [List.length_take] at this; omega
      clear hL
      obtain ⟨g, gc, rfl, hN⟩ := owns_new hown
      by_cases hlt : k < dz.length
      · have HNX : Hid (shD c (dz.take (k + 1)) c' dz' has = if (hsB c' dz' c (nth dz k) == has) = true then L ++ [nth dz k] else L) := by rw [HL.out]; exact shD_next hlt
        have a0 := hP.c0
        have a2 := hP.c2
        have b0 := hQ.c0
        have b1 := hQ.c1
        have b2 := hQ.c2
        have HQ : Hid (Abx wr w.heap.size (.bool c) (.slice sa sz.length sc) (.slice da dz.length dc) ∧ Abx wr (w.heap.size + 1) (.bool c') (.slice sa' sz'.length sc') (.slice da' dz'.length dc') ∧ Abx wr (w.heap.size + 1 + 1) (.bool false) (.slice none 0 0) (.slice none 0 0) ∧ Below w.heap.size w wr ∧ wr.ownsRow v1.heap.size 3 1 (.slice g L.length gc) L.length (L.map (Value.int .i64))) := ⟨hP, hQ, hR, hBx, hown⟩
        have hwr : w.heap.size ≤ wr.heap.size := hBx.size
        have HJ : Hid (IsInts wr.heap.size wr da' dz') := (HI.out.2.2.2.below hBx).mono hBx.size
        obtain ⟨be, oe, rfl, hbe, hcE⟩ := (HI.out.2.1.below hBx).at hlt
        have ce := hcE k hlt
        obtain ⟨b, hb⟩ : ∃ b, b = hsB c' dz' c (nth dz k) := ⟨_, rfl⟩
        have HH : Hid (hsB c' dz' c (nth dz k) = b) := hb.symm
        clear hP hQ hR hown hBx hcE hN hb
        go_wp2_with fail
        have hh := hs_any c' sa' sc' sz'.length da' dc' dz' c (nth dz k) h2' wr.drew HJ.out
        rw [HH.out] at hh
        by_cases hq : (b == has) = true
        · have HN2 : Hid (shD c (dz.take (k + 1)) c' dz' has = L ++ [nth dz k]) := by show _ = _; rw [HNX.out, HH.out, if_pos hq]
          go_region_held3 (fun w' => w'.cell? ⟨w.heap.size + 1, 0, none⟩ = some (.bool c') ∧ w'.cell? ⟨w.heap.size + 1, 1, none⟩ = some (.slice sa' sz'.length sc') ∧ w'.cell? ⟨w.heap.size + 1, 2, none⟩ = some (.slice da' dz'.length dc') ∧ w'.cell? ⟨w.heap.size, 0, none⟩ = some (.bool c) ∧ w'.cell? ⟨w.heap.size, 2, none⟩ = some (.slice (some ⟨be, oe, none⟩) dz.length dc) ∧ w'.cell? ⟨be, oe + k, none⟩ = some (.int .i64 (nth dz k))) (go_keep) (first | (go_at_call 28; refine hh.mono ?_; rintro e y3 ⟨rfl, hB3⟩; have hB3' : Below wr.heap.size wr y3 := (Below.refl wr.heap.size wr).drew.trans hB3; have G1 := HQ.out.2.1.go hB3'; have G2 := HQ.out.1.go hB3'; have G3 : y3.cell? ⟨be, oe + k, none⟩ = some (.int .i64 (nth dz k)) := (hB3'.cell (p := ⟨be, oe + k, none⟩) (by show be < wr.heap.size; omega)).trans ce; have j0 := G1.c0; have j1 := G1.c1; have j2 := G1.c2; have j3 := G2.c0; have j4 := G2.c2))
          have HOW : Hid (y3.ownsRow v1.heap.size 3 1 (.slice g L.length gc) L.length (L.map (Value.int .i64))) := own_go HQ.out.2.2.2.2 hB3'
          have hz3 := hB3'.size
          clear a0 a2 b0 b1 b2 ce hh
          go_wp2_with (at_builtin; refine app_list rfl _ _ rfl (y3.alloc (.cells #[.int .i64 (nth dz k)] 3)) v1.heap.size y3.heap.size (.slice g L.length gc) L (nth dz k) rfl rfl (HOW.out.alloc _) (heap_alloc_new y3 _) (by omega) (by rw [World.size_alloc]; omega) ?_; intro g1 gc1 w4 hown1 hB4)
          have Z7 : Below w.heap.size w w4 := ((HQ.out.2.2.2.1.trans (hB3'.mono hwr)).alloc (by omega) _).trans (hB4.mono (by omega))
          have hz4 := hB4.size
          rw [World.size_alloc] at hz4
          refine ⟨⟨k + 1, by omega, by go_num, (G2.al _).bel hB4 (by omega), (G1.al _).bel hB4 (by omega), ((HQ.out.2.2.1.go hB3').al _).bel hB4 (by omega), ?_, by omega, Z7⟩, by simp [intOf]; omega⟩
          rw [HN2.out]
          simpa using hown1
        · have HN2 : Hid (shD c (dz.take (k + 1)) c' dz' has = L) := by show _ = _; rw [HNX.out, HH.out, if_neg hq]
          have hq2 : (b == has) = false := by cases hx : (b == has); · rfl
                                              · exact absurd hx hq
          clear hq
          go_region_held3 (fun w' => w'.cell? ⟨w.heap.size + 1, 0, none⟩ = some (.bool c') ∧ w'.cell? ⟨w.heap.size + 1, 1, none⟩ = some (.slice sa' sz'.length sc') ∧ w'.cell? ⟨w.heap.size + 1, 2, none⟩ = some (.slice da' dz'.length dc') ∧ w'.cell? ⟨w.heap.size, 0, none⟩ = some (.bool c) ∧ w'.cell? ⟨w.heap.size, 2, none⟩ = some (.slice (some ⟨be, oe, none⟩) dz.length dc) ∧ w'.cell? ⟨be, oe + k, none⟩ = some (.int .i64 (nth dz k))) (go_keep) (first | (go_at_call 28; refine hh.mono ?_; rintro e y3 ⟨rfl, hB3⟩; have hB3' : Below wr.heap.size wr y3 := (Below.refl wr.heap.size wr).drew.trans hB3; have G1 := HQ.out.2.1.go hB3'; have G2 := HQ.out.1.go hB3'; have G3 : y3.cell? ⟨be, oe + k, none⟩ = some (.int .i64 (nth dz k)) := (hB3'.cell (p := ⟨be, oe + k, none⟩) (by show be < wr.heap.size; omega)).trans ce; have j0 := G1.c0; have j1 := G1.c1; have j2 := G1.c2; have j3 := G2.c0; have j4 := G2.c2))
          have hz3 := hB3'.size
          clear a0 a2 b0 b1 b2 ce hh
          go_wp2_with fail
          refine ⟨⟨k + 1, by omega, by go_num, G2, G1, HQ.out.2.2.1.go hB3', ?_, by omega, HQ.out.2.2.2.1.trans (hB3'.mono hwr)⟩, by simp [intOf]; omega⟩
          rw [HN2.out]
          exact own_go HQ.out.2.2.2.2 hB3'
      · obtain rfl : k = dz.length := by omega
        have HLD : Hid (L = shD c dz c' dz' has) := by have h := HL.out; rwa [List.take_length] at h
        clear hlt hk hown hQ
        have a0 := hP.c0
        have a2 := hP.c2
        have hs0 := hBx.size
        have HX : Hid (Abx wr (w.heap.size + 1 + 1) (.bool false) (.slice none 0 0) (.slice none 0 0) ∧ Below w.heap.size w wr ∧ w.heap.size + 1 + 1 < wr.heap.size) := ⟨hR, hBx, hR.lt⟩
        clear hR hBx hP
        go_wp2_with fail
        refine (vector_any c g gc L (by omega) wr hN.ints).mono ?_
        rintro e v9 ⟨xa, xc, ya, yc, rfl, hX, hY, hB9⟩
        have HR9 : Hid (Abx v9 (w.heap.size + 1 + 1) (.bool false) (.slice none 0 0) (.slice none 0 0)) := HX.out.1.go hB9
        have HB9 : Hid (Below w.heap.size w v9) := HX.out.2.1.trans (hB9.mono HX.out.2.1.size)
        have HXY : Hid (NewInts wr.heap.size v9 xa [(L.length : Int)] ∧ NewInts wr.heap.size v9 ya L) := ⟨hX, hY⟩
        have hRl := HX.out.2.2
        have r_0 := HR9.out.c0
        have r_1 := HR9.out.c1
        have r_2 := HR9.out.c2
        have f_0 := HR9.out.fr 0
        have f_1 := HR9.out.fr 1
        have f_2 := HR9.out.fr 2
        clear hX hY hB9 a0 a2
        go_wp2_with fail
        have FF := HR9.out.set3 (.bool c) (.slice xa 1 xc) (.slice ya L.length yc)
        have q0' := FF.c0
        have q1' := FF.c1
        have q2' := FF.c2
        refine bodyPost_ret (v := .tuple #[.agg #[.bool c, .slice xa 1 xc, .slice ya L.length yc], .int .i64 0]) (by simp [results, Tryd.results13, go_sem, q0', q1', q2']) rfl ?_
        have hX := (HXY.out.1.set3 (b := w.heap.size + 1 + 1) (by omega) (.bool c) (.slice xa 1 xc) (.slice ya L.length yc)).low (lo' := w.heap.size) (by omega)
        have hY := (HXY.out.2.set3 (b := w.heap.size + 1 + 1) (by omega) (.bool c) (.slice xa 1 xc) (.slice ya L.length yc)).low (lo' := w.heap.size) (by omega)
        have hZ := bel_set3 HB9.out (b := w.heap.size + 1 + 1) (by omega) (.bool c) (.slice xa 1 xc) (.slice ya L.length yc)
        have hUR := UR.ok (c := c) (xc := xc) (yc := yc) HE.out hX hY hZ
        rw [HLD.out] at hUR ⊢
        exact hUR
  · have t0 : (lsE c sz dz c' sz' dz' != 0) = true := by simpa using he
    have HA : Hid (lsE c sz dz c' sz' dz' ≠ 0) := he
    clear he
    have r_0 := HR1.out.c0
    have r_1 := HR1.out.c1
    have r_2 := HR1.out.c2
    have f_0 := HR1.out.fr 0
    have f_1 := HR1.out.fr 1
    have f_2 := HR1.out.fr 2
    go_wp2_with fail
    have FF := HR1.out.set3 (.bool false) (.slice none 0 0) (.slice none 0 0)
    have q0' := FF.c0
    have q1' := FF.c1
    have q2' := FF.c2
    exact bodyPost_ret (v := .tuple #[.agg #[.bool false, .slice none 0 0, .slice none 0 0], .int .i64 (lsE c sz dz c' sz' dz')]) (by simp [results, Tryd.results13, go_sem, q0', q1', q2']) rfl (UR.no rfl HA.out (bel_set3 HB1.out (by omega) _ _ _))
end Go.Proofs.YteieliajdfbipaaDoor
