/-
  What the document's answer says of two lists in one.
-/
import Derived.Test.YteieliajdfbipaaDoorRss
import Derived.Deep.QuietTactic
import Derived.BigQuiet
import Derived.WalkSmall
import Derived.Deep.RegionWith
import Derived.Deep.RegionHeld3
namespace Go.Proofs.YteieliajdfbipaaDoor
open Go.RowKit
set_option linter.unusedVariables false

theorem row_own {wr : World} {lo B n : Nat} {zs : List Int} (h : wr.rowIs B 3 n (upR (nth zs) n)) (hlo : lo ≤ B) (hn : zs.length = n) (h1 : n ≤ 100000) : wr.ownsRow lo 3 1 (.slice (some ⟨B, 0, none⟩) n n) n (zs.map (Value.int .i64)) := by
  obtain ⟨cur, hc, hs, hf⟩ := h
  refine ⟨by simp [hn], .inr ⟨B, n, cur, rfl, hlo, hc, Nat.le_refl _, by unfold maxLen; omega, by omega, ?_⟩⟩
  rw [Nat.mul_one]
  refine List.ext_getElem? fun i => ?_
  rw [List.getElem?_take, List.getElem?_map]
  by_cases hi : i < n
  · rw [if_pos hi, Array.getElem?_toList, hf i hi]
    unfold upR
    rw [if_pos hi, List.getElem?_eq_getElem (by omega), nth_get zs i (by omega)]
    rfl
  · rw [if_neg hi, List.getElem?_eq_none (by omega)]
    rfl
theorem NewInts.ints7 {lo n : Nat} {W W' : World} {a : Option Addr} {zs : List Int} (h : NewInts lo W a zs) (h' : IsInts n W' a zs) : IsInts n W a zs := by
  rcases h with e | ⟨b, off, e, h0, hb, hc, hz⟩
  · exact .inl e
  · rcases h' with e' | ⟨b', off', e', hb', hc'⟩
    · exact .inl e'
    · rw [e] at e'
      cases e'
      exact .inr ⟨b, off, e, hb', hc⟩
theorem lsE_swap {c : Bool} {sz dz : List Int} {c' : Bool} {sz' dz' : List Int} (h : lsE c sz dz c' sz' dz' = 0) : lsE c' sz' dz' c sz dz = 0 := by
  obtain ⟨h1, h2, h3, h4⟩ := lsE_zero.1 h
  exact lsE_zero.2 ⟨h2, h1, h4, h3⟩
set_option maxRecDepth 100000 in
set_option maxHeartbeats 2000000 in
theorem copied_own (a : Option Addr) (cap : Nat) (zs : List Int) (h1 : zs.length ≤ 100000) (w : World) (hI : IsInts w.heap.size w a zs) :
    Calls Tryd.prog 19 #[.slice a zs.length cap] w fun e w' => ∃ g c, e = .returned (.slice g zs.length c) ∧ w'.ownsRow w.heap.size 3 1 (.slice g zs.length c) zs.length (zs.map (Value.int .i64)) ∧ Below w.heap.size w w' := by
  obtain ⟨n, hn⟩ : ∃ n, n = zs.length := ⟨_, rfl⟩
  rw [← hn] at h1 ⊢
  have HN : Hid (n = zs.length) := hn
  clear hn
  have hmk := run_make_row' (P := Tryd.prog) 22 3 (.int .i64 0) 8 Tryd.underlying22 Tryd.infoInt rfl .i64 .i64 n (by omega) (by omega)
  have HI : Hid (IsInts w.heap.size w a zs) := hI
  clear hI
  go_enter Tryd.func19, Tryd.ntmps19
  go_wp2_with fail
  clear hmk
  go_loopw [4] (fun i wr => ∃ k : Nat, k ≤ n ∧ i = .int .i64 k ∧ wr.rowIs w.heap.size 3 n (upR (nth zs) k) ∧ Below w.heap.size w wr) (fun i _ => n - (intOf i).toNat)
  case atStart => exact ⟨0, Nat.zero_le _, rfl, (World.rowIs_made w (.int .i64 0) n 3).congr (fun j _ => by simp [upR]), (Below.refl _ w).alloc (Nat.le_refl _) _⟩
  case round =>
    obtain ⟨k, hk, rfl, hrow, hB⟩ := hrel
    by_cases hlt : k < n
    · obtain ⟨b, off, rfl, hb, hcell⟩ := (HI.out.below hB).at (q := k) (by rw [← HN.out]; exact hlt)
      have hc := hcell k (by rw [← HN.out]; exact hlt)
      clear hcell
      have c2 := hrow.cell hlt
      have f2 := hrow.frozen k
      go_wp2_with fail
      first
        | exact ⟨⟨k + 1, by omega, by go_num, upR_set hrow _ rfl, hB.setCell (p := ⟨w.heap.size, k, none⟩) (Nat.le_refl _) _⟩, by simp [intOf]; omega⟩
    · obtain rfl : k = n := by omega
      go_wp2_with fail
      go_ret
      exact ⟨some ⟨w.heap.size, 0, none⟩, k, rfl, row_own hrow (Nat.le_refl _) HN.out.symm h1, hB⟩
set_option maxRecDepth 100000 in
set_option maxHeartbeats 8000000 in
theorem united_any (c : Bool) (sa : Option Addr) (sc : Nat) (sz : List Int) (da : Option Addr) (dc : Nat) (dz : List Int) (c' : Bool) (sa' : Option Addr) (sc' : Nat) (sz' : List Int) (da' : Option Addr) (dc' : Nat) (dz' : List Int) (h1 : sz.length ≤ 9223372036854775807) (h2 : dz.length ≤ 9223372036854775807) (h1' : sz'.length ≤ 9223372036854775807) (h2' : dz'.length ≤ 9223372036854775807) (w : World) (hs : IsInts w.heap.size w sa sz) (hd : IsInts w.heap.size w da dz) (hs' : IsInts w.heap.size w sa' sz') (hd' : IsInts w.heap.size w da' dz') :
    Calls Tryd.prog 16 #[.agg #[.bool c, .slice sa sz.length sc, .slice da dz.length dc], .agg #[.bool c', .slice sa' sz'.length sc', .slice da' dz'.length dc']] w (UR (unE c sz dz c' sz' dz') (onc (unE c sz dz c' sz' dz') c) (onl (unE c sz dz c' sz' dz') [((unD c dz c' dz').length : Int)]) (onl (unE c sz dz c' sz' dz') (unD c dz c' dz')) w) := by
  have HI : Hid (IsInts w.heap.size w sa sz ∧ IsInts w.heap.size w da dz ∧ IsInts w.heap.size w sa' sz' ∧ IsInts w.heap.size w da' dz') := ⟨hs, hd, hs', hd'⟩
  clear hs hd hs' hd'
  have HB0 : Hid (Below w.heap.size w (((w.alloc (.cells #[.bool c, .slice sa sz.length sc, .slice da dz.length dc] 24)).alloc (.cells #[.bool c', .slice sa' sz'.length sc', .slice da' dz'.length dc'] 24)).alloc (.cells #[.bool false, .slice none 0 0, .slice none 0 0] 24))) := (((Below.refl _ w).alloc (Nat.le_refl _) _).alloc (by simp) _).alloc (by simp; omega) _
  have HP0 : Hid (Abx (((w.alloc (.cells #[.bool c, .slice sa sz.length sc, .slice da dz.length dc] 24)).alloc (.cells #[.bool c', .slice sa' sz'.length sc', .slice da' dz'.length dc'] 24)).alloc (.cells #[.bool false, .slice none 0 0, .slice none 0 0] 24)) w.heap.size (.bool c) (.slice sa sz.length sc) (.slice da dz.length dc)) := ((Abx.new w (.bool c) (.slice sa sz.length sc) (.slice da dz.length dc)).al _).al _
  have HQ0 : Hid (Abx (((w.alloc (.cells #[.bool c, .slice sa sz.length sc, .slice da dz.length dc] 24)).alloc (.cells #[.bool c', .slice sa' sz'.length sc', .slice da' dz'.length dc'] 24)).alloc (.cells #[.bool false, .slice none 0 0, .slice none 0 0] 24)) (w.heap.size + 1) (.bool c') (.slice sa' sz'.length sc') (.slice da' dz'.length dc')) := (Abx.new1 w (.cells #[.bool c, .slice sa sz.length sc, .slice da dz.length dc] 24) (.bool c') (.slice sa' sz'.length sc') (.slice da' dz'.length dc')).al _
  have HR0 : Hid (Abx (((w.alloc (.cells #[.bool c, .slice sa sz.length sc, .slice da dz.length dc] 24)).alloc (.cells #[.bool c', .slice sa' sz'.length sc', .slice da' dz'.length dc'] 24)).alloc (.cells #[.bool false, .slice none 0 0, .slice none 0 0] 24)) (w.heap.size + 1 + 1) (.bool false) (.slice none 0 0) (.slice none 0 0)) := by
    have h := Abx.new ((w.alloc (.cells #[.bool c, .slice sa sz.length sc, .slice da dz.length dc] 24)).alloc (.cells #[.bool c', .slice sa' sz'.length sc', .slice da' dz'.length dc'] 24)) (.bool false) (.slice none 0 0) (.slice none 0 0)
    simp only [World.size_alloc] at h
    exact h
  have p0 := HP0.out.c0
  have p1 := HP0.out.c1
  have p2 := HP0.out.c2
  have q0 := HQ0.out.c0
  have q1 := HQ0.out.c1
  have q2 := HQ0.out.c2
  go_enter Tryd.func16, Tryd.ntmps16
  go_wp2_with fail
  refine (lists_any c c' sa sc sz da dc dz sa' sc' sz' da' dc' dz' h1 h2 h1' h2' _ ((HI.out.1.below HB0.out).mono HB0.out.size) ((HI.out.2.1.below HB0.out).mono HB0.out.size) ((HI.out.2.2.1.below HB0.out).mono HB0.out.size) ((HI.out.2.2.2.below HB0.out).mono HB0.out.size)).mono ?_
  rintro e v1 ⟨rfl, hC⟩
  have HB1 : Hid (Below w.heap.size w v1) := HB0.out.trans (hC.mono HB0.out.size)
  have HP1 : Hid (Abx v1 w.heap.size (.bool c) (.slice sa sz.length sc) (.slice da dz.length dc)) := HP0.out.go hC
  have HQ1 : Hid (Abx v1 (w.heap.size + 1) (.bool c') (.slice sa' sz'.length sc') (.slice da' dz'.length dc')) := HQ0.out.go hC
  have HR1 : Hid (Abx v1 (w.heap.size + 1 + 1) (.bool false) (.slice none 0 0) (.slice none 0 0)) := HR0.out.go hC
  have hR1 : w.heap.size + 1 + 1 < v1.heap.size := HR1.out.lt
  clear hC p0 p1 p2 q0 q1 q2 HB0 HP0 HQ0 HR0
  have a0 := HP1.out.c0
  have b0 := HQ1.out.c0
  by_cases he : lsE c sz dz c' sz' dz' = 0
  · have HLS : Hid (lsE c sz dz c' sz' dz' = 0) := he
    have hd4 : dz.length ≤ 4096 := (flawE_short (lsE_zero.1 he).1).2
    have hd4' : dz'.length ≤ 4096 := (flawE_short (lsE_zero.1 he).2.1).2
    rw [he]
    clear he
    by_cases hcc : c = c'
    · have tc : (c == c') = true := by simp [hcc]
      have HCC : Hid (c = c') := hcc
      clear hcc
      have a1 := HP1.out.c1
      have a2 := HP1.out.c2
      have b1 := HQ1.out.c1
      have b2 := HQ1.out.c2
      go_wp2_with fail
      obtain ⟨M, hM⟩ : ∃ M, M = shD c' dz' c dz false := ⟨_, rfl⟩
      have HM : Hid (M = shD c' dz' c dz false ∧ unD c dz c' dz' = dz ++ M) := ⟨hM, by rw [hM]; rfl⟩
      have hMl : M.length ≤ 4096 := by rw [hM]; have := shD_le (c := c') (dz := dz') (c' := c) (dz' := dz) (has := false); omega
      have hh := shared_any c' sa' sc' sz' da' dc' dz' c sa sc sz da dc dz false h1' h2' h1 h2 v1 ((HI.out.2.2.1.below HB1.out).mono HB1.out.size) ((HI.out.2.2.2.below HB1.out).mono HB1.out.size) ((HI.out.1.below HB1.out).mono HB1.out.size) ((HI.out.2.1.below HB1.out).mono HB1.out.size)
      rw [lsE_swap HLS.out, onl_ok rfl, onl_ok rfl, onc_ok rfl, ← hM] at hh
      refine hh.mono ?_
      clear hh hM
      rintro e v2 ⟨xa, xc, ya, yc, rfl, hX, hY, hC⟩
      have HB2 : Hid (Below w.heap.size w v2) := HB1.out.trans (hC.mono HB1.out.size)
      have HP2 : Hid (Abx v2 w.heap.size (.bool c) (.slice sa sz.length sc) (.slice da dz.length dc)) := HP1.out.go hC
      have HQ2 : Hid (Abx v2 (w.heap.size + 1) (.bool c') (.slice sa' sz'.length sc') (.slice da' dz'.length dc')) := HQ1.out.go hC
      have HR2 : Hid (Abx v2 (w.heap.size + 1 + 1) (.bool false) (.slice none 0 0) (.slice none 0 0)) := HR1.out.go hC
      have hR2 : w.heap.size + 1 + 1 < v2.heap.size := HR2.out.lt
      have hv12 : v1.heap.size ≤ v2.heap.size := hC.size
      obtain ⟨v3, hv3⟩ : ∃ v3, v3 = v2.alloc (.cells #[.bool c', .slice xa 1 xc, .slice ya M.length yc] 24) := ⟨_, rfl⟩
      have HV3 : Hid (v3 = v2.alloc (.cells #[.bool c', .slice xa 1 xc, .slice ya M.length yc] 24)) := hv3
      have HO : Hid (Abx v3 w.heap.size (.bool c) (.slice sa sz.length sc) (.slice da dz.length dc) ∧ Abx v3 (w.heap.size + 1 + 1) (.bool false) (.slice none 0 0) (.slice none 0 0) ∧ Abx v3 v2.heap.size (.bool c') (.slice xa 1 xc) (.slice ya M.length yc) ∧ NewInts v1.heap.size v3 ya M ∧ Below w.heap.size w v3) := by
        rw [hv3]
        exact ⟨HP2.out.al _, HR2.out.al _, Abx.new v2 _ _ _, hY.al _, HB2.out.alloc HB2.out.size _⟩
      have hz3 : v3.heap.size = v2.heap.size + 1 := by rw [hv3]; exact World.size_alloc _ _
      have m2 := HO.out.2.2.1.c2
      have a2' := HO.out.1.c2
      have HR3 : Hid (Abx v3 (w.heap.size + 1 + 1) (.bool false) (.slice none 0 0) (.slice none 0 0)) := HO.out.2.1
      have HB3 : Hid (Below w.heap.size w v3) := HO.out.2.2.2.2
      clear hX hY hC hv3 a0 a1 a2 b0 b1 b2
      by_cases hbig : 4096 < dz.length + M.length
      · have HE : Hid (unE c sz dz c' sz' dz' = 7) := by show unE _ _ _ _ _ _ = _; unfold unE; rw [if_neg (not_not_intro HLS.out), if_neg (not_not_intro HCC.out), if_pos (by rw [HM.out.2, List.length_append]; exact hbig)]
        have tb : (4096 : Int) < (dz.length : Int) + (M.length : Int) := by omega
        have r_0 := HR3.out.c0
        have r_1 := HR3.out.c1
        have r_2 := HR3.out.c2
        have f_0 := HR3.out.fr 0
        have f_1 := HR3.out.fr 1
        have f_2 := HR3.out.fr 2
        go_wp2_with (rw [← HV3.out])
        have FF := HR3.out.set3 (.bool false) (.slice none 0 0) (.slice none 0 0)
        have q0' := FF.c0
        have q1' := FF.c1
        have q2' := FF.c2
        exact bodyPost_ret (v := .tuple #[.agg #[.bool false, .slice none 0 0, .slice none 0 0], .int .i64 (7)]) (by simp [results, Tryd.results16, go_sem, q0', q1', q2']) rfl (UR.no HE.out (by decide) (bel_set3 HB3.out (by omega) _ _ _))
      · have HE : Hid (unE c sz dz c' sz' dz' = 0) := unE_zero.2 ⟨HLS.out, HCC.out, by rw [HM.out.2, List.length_append]; omega⟩
        have tb : ¬ (4096 : Int) < (dz.length : Int) + (M.length : Int) := by omega
        go_wp2_with (rw [← HV3.out])
        clear tb HR3 HB3
        refine (copied_own da dc dz (by omega) v3 ((HI.out.2.1.below HO.out.2.2.2.2).mono HO.out.2.2.2.2.size)).mono ?_
        rintro e v4 ⟨g0, gc0, rfl, hown0, hC4⟩
        have HO4 : Hid (Abx v4 w.heap.size (.bool c) (.slice sa sz.length sc) (.slice da dz.length dc) ∧ Abx v4 (w.heap.size + 1 + 1) (.bool false) (.slice none 0 0) (.slice none 0 0) ∧ Abx v4 v2.heap.size (.bool c') (.slice xa 1 xc) (.slice ya M.length yc) ∧ NewInts v1.heap.size v4 ya M ∧ Below w.heap.size w v4) := ⟨HO.out.1.go hC4, HO.out.2.1.go hC4, HO.out.2.2.1.go hC4, HO.out.2.2.2.1.go hC4, HO.out.2.2.2.2.trans (hC4.mono HO.out.2.2.2.2.size)⟩
        have hz4 : v3.heap.size ≤ v4.heap.size := hC4.size
        have HW0 : Hid (v4.ownsRow v3.heap.size 3 1 (.slice g0 dz.length gc0) dz.length (dz.map (Value.int .i64))) := hown0
        have HSM : Hid (IsInts v3.heap.size v3 ya M) := HO.out.2.2.2.1.ints
        clear hown0 hC4 m2 a2'
        go_wp2_with fail
        go_loopw [8, 9] (fun v i wx => ∃ k : Nat, k ≤ M.length ∧ i = .int .i64 k ∧ Abx wx w.heap.size (.bool c) (.slice sa sz.length sc) (.slice da dz.length dc) ∧ Abx wx (w.heap.size + 1 + 1) (.bool false) (.slice none 0 0) (.slice none 0 0) ∧ Abx wx v2.heap.size (.bool c') (.slice xa 1 xc) (.slice ya M.length yc) ∧ wx.ownsRow v3.heap.size 3 1 v (dz ++ M.take k).length ((dz ++ M.take k).map (Value.int .i64)) ∧ IsInts v3.heap.size wx ya M ∧ v3.heap.size ≤ wx.heap.size ∧ Below w.heap.size w wx) (fun _ i _ => M.length - (intOf i).toNat)
        case atStart => exact ⟨0, Nat.zero_le _, rfl, HO4.out.1, HO4.out.2.1, HO4.out.2.2.1, by simpa using HW0.out, HO4.out.2.2.2.1.ints7 HSM.out, hz4, HO4.out.2.2.2.2⟩
        case round =>
          obtain ⟨k, hk, rfl, hP, hR, hQ, hown, hSM, hsx, hBx⟩ := hrel
          obtain ⟨L, hL⟩ : ∃ L, L = dz ++ M.take k := ⟨_, rfl⟩
          have HL : Hid (L = dz ++ M.take k) := hL
          rw [← hL] at hown
          have hLl : L.length ≤ 10000 := by rw [hL, List.length_append, List.length_take]; omega
          clear hL
          obtain ⟨g, gc, rfl, hN⟩ := owns_new hown
          by_cases hlt : k < M.length
          · have HN2 : Hid (dz ++ M.take (k + 1) = L ++ [nth M k]) := by show _ = _; rw [HL.out, List.take_succ_eq_append_getElem hlt, ← nth_get M k hlt, List.append_assoc]
            have m2 := hQ.c2
            obtain ⟨be, oe, rfl, hbe, hcE⟩ := hSM.at hlt
            have ce := hcE k hlt
            have HQ : Hid (Abx wr w.heap.size (.bool c) (.slice sa sz.length sc) (.slice da dz.length dc) ∧ Abx wr (w.heap.size + 1 + 1) (.bool false) (.slice none 0 0) (.slice none 0 0) ∧ Abx wr v2.heap.size (.bool c') (.slice xa 1 xc) (.slice (some ⟨be, oe, none⟩) M.length yc) ∧ Below w.heap.size w wr ∧ IsInts v3.heap.size wr (some ⟨be, oe, none⟩) M) := ⟨hP, hR, hQ, hBx, hSM⟩
            have hwr : w.heap.size ≤ wr.heap.size := hBx.size
            have HOW : Hid (wr.ownsRow v3.heap.size 3 1 (.slice g L.length gc) L.length (L.map (Value.int .i64))) := hown
            clear hP hR hQ hown hBx hSM hcE hN
            go_wp2_with (at_builtin; refine app_list rfl _ _ rfl (wr.alloc (.cells #[.int .i64 (nth M k)] 3)) v3.heap.size wr.heap.size (.slice g L.length gc) L (nth M k) rfl rfl (HOW.out.alloc _) (heap_alloc_new wr _) (by omega) (by rw [World.size_alloc]; omega) ?_; intro g1 gc1 w4 hown1 hB4)
            have Z7 : Below w.heap.size w w4 := (HQ.out.2.2.2.1.alloc hwr _).trans (hB4.mono (by omega))
            have hz4' := hB4.size
            rw [World.size_alloc] at hz4'
            refine ⟨⟨k + 1, by omega, by go_num, (HQ.out.1.al _).bel hB4 (by omega), (HQ.out.2.1.al _).bel hB4 (by omega), (HQ.out.2.2.1.al _).bel hB4 (by omega), ?_, (HQ.out.2.2.2.2.below ((Below.refl _ wr).alloc hsx _)).below hB4, by omega, Z7⟩, by simp [intOf]; omega⟩
            rw [HN2.out]
            simpa using hown1
          · obtain rfl : k = M.length := by omega
            have HLD : Hid (L = unD c dz c' dz') := by show _ = _; rw [HL.out, List.take_length, HM.out.2]
            have m2 := hQ.c2
            clear hlt hk hown hQ hSM
            have a0 := hP.c0
            have a2 := hP.c2
            have hs0 := hBx.size
            have HX : Hid (Abx wr (w.heap.size + 1 + 1) (.bool false) (.slice none 0 0) (.slice none 0 0) ∧ Below w.heap.size w wr ∧ w.heap.size + 1 + 1 < wr.heap.size) := ⟨hR, hBx, hR.lt⟩
            clear hR hBx hP
            go_wp2_with fail
            refine (vector_any c g gc L (by omega) wr hN.ints).mono ?_
            rintro e v9 ⟨xa, xc, ya, yc, rfl, hX, hY, hB9⟩
            have HR9 : Hid (Abx v9 (w.heap.size + 1 + 1) (.bool false) (.slice none 0 0) (.slice none 0 0)) := HX.out.1.go hB9
            have HB9 : Hid (Below w.heap.size w v9) := HX.out.2.1.trans (hB9.mono HX.out.2.1.size)
            have HXY : Hid (NewInts wr.heap.size v9 xa [(L.length : Int)] ∧ NewInts wr.heap.size v9 ya L) := ⟨hX, hY⟩
            have hRl := HX.out.2.2
            have r_0 := HR9.out.c0
            have r_1 := HR9.out.c1
            have r_2 := HR9.out.c2
            have f_0 := HR9.out.fr 0
            have f_1 := HR9.out.fr 1
            have f_2 := HR9.out.fr 2
            clear hX hY hB9 a0 a2
            go_wp2_with fail
            have FF := HR9.out.set3 (.bool c) (.slice xa 1 xc) (.slice ya L.length yc)
            have q0' := FF.c0
            have q1' := FF.c1
            have q2' := FF.c2
            refine bodyPost_ret (v := .tuple #[.agg #[.bool c, .slice xa 1 xc, .slice ya L.length yc], .int .i64 0]) (by simp [results, Tryd.results16, go_sem, q0', q1', q2']) rfl ?_
            have hX := (HXY.out.1.set3 (b := w.heap.size + 1 + 1) (by omega) (.bool c) (.slice xa 1 xc) (.slice ya L.length yc)).low (lo' := w.heap.size) (by omega)
            have hY := (HXY.out.2.set3 (b := w.heap.size + 1 + 1) (by omega) (.bool c) (.slice xa 1 xc) (.slice ya L.length yc)).low (lo' := w.heap.size) (by omega)
            have hZ := bel_set3 HB9.out (b := w.heap.size + 1 + 1) (by omega) (.bool c) (.slice xa 1 xc) (.slice ya L.length yc)
            have hUR := UR.ok (c := c) (xc := xc) (yc := yc) HE.out hX hY hZ
            rw [HLD.out] at hUR ⊢
            exact hUR
    · have tc : (c == c') = false := by simp [hcc]
      have HE : Hid (unE c sz dz c' sz' dz' = 6) := by show unE _ _ _ _ _ _ = _; unfold unE; rw [if_neg (not_not_intro HLS.out), if_pos hcc]
      clear hcc
      have r_0 := HR1.out.c0
      have r_1 := HR1.out.c1
      have r_2 := HR1.out.c2
      have f_0 := HR1.out.fr 0
      have f_1 := HR1.out.fr 1
      have f_2 := HR1.out.fr 2
      go_wp2_with fail
      have FF := HR1.out.set3 (.bool false) (.slice none 0 0) (.slice none 0 0)
      have q0' := FF.c0
      have q1' := FF.c1
      have q2' := FF.c2
      exact bodyPost_ret (v := .tuple #[.agg #[.bool false, .slice none 0 0, .slice none 0 0], .int .i64 (6)]) (by simp [results, Tryd.results16, go_sem, q0', q1', q2']) rfl (UR.no HE.out (by decide) (bel_set3 HB1.out (by omega) _ _ _))
  · have t0 : (lsE c sz dz c' sz' dz' != 0) = true := by simpa using he
    have t1 : (lsE c sz dz c' sz' dz' == 0) = false := by simpa using he
    have HE : Hid (unE c sz dz c' sz' dz' = lsE c sz dz c' sz' dz') := by show unE _ _ _ _ _ _ = _; unfold unE; rw [if_pos he]
    have HA : Hid (lsE c sz dz c' sz' dz' ≠ 0) := he
    clear he
    have r_0 := HR1.out.c0
    have r_1 := HR1.out.c1
    have r_2 := HR1.out.c2
    have f_0 := HR1.out.fr 0
    have f_1 := HR1.out.fr 1
    have f_2 := HR1.out.fr 2
    go_wp2_with fail
    have FF := HR1.out.set3 (.bool false) (.slice none 0 0) (.slice none 0 0)
    have q0' := FF.c0
    have q1' := FF.c1
    have q2' := FF.c2
    exact bodyPost_ret (v := .tuple #[.agg #[.bool false, .slice none 0 0, .slice none 0 0], .int .i64 (lsE c sz dz c' sz' dz')]) (by simp [results, Tryd.results16, go_sem, q0', q1', q2']) rfl (UR.no HE.out HA.out (bel_set3 HB1.out (by omega) _ _ _))
end Go.Proofs.YteieliajdfbipaaDoor
