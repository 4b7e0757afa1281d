/-
  What the document's answer says of where cells are.
-/
import Derived.Test.YteieliajdfbipaaDoorRsh
import Derived.Test.YteieliajdfbipaaDoorRmove
import Derived.Deep.QuietTactic
import Derived.BigQuiet
import Derived.WalkSmall
import Derived.Deep.RegionWith
import Derived.Deep.RegionHeld3
namespace Go.Proofs.YteieliajdfbipaaDoor
open Go.RowKit
set_option linter.unusedVariables false

set_option maxRecDepth 100000 in
set_option maxHeartbeats 8000000 in
theorem indexed_any (c : Bool) (sa : Option Addr) (sc : Nat) (sz : List Int) (da : Option Addr) (dc : Nat) (dz : List Int) (c' : Bool) (sa' : Option Addr) (sc' : Nat) (sz' : List Int) (da' : Option Addr) (dc' : Nat) (dz' : List Int) (h1 : sz.length ≤ 9223372036854775807) (h2 : dz.length ≤ 9223372036854775807) (h1' : sz'.length ≤ 9223372036854775807) (h2' : dz'.length ≤ 9223372036854775807) (w : World) (hs : IsInts w.heap.size w sa sz) (hd : IsInts w.heap.size w da dz) (hs' : IsInts w.heap.size w sa' sz') (hd' : IsInts w.heap.size w da' dz') :
    Calls Tryd.prog 6 #[.agg #[.bool c, .slice sa sz.length sc, .slice da dz.length dc], .agg #[.bool c', .slice sa' sz'.length sc', .slice da' dz'.length dc']] w (UR (ixE c sz dz c' sz' dz') (onc (ixE c sz dz c' sz' dz') false) (onl (ixE c sz dz c' sz' dz') sz') (onl (ixE c sz dz c' sz' dz') (ixD c dz c' dz')) w) := by
  have HI : Hid (IsInts w.heap.size w sa sz ∧ IsInts w.heap.size w da dz ∧ IsInts w.heap.size w sa' sz' ∧ IsInts w.heap.size w da' dz') := ⟨hs, hd, hs', hd'⟩
  clear hs hd hs' hd'
  have HB0 : Hid (Below w.heap.size w (((w.alloc (.cells #[.bool c, .slice sa sz.length sc, .slice da dz.length dc] 24)).alloc (.cells #[.bool c', .slice sa' sz'.length sc', .slice da' dz'.length dc'] 24)).alloc (.cells #[.bool false, .slice none 0 0, .slice none 0 0] 24))) := (((Below.refl _ w).alloc (Nat.le_refl _) _).alloc (by simp) _).alloc (by simp; omega) _
  have HP0 : Hid (Abx (((w.alloc (.cells #[.bool c, .slice sa sz.length sc, .slice da dz.length dc] 24)).alloc (.cells #[.bool c', .slice sa' sz'.length sc', .slice da' dz'.length dc'] 24)).alloc (.cells #[.bool false, .slice none 0 0, .slice none 0 0] 24)) w.heap.size (.bool c) (.slice sa sz.length sc) (.slice da dz.length dc)) := ((Abx.new w (.bool c) (.slice sa sz.length sc) (.slice da dz.length dc)).al _).al _
  have HQ0 : Hid (Abx (((w.alloc (.cells #[.bool c, .slice sa sz.length sc, .slice da dz.length dc] 24)).alloc (.cells #[.bool c', .slice sa' sz'.length sc', .slice da' dz'.length dc'] 24)).alloc (.cells #[.bool false, .slice none 0 0, .slice none 0 0] 24)) (w.heap.size + 1) (.bool c') (.slice sa' sz'.length sc') (.slice da' dz'.length dc')) := (Abx.new1 w (.cells #[.bool c, .slice sa sz.length sc, .slice da dz.length dc] 24) (.bool c') (.slice sa' sz'.length sc') (.slice da' dz'.length dc')).al _
  have HR0 : Hid (Abx (((w.alloc (.cells #[.bool c, .slice sa sz.length sc, .slice da dz.length dc] 24)).alloc (.cells #[.bool c', .slice sa' sz'.length sc', .slice da' dz'.length dc'] 24)).alloc (.cells #[.bool false, .slice none 0 0, .slice none 0 0] 24)) (w.heap.size + 1 + 1) (.bool false) (.slice none 0 0) (.slice none 0 0)) := by
    have h := Abx.new ((w.alloc (.cells #[.bool c, .slice sa sz.length sc, .slice da dz.length dc] 24)).alloc (.cells #[.bool c', .slice sa' sz'.length sc', .slice da' dz'.length dc'] 24)) (.bool false) (.slice none 0 0) (.slice none 0 0)
    simp only [World.size_alloc] at h
    exact h
  have p0 := HP0.out.c0
  have p1 := HP0.out.c1
  have p2 := HP0.out.c2
  have q0 := HQ0.out.c0
  have q1 := HQ0.out.c1
  have q2 := HQ0.out.c2
  go_enter Tryd.func6, Tryd.ntmps6
  go_wp2_with fail
  refine (flaws_any c c' sa sc sz da dc dz sa' sc' sz' da' dc' dz' h1 h2 h1' h2' _ ((HI.out.1.below HB0.out).mono HB0.out.size) ((HI.out.2.1.below HB0.out).mono HB0.out.size) ((HI.out.2.2.1.below HB0.out).mono HB0.out.size) ((HI.out.2.2.2.below HB0.out).mono HB0.out.size)).mono ?_
  rintro e v1 ⟨rfl, hC⟩
  have HB1 : Hid (Below w.heap.size w v1) := HB0.out.trans (hC.mono HB0.out.size)
  have HP1 : Hid (Abx v1 w.heap.size (.bool c) (.slice sa sz.length sc) (.slice da dz.length dc)) := HP0.out.go hC
  have HQ1 : Hid (Abx v1 (w.heap.size + 1) (.bool c') (.slice sa' sz'.length sc') (.slice da' dz'.length dc')) := HQ0.out.go hC
  have HR1 : Hid (Abx v1 (w.heap.size + 1 + 1) (.bool false) (.slice none 0 0) (.slice none 0 0)) := HR0.out.go hC
  have hR1 : w.heap.size + 1 + 1 < v1.heap.size := HR1.out.lt
  clear hC p0 p1 p2 q0 q1 q2 HB0 HP0 HQ0 HR0
  have a1 := HP1.out.c1
  by_cases he : flawsE c sz dz c' sz' dz' = 0
  · rw [he]
    by_cases hl : sz.length = 1
    · have HE : Hid (ixE c sz dz c' sz' dz' = 0) := ixE_zero.2 ⟨(flawsE_zero.1 he).1, (flawsE_zero.1 he).2, hl⟩
      have tl : ((sz.length : Int) != 1) = false := by rw [hl]; rfl
      have hs6 : sz'.length ≤ 6 := (flawE_short (flawsE_zero.1 he).2).1
      have hd4 : dz.length ≤ 4096 := (flawE_short (flawsE_zero.1 he).1).2
      have hd4' : dz'.length ≤ 4096 := (flawE_short (flawsE_zero.1 he).2).2
      obtain ⟨D, hD⟩ : ∃ D, D = ixD c dz c' dz' := ⟨_, rfl⟩
      have HD : Hid (D = ixD c dz c' dz' ∧ D.length = dz'.length ∧ ∀ k, k < dz'.length → nth D k = (fdN c c' (nth dz' k) dz : Int)) := ⟨hD, by rw [hD, ixD_length], fun k hk => by rw [hD, ixD_nth hk]⟩
      have hDl : D.length ≤ dz'.length ∧ dz'.length ≤ D.length := by have := HD.out.2.1; omega
      have b1 := HQ1.out.c1
      clear he hl hD
      go_wp2_with fail
      refine (copied_any sa' sc' sz' (by omega) v1 ((HI.out.2.2.1.below HB1.out).mono HB1.out.size)).mono ?_
      rintro e v2 ⟨g, gc, rfl, hN, hC⟩
      have HB2 : Hid (Below w.heap.size w v2) := HB1.out.trans (hC.mono HB1.out.size)
      have HP2 : Hid (Abx v2 w.heap.size (.bool c) (.slice sa sz.length sc) (.slice da dz.length dc)) := HP1.out.go hC
      have HQ2 : Hid (Abx v2 (w.heap.size + 1) (.bool c') (.slice sa' sz'.length sc') (.slice da' dz'.length dc')) := HQ1.out.go hC
      have HR2 : Hid (Abx v2 (w.heap.size + 1 + 1) (.bool false) (.slice none 0 0) (.slice none 0 0)) := HR1.out.go hC
      have hR2 : w.heap.size + 1 + 1 < v2.heap.size := HR2.out.lt
      have hv12 : v1.heap.size ≤ v2.heap.size := hC.size
      clear hC a1 b1 tl
      obtain ⟨B, hB⟩ : ∃ B, B = v2.heap.size := ⟨_, rfl⟩
      obtain ⟨v3, hv3⟩ : ∃ v3, v3 = v2.alloc (.cells #[.bool false, .slice g sz'.length gc, .slice none 0 0] 24) := ⟨_, rfl⟩
      have HV3 : Hid (v3 = v2.alloc (.cells #[.bool false, .slice g sz'.length gc, .slice none 0 0] 24) ∧ B = v2.heap.size) := ⟨hv3, hB⟩
      have HO : Hid (Abx v3 w.heap.size (.bool c) (.slice sa sz.length sc) (.slice da dz.length dc) ∧ Abx v3 (w.heap.size + 1) (.bool c') (.slice sa' sz'.length sc') (.slice da' dz'.length dc') ∧ Abx v3 (w.heap.size + 1 + 1) (.bool false) (.slice none 0 0) (.slice none 0 0) ∧ Abx v3 B (.bool false) (.slice g sz'.length gc) (.slice none 0 0) ∧ SepInts v1.heap.size v3.heap.size B v3 g sz' ∧ Below w.heap.size w v3) := by
        rw [hv3, hB]
        exact ⟨HP2.out.al _, HQ2.out.al _, HR2.out.al _, Abx.new v2 _ _ _, ((SepInts.of_new hN (.inr (Nat.le_refl _))).al (Nat.le_refl _) _).high (by simp), HB2.out.alloc HB2.out.size _⟩
      have hBl : w.heap.size + 1 + 1 < B := by rw [hB]; exact hR2
      have hB3 : B < v3.heap.size := HO.out.2.2.2.1.lt
      have hv13 : v1.heap.size ≤ v3.heap.size := by rw [hv3]; simp; omega
      clear hN hv3 hB
      go_wp2_with fail
      rw [← HV3.out.2, ← HV3.out.1]
      go_loopw [8] (fun i wx => ∃ (k : Nat) (v : Value), k ≤ dz'.length ∧ i = .int .i64 k ∧ Abx wx w.heap.size (.bool c) (.slice sa sz.length sc) (.slice da dz.length dc) ∧ Abx wx (w.heap.size + 1) (.bool c') (.slice sa' sz'.length sc') (.slice da' dz'.length dc') ∧ Abx wx (w.heap.size + 1 + 1) (.bool false) (.slice none 0 0) (.slice none 0 0) ∧ Abx wx B (.bool false) (.slice g sz'.length gc) v ∧ wx.ownsRow v3.heap.size 3 1 v (D.take k).length ((D.take k).map (Value.int .i64)) ∧ SepInts v1.heap.size v3.heap.size B wx g sz' ∧ v3.heap.size ≤ wx.heap.size ∧ Below w.heap.size w wx) (fun i _ => dz'.length - (intOf i).toNat)
      case atStart => exact ⟨0, .slice none 0 0, Nat.zero_le _, rfl, HO.out.1, HO.out.2.1, HO.out.2.2.1, HO.out.2.2.2.1, World.ownsRow_nil _ _ _ _, HO.out.2.2.2.2.1, Nat.le_refl _, HO.out.2.2.2.2.2⟩
      case round =>
        obtain ⟨k, v, hk, rfl, hP, hQ, hR, hU, hown, hSp, hsx, hBx⟩ := hrel
        by_cases hlt : k < dz'.length
        · have HQ : Hid (Abx wr w.heap.size (.bool c) (.slice sa sz.length sc) (.slice da dz.length dc) ∧ Abx wr (w.heap.size + 1) (.bool c') (.slice sa' sz'.length sc') (.slice da' dz'.length dc') ∧ Abx wr (w.heap.size + 1 + 1) (.bool false) (.slice none 0 0) (.slice none 0 0) ∧ Abx wr B (.bool false) (.slice g sz'.length gc) v ∧ SepInts v1.heap.size v3.heap.size B wr g sz' ∧ Below w.heap.size w wr ∧ wr.ownsRow v3.heap.size 3 1 v (D.take k).length ((D.take k).map (Value.int .i64))) := ⟨hP, hQ, hR, hU, hSp, hBx, hown⟩
          have a0 := hP.c0
          have a2 := hP.c2
          have b0 := hQ.c0
          have b2 := hQ.c2
          have hkD : k ≤ D.length := by omega
          obtain ⟨be, oe, rfl, hbe, hcE⟩ := (HI.out.2.2.2.below hBx).at hlt
          have ce := hcE k hlt
          have hwr : w.heap.size ≤ wr.heap.size := hBx.size
          have hVW : Hid (nth D k = (fdN c c' (nth dz' k) dz : Int)) := HD.out.2.2 k hlt
          clear hP hQ hR hU hown hSp hBx hcE
          go_wp2_with fail
          go_loopw [9] (fun t wx => ∃ m n : Nat, m ≤ dz.length ∧ t = .int .i64 m ∧ Hid (∀ j, j < m → ¬ (c = c' ∧ nth dz j = nth dz' k)) ∧ wx = wr.drewN n) (fun t _ => dz.length - (intOf t).toNat)
          case atStart => exact ⟨0, 0, Nat.zero_le _, rfl, fun j hj => absurd hj (Nat.not_lt_zero j), rfl⟩
          case round =>
            obtain ⟨m, n, hm, rfl, HM, hv⟩ := hrel
            subst hv
            by_cases hlm : m < dz.length
            · have tm : decide ((m : Int) < (dz.length : Int)) = true := by simp; omega
              obtain ⟨bd, od, rfl, hbd, hcD⟩ := (HI.out.2.1.below HQ.out.2.2.2.2.2.1).at hlm
              have cd := hcD m hlm
              clear hcD
              by_cases hcc : c = c'
              · have tc : (c == c') = true := by simp [hcc]
                by_cases hx : nth dz m = nth dz' k
                · have tx : (nth dz m != nth dz' k) = false := by simp [hx]
                  have HF : Hid (fdN c c' (nth dz' k) dz = m) := fdN_is hm HM.out (fun _ => ⟨hcc, hx⟩)
                  clear hcc hx
                  go_wp2_with fail
                  go_quiet (fail)
                  have o2 := HQ.out.2.2.2.1.c2
                  have HV : Hid ((m : Int) = nth D k) := by show _ = _; rw [hVW.out, HF.out]
                  go_wp2_with (at_builtin; refine app_list rfl _ _ rfl ((wr.drewN (n + nq)).alloc (.cells #[.int .i64 (m : Int)] 3)) v3.heap.size wr.heap.size v (D.take k) (m : Int) rfl rfl ((show (wr.drewN (n + nq)).ownsRow v3.heap.size 3 1 v (D.take k).length ((D.take k).map (Value.int .i64)) from HQ.out.2.2.2.2.2.2).alloc _) (heap_alloc_new (wr.drewN (n + nq)) _) (by rw [take_lenR _ hkD]; omega) (by show _ ≤ ((wr.drewN (n + nq)).alloc _).heap.size; rw [World.size_alloc]; show v3.heap.size ≤ wr.heap.size + 1; omega) ?_; intro g1 gc1 w4 hown1 hB4; have P7 := (Abx.al (w := wr.drewN (n + nq)) HQ.out.1 (.cells #[.int .i64 (m : Int)] 3)).bel hB4 (by omega); have Q7 := (Abx.al (w := wr.drewN (n + nq)) HQ.out.2.1 (.cells #[.int .i64 (m : Int)] 3)).bel hB4 (by omega); have R7 := (Abx.al (w := wr.drewN (n + nq)) HQ.out.2.2.1 (.cells #[.int .i64 (m : Int)] 3)).bel hB4 (by omega); have HO1 : Hid (Abx w4 B (.bool false) (.slice g sz'.length gc) v) := (Abx.al (w := wr.drewN (n + nq)) HQ.out.2.2.2.1 _).bel hB4 (by omega); have S7 : SepInts v1.heap.size v3.heap.size B w4 g sz' := (SepInts.al (W := wr.drewN (n + nq)) HQ.out.2.2.2.2.1 (by show v3.heap.size ≤ wr.heap.size; omega) _).bel hB4; have Z7 : Below w.heap.size w w4 := ((bel_drewN HQ.out.2.2.2.2.2.1 (n + nq)).alloc (by show w.heap.size ≤ wr.heap.size; omega) _).trans (hB4.mono (by omega)); have x2 := HO1.out.c2; have xf := HO1.out.fr 2)
                  rw [HV.out, ← take_snoc D k (by omega), take_lenR D hkD] at hown1
                  have hz4 := hB4.size
                  rw [World.size_alloc] at hz4
                  have hz5 : wr.heap.size + 1 ≤ w4.heap.size := hz4
                  refine ⟨⟨k + 1, .slice (some ⟨g1, 0, none⟩) (k + 1) gc1, by omega, by go_num, P7.ot (by show w.heap.size ≠ B; omega) _, Q7.ot (by show w.heap.size + 1 ≠ B; omega) _, R7.ot (by show w.heap.size + 1 + 1 ≠ B; omega) _, HO1.out.s2 _, ?_, S7.set 2 _, by simp [World.setCell]; omega, Z7.setCell (p := ⟨B, 2, none⟩) (by show w.heap.size ≤ B; omega) _⟩, by simp [intOf]; omega⟩
                  rw [take_lenR D (show k + 1 ≤ D.length by omega)]
                  exact ownsRow_setCell_below hown1 (by show B < v3.heap.size; omega) _
                · have tx : (nth dz m != nth dz' k) = true := by simp [hx]
                  have HM2 : Hid (∀ j, j < m + 1 → ¬ (c = c' ∧ nth dz j = nth dz' k)) := fun j hj => by
                    by_cases e : j = m
                    · subst e; exact fun q => hx q.2
                    · exact HM.out j (by omega)
                  clear hcc hx
                  go_wp2_with fail
                  go_quiet (fail)
                  go_wp2_with fail
                  exact ⟨⟨m + 1, _, by omega, by go_num, HM2, rfl⟩, by simp [intOf]; omega⟩
              · have tc : (c == c') = false := by simp [hcc]
                have HM2 : Hid (∀ j, j < m + 1 → ¬ (c = c' ∧ nth dz j = nth dz' k)) := fun j _ q => hcc q.1
                clear hcc
                go_wp2_with fail
                go_quiet (fail)
                go_wp2_with fail
                exact ⟨⟨m + 1, _, by omega, by go_num, HM2, rfl⟩, by simp [intOf]; omega⟩
            · obtain rfl : m = dz.length := by omega
              have tm : decide ((dz.length : Int) < (dz.length : Int)) = false := by simp
              have HF : Hid (fdN c c' (nth dz' k) dz = dz.length) := fdN_is hm HM.out (fun h => absurd h (Nat.lt_irrefl _))
              go_wp2_with fail
              go_quiet (fail)
              have o2 := HQ.out.2.2.2.1.c2
              have HV : Hid ((dz.length : Int) = nth D k) := by show _ = _; rw [hVW.out, HF.out]
              go_wp2_with (at_builtin; refine app_list rfl _ _ rfl ((wr.drewN (n + nq)).alloc (.cells #[.int .i64 (dz.length : Int)] 3)) v3.heap.size wr.heap.size v (D.take k) (dz.length : Int) rfl rfl ((show (wr.drewN (n + nq)).ownsRow v3.heap.size 3 1 v (D.take k).length ((D.take k).map (Value.int .i64)) from HQ.out.2.2.2.2.2.2).alloc _) (heap_alloc_new (wr.drewN (n + nq)) _) (by rw [take_lenR _ hkD]; omega) (by show _ ≤ ((wr.drewN (n + nq)).alloc _).heap.size; rw [World.size_alloc]; show v3.heap.size ≤ wr.heap.size + 1; omega) ?_; intro g1 gc1 w4 hown1 hB4; have P7 := (Abx.al (w := wr.drewN (n + nq)) HQ.out.1 (.cells #[.int .i64 (dz.length : Int)] 3)).bel hB4 (by omega); have Q7 := (Abx.al (w := wr.drewN (n + nq)) HQ.out.2.1 (.cells #[.int .i64 (dz.length : Int)] 3)).bel hB4 (by omega); have R7 := (Abx.al (w := wr.drewN (n + nq)) HQ.out.2.2.1 (.cells #[.int .i64 (dz.length : Int)] 3)).bel hB4 (by omega); have HO1 : Hid (Abx w4 B (.bool false) (.slice g sz'.length gc) v) := (Abx.al (w := wr.drewN (n + nq)) HQ.out.2.2.2.1 _).bel hB4 (by omega); have S7 : SepInts v1.heap.size v3.heap.size B w4 g sz' := (SepInts.al (W := wr.drewN (n + nq)) HQ.out.2.2.2.2.1 (by show v3.heap.size ≤ wr.heap.size; omega) _).bel hB4; have Z7 : Below w.heap.size w w4 := ((bel_drewN HQ.out.2.2.2.2.2.1 (n + nq)).alloc (by show w.heap.size ≤ wr.heap.size; omega) _).trans (hB4.mono (by omega)); have x2 := HO1.out.c2; have xf := HO1.out.fr 2)
              rw [HV.out, ← take_snoc D k (by omega), take_lenR D hkD] at hown1
              have hz4 := hB4.size
              rw [World.size_alloc] at hz4
              have hz5 : wr.heap.size + 1 ≤ w4.heap.size := hz4
              refine ⟨⟨k + 1, .slice (some ⟨g1, 0, none⟩) (k + 1) gc1, by omega, by go_num, P7.ot (by show w.heap.size ≠ B; omega) _, Q7.ot (by show w.heap.size + 1 ≠ B; omega) _, R7.ot (by show w.heap.size + 1 + 1 ≠ B; omega) _, HO1.out.s2 _, ?_, S7.set 2 _, by simp [World.setCell]; omega, Z7.setCell (p := ⟨B, 2, none⟩) (by show w.heap.size ≤ B; omega) _⟩, by simp [intOf]; omega⟩
              rw [take_lenR D (show k + 1 ≤ D.length by omega)]
              exact ownsRow_setCell_below hown1 (by show B < v3.heap.size; omega) _
        · obtain rfl : k = dz'.length := by omega
          rw [List.take_of_length_le (by omega)] at hown
          obtain ⟨g1, gc1, rfl, hN1⟩ := owns_new hown
          have o0 := hU.c0
          have o1 := hU.c1
          have o2 := hU.c2
          have d2 := hP.c2
          have d3 := hQ.c2
          have r_0 := hR.c0
          have r_1 := hR.c1
          have r_2 := hR.c2
          have f_0 := hR.fr 0
          have f_1 := hR.fr 1
          have f_2 := hR.fr 2
          clear hown hlt
          go_wp2_with fail
          have FF := hR.set3 (.bool false) (.slice g sz'.length gc) (.slice g1 D.length gc1)
          have q0' := FF.c0
          have q1' := FF.c1
          have q2' := FF.c2
          refine bodyPost_ret (v := .tuple #[.agg #[.bool false, .slice g sz'.length gc, .slice g1 D.length gc1], .int .i64 0]) (by simp [results, Tryd.results6, go_sem, q0', q1', q2']) rfl ?_
          have hX := ((hSp.new hsx).set3 (b := w.heap.size + 1 + 1) (by omega) (.bool false) (.slice g sz'.length gc) (.slice g1 D.length gc1)).low (lo' := w.heap.size) (by omega)
          have hY := (hN1.set3 (b := w.heap.size + 1 + 1) (by omega) (.bool false) (.slice g sz'.length gc) (.slice g1 D.length gc1)).low (lo' := w.heap.size) (by omega)
          have hZ := bel_set3 hBx (b := w.heap.size + 1 + 1) (by omega) (.bool false) (.slice g sz'.length gc) (.slice g1 D.length gc1)
          have hUR := UR.ok (c := false) (xc := gc) (yc := gc1) HE.out hX hY hZ
          have hE2 := HD.out.1
          rw [← hE2]
          exact hUR
    · have HE : Hid (ixE c sz dz c' sz' dz' = 3) := by show ixE _ _ _ _ _ _ = _; unfold ixE; rw [if_neg (not_not_intro he), if_pos hl]
      have tl : ((sz.length : Int) != 1) = true := by simp; omega
      clear he hl
      have r_0 := HR1.out.c0
      have r_1 := HR1.out.c1
      have r_2 := HR1.out.c2
      have f_0 := HR1.out.fr 0
      have f_1 := HR1.out.fr 1
      have f_2 := HR1.out.fr 2
      go_wp2_with fail
      have FF := HR1.out.set3 (.bool false) (.slice none 0 0) (.slice none 0 0)
      have q0' := FF.c0
      have q1' := FF.c1
      have q2' := FF.c2
      exact bodyPost_ret (v := .tuple #[.agg #[.bool false, .slice none 0 0, .slice none 0 0], .int .i64 (3)]) (by simp [results, Tryd.results6, go_sem, q0', q1', q2']) rfl (UR.no HE.out (by decide) (bel_set3 HB1.out (by omega) _ _ _))
  · have t0 : (flawsE c sz dz c' sz' dz' != 0) = true := by simpa using he
    have t1 : (flawsE c sz dz c' sz' dz' == 0) = false := by simpa using he
    have HE : Hid (ixE c sz dz c' sz' dz' = flawsE c sz dz c' sz' dz') := by show ixE _ _ _ _ _ _ = _; unfold ixE; rw [if_pos he]
    have HA : Hid (flawsE c sz dz c' sz' dz' ≠ 0) := he
    clear he
    have r_0 := HR1.out.c0
    have r_1 := HR1.out.c1
    have r_2 := HR1.out.c2
    have f_0 := HR1.out.fr 0
    have f_1 := HR1.out.fr 1
    have f_2 := HR1.out.fr 2
    go_wp2_with fail
    have FF := HR1.out.set3 (.bool false) (.slice none 0 0) (.slice none 0 0)
    have q0' := FF.c0
    have q1' := FF.c1
    have q2' := FF.c2
    exact bodyPost_ret (v := .tuple #[.agg #[.bool false, .slice none 0 0, .slice none 0 0], .int .i64 (flawsE c sz dz c' sz' dz')]) (by simp [results, Tryd.results6, go_sem, q0', q1', q2']) rfl (UR.no HE.out HA.out (bel_set3 HB1.out (by omega) _ _ _))
end Go.Proofs.YteieliajdfbipaaDoor
