/-
  What the reference spreads.
-/
import Derived.Deep.QuietTactic
import Derived.BigQuiet
import Derived.Test.YtldjgacnjogbnaaDoorRpart
import Derived.Test.YtldjgacnjogbnaaDoorRmask
import Derived.Test.YtldjgacnjogbnaaDoorCutn
namespace Go.Proofs.YtldjgacnjogbnaaDoor
open Go.RowKit
set_option linter.unusedVariables false

theorem mask_n (a : Option Addr) (cap : Nat) (zs : List Int) (n : Nat) (hn : zs.length = n) (hreach : zs.length ≤ 9223372036854775807) (n₀ : Nat) (w : World) (hI : IsInts n₀ w a zs) :
    Calls Tryd.prog 37 #[.slice a n cap] w fun e w' => e = .returned (.bool (mskB zs)) ∧ w' = w := by
  subst hn
  exact mask_any a cap zs hreach n₀ w hI
theorem sum_n (a : Option Addr) (cap : Nat) (zs : List Int) (n : Nat) (hn : zs.length = n) (v : Int) (hv : sumI zs = v) (hreach : zs.length ≤ 9223372036854775807) (hm : mskB zs = true) (n₀ : Nat) (w : World) (hI : IsInts n₀ w a zs) :
    Calls Tryd.prog 38 #[.slice a n cap] w fun e w' => e = .returned (.int .i64 v) ∧ w' = w := by
  subst hn hv
  exact sum_any a cap zs hreach hm n₀ w hI
theorem fault_n (a : Option Addr) (cap : Nat) (zs : List Int) (n : Nat) (hn : zs.length = n) (hreach : zs.length ≤ 9223372036854775807) (n₀ : Nat) (w : World) (hI : IsInts n₀ w a zs) :
    Calls Tryd.prog 20 #[.slice a n cap] w fun e w' => e = .returned (.int .i64 (errOf zs)) ∧ w' = w := by
  subst hn
  exact fault_any a cap zs hreach n₀ w hI
set_option maxRecDepth 100000 in
set_option maxHeartbeats 4000000 in
theorem spread_any (ma : Option Addr) (mc : Nat) (m : List Int) (x : Int) (c : Bool) (sa : Option Addr) (sc : Nat) (sz : List Int) (da : Option Addr) (dc : Nat) (dz : List Int) (hl0 : m.length ≤ 9223372036854775807) (h1 : sz.length ≤ 9223372036854775807) (h2 : dz.length ≤ 9223372036854775807) (w : World) (hm : IsC w.heap.size w ma m mc) (hs : IsInts w.heap.size w sa sz) (hd : IsInts w.heap.size w da dz) :
    Calls Tryd.prog 17 #[.slice ma m.length mc, .int .i64 x, .agg #[.bool c, .slice sa sz.length sc, .slice da dz.length dc]] w (UR (spE m x c sz dz) (onc (spE m x c sz dz) c) (onl (spE m x c sz dz) (spS m x.toNat sz)) (onl (spE m x c sz dz) (spD m x.toNat c sz dz)) w) := by
  have HI : Hid (IsInts w.heap.size w sa sz ∧ IsInts w.heap.size w da dz ∧ IsInts w.heap.size w ma m) := ⟨hs, hd, hm.1⟩
  obtain ⟨l, hl⟩ : ∃ l, l = m.length := ⟨_, rfl⟩
  have hcap : l ≤ mc := by rw [hl]; exact hm.2
  rw [← hl]
  have HM : Hid (m.length = l) := hl.symm
  have hl9 : l ≤ 9223372036854775807 := by rw [hl]; exact hl0
  clear hs hd hm hl hl0
  have hb : Hid (Below w.heap.size w ((w.alloc (.cells #[.bool c, .slice sa sz.length sc, .slice da dz.length dc] 24)).alloc (.cells #[.bool false, .slice none 0 0, .slice none 0 0] 24))) := ((Below.refl _ w).alloc (Nat.le_refl _) _).alloc (by simp) _
  have pa := (Abx.new w (.bool c) (.slice sa sz.length sc) (.slice da dz.length dc)).al (.cells #[.bool false, .slice none 0 0, .slice none 0 0] 24)
  have pr := Abx.new1 w (.cells #[.bool c, .slice sa sz.length sc, .slice da dz.length dc] 24) (.bool false) (.slice none 0 0) (.slice none 0 0)
  have p0 := pa.c0
  have p1 := pa.c1
  have p2 := pa.c2
  go_enter Tryd.func17, Tryd.ntmps17
  go_wp2_with fail
  refine (axis_any x c sa sc sz da dc dz h1 h2 _ ((HI.out.1.below hb.out).mono hb.out.size) ((HI.out.2.1.below hb.out).mono hb.out.size)).mono ?_
  rintro e v1 ⟨rfl, hB⟩
  replace hb : Hid (Below w.heap.size w v1) := hb.out.trans (hB.mono hb.out.size)
  have HP : Hid (Abx v1 w.heap.size (.bool c) (.slice sa sz.length sc) (.slice da dz.length dc)) := pa.go hB
  have HR : Hid (Abx v1 (w.heap.size + 1) (.bool false) (.slice none 0 0) (.slice none 0 0)) := pr.go hB
  have hR1 : w.heap.size + 1 < v1.heap.size := HR.out.lt
  clear hB pa pr p0 p1 p2
  by_cases he : axE x c sz dz = 0
  · rw [he]
    have HA : Hid (axE x c sz dz = 0) := he
    have HF : Hid (flawE c sz dz = 0 ∧ errOf sz = 0 ∧ sz.length ≤ 6 ∧ dz.length ≤ 4096) := ⟨(axE_zero.1 he).1, (flawE_zero (axE_zero.1 he).1).1, flawE_short (axE_zero.1 he).1⟩
    obtain ⟨xn, hxn⟩ : ∃ xn : Nat, (xn : Int) = x := ⟨x.toNat, by have := (axE_zero.1 he).2.1; omega⟩
    have hxl : xn < sz.length := by have := (axE_zero.1 he).2.2; omega
    subst hxn
    clear he
    have p1 := HP.out.c1
    obtain ⟨bs, os, rfl, hbs, hcS⟩ := (HI.out.1.below hb.out).at hxl
    have cs := hcS xn hxl
    clear hcS
    go_wp2_with fail
    refine (mask_n ma mc m l HM.out (by rw [HM.out]; exact hl9) v1.heap.size v1 ((HI.out.2.2.below hb.out).mono hb.out.size)).mono ?_
    rintro e v9 ⟨rfl, hv9⟩
    obtain rfl := hv9.symm
    cases hmk : mskB m
    · have HE : Hid (spE m xn c sz dz = 6) := by show _ = _; unfold spE; rw [if_neg (by simpa using HA.out), if_pos hmk]
      clear hmk
      have r_0 := HR.out.c0
      have r_1 := HR.out.c1
      have r_2 := HR.out.c2
      have f_0 := HR.out.fr 0
      have f_1 := HR.out.fr 1
      have f_2 := HR.out.fr 2
      go_wp2_with fail
      have FF := HR.out.set3 (.bool false) (.slice none 0 0) (.slice none 0 0)
      have q0 := FF.c0
      have q1 := FF.c1
      have q2 := FF.c2
      exact bodyPost_ret (v := .tuple #[.agg #[.bool false, .slice none 0 0, .slice none 0 0], .int .i64 6]) (by simp [results, Tryd.results17, go_sem, q0, q1, q2]) rfl (UR.no HE.out (by decide) (bel_set3 hb.out (by omega) _ _ _))
    · have HK : Hid (mskB m = true) := hmk
      clear hmk
      obtain ⟨q0, hq0⟩ : ∃ q0, q0 = sumI m := ⟨_, rfl⟩
      have HQ0 : Hid (sumI m = q0) := hq0.symm
      obtain ⟨z0, hz0⟩ : ∃ z0, z0 = nth sz xn := ⟨_, rfl⟩
      rw [← hz0] at cs
      have HZ0 : Hid (nth sz xn = z0) := hz0.symm
      clear hq0 hz0
      go_wp2_with fail
      go_quiet (first | (go_at_call 38; refine Calls.quiet_of_same (sum_n ma mc m l HM.out q0 HQ0.out (by rw [HM.out]; exact hl9) HK.out v1.heap.size _ ((HI.out.2.2.below hb.out).mono hb.out.size))))
      obtain ⟨v2, hv2⟩ : ∃ v2, v2 = v1.drewN nq := ⟨_, rfl⟩
      rw [← hv2]
      have HB2 : Hid (Below w.heap.size w v2) := by rw [hv2]; exact bel_drewN hb.out nq
      have HP2 : Hid (Abx v2 w.heap.size (.bool c) (.slice (some ⟨bs, os, none⟩) sz.length sc) (.slice da dz.length dc)) := by rw [hv2]; exact HP.out
      have HR2 : Hid (Abx v2 (w.heap.size + 1) (.bool false) (.slice none 0 0) (.slice none 0 0)) := by rw [hv2]; exact HR.out
      have cs2 : v2.cell? ⟨bs, os + xn, none⟩ = some (.int .i64 z0) := by rw [hv2]; exact cs
      have hR2 : w.heap.size + 1 < v2.heap.size := HR2.out.lt
      clear hv2 HP HR hb p1 cs hR1
      by_cases hsum : q0 = z0
      · have tsum : (q0 != z0) = false := by simp [hsum]
        have HSm : Hid (sumI m = nth sz xn) := by show _ = _; rw [HQ0.out, hsum, HZ0.out]
        clear hsum
        obtain ⟨n, hn⟩ : ∃ n, n = sz.length := ⟨_, rfl⟩
        have HN : Hid (n = sz.length) := hn
        have hxn : xn < n := by rw [hn]; exact hxl
        have hn6 : n ≤ 6 := by have := HF.out.2.2.1; omega
        have d1 := HP2.out.c1
        rw [← hn] at d1
        clear hn
        go_wp2_with fail
        refine (copied_n (some ⟨bs, os, none⟩) sc sz n HN.out.symm (by rw [← HN.out]; omega) v2 ((HI.out.1.below HB2.out).mono HB2.out.size)).mono ?_
        rintro e v3 ⟨g0, gc, rfl, hG, hBc⟩
        rcases hG with e0 | ⟨bt, ot, rfl, l0, hbt, hcT, hfT⟩
        · rw [e0] at hxl; simp at hxl
        have HG : Hid (NewInts v2.heap.size v3 (some ⟨bt, ot, none⟩) sz) := .inr ⟨bt, ot, rfl, l0, hbt, hcT, hfT⟩
        have HBc : Hid (Below v2.heap.size v2 v3) := hBc
        have ct := hcT xn hxl
        have fT := hfT xn
        obtain ⟨S, hS⟩ : ∃ S, S = sz.set xn (l : Int) := ⟨_, rfl⟩
        have HS : Hid (S = spS m xn sz ∧ S.length = n) := ⟨by rw [hS]; unfold spS; rw [HM.out], by rw [hS, List.length_set]; exact HN.out.symm⟩
        have HG2 : Hid (NewInts v2.heap.size (v3.setCell ⟨bt, ot + xn, none⟩ (.int .i64 (l : Int))) (some ⟨bt, ot, none⟩) S) := by rw [hS]; exact NewInts.put HG.out hxl _
        obtain ⟨v4, hv4⟩ : ∃ v4, v4 = v3.setCell ⟨bt, ot + xn, none⟩ (.int .i64 (l : Int)) := ⟨_, rfl⟩
        have HV4 : Hid (v4 = v3.setCell ⟨bt, ot + xn, none⟩ (.int .i64 (l : Int))) := hv4
        rw [← hv4] at HG2
        have HB4 : Hid (Below v2.heap.size v2 v4) := by rw [hv4]; exact hBc.setCell (p := ⟨bt, ot + xn, none⟩) l0 _
        clear hcT hfT hBc hS hv4 d1
        go_wp2_with fail
        rw [← HV4.out]
        have HBw : Hid (Below w.heap.size w v4) := HB2.out.trans (HB4.out.mono HB2.out.size)
        have HP4 : Hid (Abx v4 w.heap.size (.bool c) (.slice (some ⟨bs, os, none⟩) sz.length sc) (.slice da dz.length dc)) := HP2.out.go HB4.out
        have HR4 : Hid (Abx v4 (w.heap.size + 1) (.bool false) (.slice none 0 0) (.slice none 0 0)) := HR2.out.go HB4.out
        have hv24 := HB4.out.size
        clear ct fT
        refine (fault_n (some ⟨bt, ot, none⟩) gc S n HS.out.2 (by rw [HS.out.2]; omega) v4.heap.size v4 HG2.out.ints).mono ?_
        rintro e v9 ⟨rfl, hv9⟩
        obtain rfl := hv9.symm
        by_cases hES : errOf S = 0
        · rw [hES]
          have HES : Hid (errOf S = 0) := hES
          have HE : Hid (spE m xn c sz dz = 0) := spZ.2 ⟨HF.out.1, hxl, HK.out, HSm.out, by rw [← HS.out.1]; exact hES⟩
          obtain ⟨q, hq⟩ : ∃ q : Nat, prod S = q := ⟨(prod S).toNat, by have := prod_nonneg (errOf_zero.1 hES).2.1; omega⟩
          have hq4 : q ≤ 4096 := by have := (errOf_zero.1 hES).2.2; omega
          obtain ⟨D, hD⟩ : ∃ D, D = spD m xn c sz dz := ⟨_, rfl⟩
          have HD : Hid (D = spD m xn c sz dz ∧ D.length = q ∧ prod S = q) := ⟨hD, by rw [hD]; unfold spD; rw [TA_length, ← HS.out.1]; omega, hq⟩
          have hDq1 : D.length ≤ q := by have := HD.out.2.1; omega
          have hDq2 : q ≤ D.length := by have := HD.out.2.1; omega
          have a0 := HP4.out.c0
          obtain ⟨B, hB⟩ : ∃ B, B = v4.heap.size := ⟨_, rfl⟩
          obtain ⟨v5, hv5⟩ : ∃ v5, v5 = v4.alloc (.cells #[.bool c, .slice (some ⟨bt, ot, none⟩) n gc, .slice none 0 0] 24) := ⟨_, rfl⟩
          have HV5 : Hid (v5 = v4.alloc (.cells #[.bool c, .slice (some ⟨bt, ot, none⟩) n gc, .slice none 0 0] 24) ∧ B = v4.heap.size) := ⟨hv5, hB⟩
          have HO : Hid (Abx v5 w.heap.size (.bool c) (.slice (some ⟨bs, os, none⟩) sz.length sc) (.slice da dz.length dc) ∧ Abx v5 (w.heap.size + 1) (.bool false) (.slice none 0 0) (.slice none 0 0) ∧ Abx v5 B (.bool c) (.slice (some ⟨bt, ot, none⟩) n gc) (.slice none 0 0) ∧ SepInts v2.heap.size v5.heap.size B v5 (some ⟨bt, ot, none⟩) S ∧ Below w.heap.size w v5) := by
            rw [hv5, hB]
            exact ⟨HP4.out.al _, HR4.out.al _, Abx.new v4 _ _ _, ((SepInts.of_new HG2.out (.inr (Nat.le_refl _))).al (Nat.le_refl _) _).high (by simp), HBw.out.alloc HBw.out.size _⟩
          have hBl : w.heap.size + 1 < B := by rw [hB]; exact HR4.out.lt
          have hB5 : B < v5.heap.size := HO.out.2.2.1.lt
          have hv25 : v2.heap.size ≤ v5.heap.size := by rw [hv5]; simp; omega
          have hwB : w.heap.size ≤ v2.heap.size := HB2.out.size
          clear hES hq hD hB hv5
          go_wp2_with fail
          rw [← HV5.out.2, ← HV5.out.1]
          refine (cells_n (some ⟨bt, ot, none⟩) gc S n q HS.out.2 HD.out.2.2 (by rw [HS.out.2]; omega) HES.out v5.heap.size v5 ((HO.out.2.2.2.1.new (Nat.le_refl _)).ints)).mono ?_
          rintro e v9 ⟨rfl, hv9⟩
          obtain rfl := hv9.symm
          go_wp2_with fail
          go_loopw [12] (fun i wx => ∃ (k : Nat) (v : Value), k ≤ q ∧ i = .int .i64 k ∧ Abx wx w.heap.size (.bool c) (.slice (some ⟨bs, os, none⟩) sz.length sc) (.slice da dz.length dc) ∧ Abx wx (w.heap.size + 1) (.bool false) (.slice none 0 0) (.slice none 0 0) ∧ Abx wx B (.bool c) (.slice (some ⟨bt, ot, none⟩) n gc) v
              ∧ wx.ownsRow v5.heap.size 3 1 v (D.take k).length ((D.take k).map (Value.int .i64)) ∧ SepInts v2.heap.size v5.heap.size B wx (some ⟨bt, ot, none⟩) S ∧ v5.heap.size ≤ wx.heap.size ∧ Below w.heap.size w wx) (fun i _ => q - (intOf i).toNat)
          case atStart => exact ⟨0, .slice none 0 0, Nat.zero_le _, rfl, HO.out.1, HO.out.2.1, HO.out.2.2.1, World.ownsRow_nil _ _ _ _, HO.out.2.2.2.1, Nat.le_refl _, HO.out.2.2.2.2⟩
          case round =>
            obtain ⟨k, v, hk, rfl, hP, hR, hU, hown, hSp, hsx, hBx⟩ := hrel
            by_cases hlt : k < q
            · have HKk : Hid ((k : Int) < prod S) := by show _ < _; rw [HD.out.2.2]; omega
              have HQ : Hid (Abx wr w.heap.size (.bool c) (.slice (some ⟨bs, os, none⟩) sz.length sc) (.slice da dz.length dc) ∧ Abx wr (w.heap.size + 1) (.bool false) (.slice none 0 0) (.slice none 0 0) ∧ Abx wr B (.bool c) (.slice (some ⟨bt, ot, none⟩) n gc) v ∧ SepInts v2.heap.size v5.heap.size B wr (some ⟨bt, ot, none⟩) S ∧ Below w.heap.size w wr) := ⟨hP, hR, hU, hSp, hBx⟩
              clear hP hR hU hSp hBx
              go_wp2_with fail
              refine (coords_n (some ⟨bt, ot, none⟩) gc S n k HS.out.2 HES.out HKk.out wr ((HQ.out.2.2.2.1.new hsx).ints)).mono ?_
              rintro e w2 ⟨ta, tc, rfl, hA, hB3⟩
              have hcin := cr_fact HES.out HKk.out
              obtain ⟨t, ht⟩ : ∃ t, t = cr S k := ⟨_, rfl⟩
              rw [← ht] at hA hcin
              have hxt : xn < t.length := by rw [insB_len hcin.1, HS.out.2]; exact hxn
              rcases hA with e0 | ⟨b1, o1, rfl, l1, hb1, hcT, hfT⟩
              · rw [e0] at hxt; simp at hxt
              have HA1 : Hid (NewInts wr.heap.size w2 (some ⟨b1, o1, none⟩) t) := .inr ⟨b1, o1, rfl, l1, hb1, hcT, hfT⟩
              have hxi := ins_at hcin.1 (x := xn) (by rw [HS.out.2]; exact hxn)
              rw [show nth S xn = l by rw [HS.out.1]; unfold spS; rw [nth_set_self hxl, HM.out]] at hxi
              obtain ⟨i, hi⟩ : ∃ i : Nat, nth t xn = i := ⟨(nth t xn).toNat, by omega⟩
              have hil : i < l := by omega
              have ct := hcT xn hxt
              have fT := hfT xn
              rw [hi] at ct
              have HT : Hid (t = cr S k ∧ insB S t = true ∧ nth t xn = i) := ⟨ht, hcin.1, hi⟩
              have HB3 : Hid (Below wr.heap.size wr w2) := hB3
              have HBw2 : Hid (Below w.heap.size w w2) := HQ.out.2.2.2.2.trans (hB3.mono HQ.out.2.2.2.2.size)
              obtain ⟨bm, om, rfl, hbm, hcM⟩ := (HI.out.2.2.below HBw2.out).at (q := i) (by rw [HM.out]; exact hil)
              have cm := hcM i (by rw [HM.out]; exact hil)
              obtain ⟨y, hy⟩ : ∃ y, y = nth m i := ⟨_, rfl⟩
              rw [← hy] at cm
              have HDk : Hid (nth D k = spC m xn c sz dz t) := by show _ = _; rw [HD.out.1]; unfold spD; rw [← HS.out.1, TA_nth (by have := HD.out.2.2; omega), ht]
              have A2 := HQ.out.1.go hB3
              have U2 := HQ.out.2.2.1.go hB3
              have hown2 := own_go hown hB3
              have hkD : k ≤ D.length := by omega
              have hsz2 : v5.heap.size ≤ w2.heap.size := Nat.le_trans hsx hB3.size
              have HXn : Hid (nth m i = y) := hy.symm
              clear hcT hfT hB3 hcin hxi hcM ht hi hy
              by_cases h0 : y = 0
              · have tz : (y == 0) = true := by simp [h0]
                have HV : Hid (fillE c = nth D k) := by show _ = _; rw [HDk.out]; unfold spC; rw [HT.out.2.2, Int.toNat_natCast, HXn.out, if_pos h0]
                clear h0
                have o2 := U2.c2
                have b0 := A2.c0
                have b1' := A2.c1
                have b2 := A2.c2
                go_wp2_with fail
                refine anyT_begin 6 (fun w' => w'.cell? ⟨B, 2, none⟩ = some v ∧ w'.cell? ⟨w.heap.size, 0, none⟩ = some (.bool c) ∧ w'.cell? ⟨w.heap.size, 1, none⟩ = some (.slice (some ⟨bs, os, none⟩) sz.length sc) ∧ w'.cell? ⟨w.heap.size, 2, none⟩ = some (.slice da dz.length dc)) 8 #[false, false, false, false, false, false, false, false] (by kernel_rfl) rfl rfl ?_
                refine anyT_put 0 70 ?rv0 #[true, false, false, false, false, false, false, false] rfl rfl rfl (by kernel_rfl) (by kernel_rfl) (by kernel_rfl) (fun _ _ _ h => h) (by decide) ?ry0 (fun _ => ⟨o2, b0, b1', b2⟩) ?rm0
                case ry0 => first | exact Or.inl ⟨by rfl, by intro w'; go_simp; first | done | rfl⟩
                case rm0 =>
                simp only [Act.put, List.setIfInBounds_toArray, List.set_cons_zero, List.set_cons_succ]
                refine anyT_take 1 71 ?rv1 #[true, true, false, false, false, false, false, false] rfl rfl rfl (by kernel_rfl) (by kernel_rfl) (by kernel_rfl) (fun _ _ _ h => h) (by kernel_rfl) (by decide) (by kernel_rfl) ?ry1 (⟨o2, b0, b1', b2⟩) ?rm1
                case ry1 => first | exact Or.inl ⟨by rfl, by intro w' hw'; (try dsimp only at hw'); go_simp; first | done | rfl⟩
                case rm1 =>
                simp only [Act.put, List.setIfInBounds_toArray, List.set_cons_zero, List.set_cons_succ]
                refine anyT_take 2 72 ?rv2 #[true, true, true, false, false, false, false, false] rfl rfl rfl (by kernel_rfl) (by kernel_rfl) (by kernel_rfl) (fun _ _ _ h => h) (by kernel_rfl) (by decide) (by kernel_rfl) ?ry2 (⟨o2, b0, b1', b2⟩) ?rm2
                case ry2 => first | exact Or.inl ⟨by rfl, by intro w' hw'; (try dsimp only at hw'); go_simp; first | done | rfl⟩
                case rm2 =>
                simp only [Act.put, List.setIfInBounds_toArray, List.set_cons_zero, List.set_cons_succ]
                refine anyT_one 3 #[true, true, true, true, false, false, false, false] (by kernel_rfl) rfl rfl (fun K hK => ?_)
                go_simp
                go_wp2_with (go_at_call 42; refine (fillr_any c (some ⟨bs, os, none⟩) sc sz da dc dz w2.drew).mono ?_; rintro e w3 ⟨rfl, hB4⟩)
                have HB4' : Hid (Below w2.heap.size w2 w3) := (Below.refl _ w2).drew.trans hB4
                have A3 := A2.go HB4'.out
                have U3 := U2.go HB4'.out
                have hown3 := own_go hown2 HB4'.out
                have hs3 := HB4'.out.size
                refine hK.out _ _ (fun _ => ⟨U3.c2, A3.c0, A3.c1, A3.c2⟩) ?_
                clear hK K
                refine anyT_one 4 #[true, true, true, true, true, false, false, false] (by kernel_rfl) rfl rfl (fun K hK => ?_)
                go_simp
                have k0 := A3.al (.cells #[.int .i64 (fillE c)] 3)
                have k1 := U3.al (.cells #[.int .i64 (fillE c)] 3)
                refine hK.out _ _ (fun _ => ⟨k1.c2, k0.c0, k0.c1, k0.c2⟩) ?_
                clear hK K
                refine anyT_one 5 #[true, true, true, true, true, true, false, false] (by kernel_rfl) rfl rfl (fun K hK => ?_)
                refine app_step 75 rfl rfl _ _ rfl _ v5.heap.size w3.heap.size v (D.take k) (fillE c) rfl rfl (hown3.alloc _) (heap_alloc_new w3 _) (by rw [take_lenR _ hkD]; omega) (by simp; omega) ?_
                intro g1 gc1 w4 hown4 hB5'
                have P7 := k0.bel hB5' (by omega)
                have HO1 : Hid (Abx w4 B (.bool c) (.slice (some ⟨bt, ot, none⟩) n gc) v) := k1.bel hB5' (by omega)
                have x2 := HO1.out.c2
                have xf := HO1.out.fr 2
                refine hK.out _ _ (fun _ => ⟨x2, P7.c0, P7.c1, P7.c2⟩) ?_
                clear hK K
                simp only [Act.put, List.setIfInBounds_toArray, List.set_cons_zero, List.set_cons_succ]
                refine anyT_one 6 #[true, true, true, true, true, true, true, false] (by kernel_rfl) rfl rfl (fun K hK => ?_)
                go_simp
                refine hK.out _ _ (fun h => absurd h (by decide)) ?_
                clear hK K
                refine anyT_one 7 #[true, true, true, true, true, true, true, true] (by kernel_rfl) rfl rfl (fun K hK => ?_)
                go_simp
                refine hK.out _ _ (fun h => absurd h (by decide)) ?_
                clear hK K
                refine anyT_done (by kernel_rfl) ?_
                go_wp2_with fail
                rw [HV.out, ← take_snoc D k (by omega), take_lenR D hkD] at hown4
                have hz4 := hB5'.size
                simp at hz4
                refine ⟨⟨k + 1, .slice (some ⟨g1, 0, none⟩) (k + 1) gc1, by omega, by go_num, P7.ot (by show w.heap.size ≠ B; omega) _, ?_, HO1.out.s2 _, ?_, ?_, by simp [World.setCell]; omega, ?_⟩, by simp [intOf]; omega⟩
                · exact (((((HQ.out.2.1.go HB3.out).go HB4'.out).al _)).bel hB5' (by omega)).ot (by show w.heap.size + 1 ≠ B; omega) _
                · rw [take_lenR D (show k + 1 ≤ D.length by omega)]
                  exact ownsRow_setCell_below hown4 (by show B < v5.heap.size; omega) _
                · exact (((((HQ.out.2.2.2.1.bel (HB3.out.mono hsx)).bel (HB4'.out.mono hsz2)).al (by omega) _).bel hB5')).set 2 _
                · exact ((((HBw2.out.trans (HB4'.out.mono HBw2.out.size)).alloc (by have := HBw2.out.size; omega) _).trans (hB5'.mono (by omega)))).setCell (p := ⟨B, 2, none⟩) (by show w.heap.size ≤ B; omega) _
              · have tz : (y == 0) = false := by simp [h0]
                have hy1 : y = 1 := by have h := mskB_nth HK.out (j := i) (by rw [HM.out]; exact hil); rw [HXn.out] at h; exact h.resolve_left h0
                obtain ⟨r, hr⟩ : ∃ r, r = rnk m i := ⟨_, rfl⟩
                have HRr : Hid (sumI (m.take i) = r) := by rw [hr]; rfl
                obtain ⟨ts, hts⟩ : ∃ ts, ts = t.set xn r := ⟨_, rfl⟩
                have HTi : Hid (insB sz ts = true) := by
                  have h := sp_in HE.out (t := t) (by rw [← HS.out.1]; exact HT.out.2.1) (by rw [HT.out.2.2, Int.toNat_natCast, HXn.out]; exact h0)
                  rw [HT.out.2.2, Int.toNat_natCast, ← hr] at h
                  rw [hts]; exact h
                have HV0 : Hid (nth D k = cel sz dz ts) := by show _ = _; rw [HDk.out]; unfold spC; rw [HT.out.2.2, Int.toNat_natCast, HXn.out, if_neg h0, ← hr, ← hts]
                obtain ⟨u, hu⟩ : ∃ u, u = w2.setCell ⟨b1, o1 + xn, none⟩ (.int .i64 r) := ⟨_, rfl⟩
                have HUz : Hid (IsInts u.heap.size u (some ⟨b1, o1, none⟩) ts ∧ Below wr.heap.size wr u) := by
                  rw [hu, hts]
                  exact ⟨(NewInts.put HA1.out hxt r).ints, HB3.out.setCell (p := ⟨b1, o1 + xn, none⟩) l1 _⟩
                have HUu : Hid (u = w2.setCell ⟨b1, o1 + xn, none⟩ (.int .i64 r)) := hu
                have htl : Hid (ts.length = n) := by show _ = _; rw [hts, List.length_set, insB_len HT.out.2.1]; exact HS.out.2
                have hic : i ≤ mc := by omega
                clear h0 hy1 hr hts hu
                go_wp2_with fail
                refine (sum_n (some ⟨bm, om, none⟩) mc (m.take i) i (by rw [List.length_take, HM.out]; omega) r HRr.out (by rw [List.length_take]; omega) (msk_take HK.out i) w2.heap.size w2 (((HI.out.2.2.below HBw2.out).mono HBw2.out.size).take i)).mono ?_
                rintro e v9 ⟨rfl, hv9⟩
                obtain rfl := hv9.symm
                have HPl : Hid (0 ≤ place sz ts ∧ place sz ts < dz.length) := by have := place_bd HTi.out; have h := (flawE_zero HF.out.1).2.1; exact ⟨this.1, by rw [h]; exact this.2⟩
                obtain ⟨P, hP⟩ : ∃ P : Nat, place sz ts = P := ⟨(place sz ts).toNat, by have := HPl.out.1; omega⟩
                have hPl : P < dz.length := by have := HPl.out.2; omega
                have HPP : Hid (place sz ts = P) := hP
                clear hP
                have hBu2 : Hid (Below w.heap.size w u) := HQ.out.2.2.2.2.trans (HUz.out.2.mono HQ.out.2.2.2.2.size)
                obtain ⟨bd, od, rfl, hbd, hcD⟩ := (HI.out.2.1.below hBu2.out).at hPl
                have cd := hcD P hPl
                clear hcD
                have HV : Hid (nth dz P = nth D k) := by show _ = _; rw [HV0.out]; unfold cel; rw [HPP.out, Int.toNat_natCast]
                have P6 := HQ.out.1.go HUz.out.2
                have U6 := HQ.out.2.2.1.go HUz.out.2
                have o6 := U6.c2
                have d6 := P6.c2
                have s6 := P6.c1
                have hown6 := own_go hown HUz.out.2
                have hsu : wr.heap.size ≤ u.heap.size := HUz.out.2.size
                have hl4 := HF.out.2.2.2
                clear A2 U2 hown2
                go_wp2_with fail
                rw [← HUu.out]
                refine anyT_begin 12 (fun w' => w'.cell? ⟨B, 2, none⟩ = some v ∧ w'.cell? ⟨w.heap.size, 2, none⟩ = some (.slice (some ⟨bd, od, none⟩) dz.length dc) ∧ w'.cell? ⟨w.heap.size, 1, none⟩ = some (.slice (some ⟨bs, os, none⟩) sz.length sc) ∧ w'.cell? ⟨bd, od + P, none⟩ = some (.int .i64 (nth dz P))) 14 #[false, false, false, false, false, false, false, false, false, false, false, false, false, false] (by kernel_rfl) rfl rfl ?_
                refine anyT_put 0 87 ?rv8 #[true, false, false, false, false, false, false, false, false, false, false, false, false, false] rfl rfl rfl (by kernel_rfl) (by kernel_rfl) (by kernel_rfl) (fun _ _ _ h => h) (by decide) ?ry8 (fun _ => ⟨o6, d6, s6, cd⟩) ?rm8
                case ry8 => first | exact Or.inl ⟨by rfl, by intro w'; go_simp; first | done | rfl⟩
                case rm8 =>
                simp only [Act.put, List.setIfInBounds_toArray, List.set_cons_zero, List.set_cons_succ]
                refine anyT_take 1 88 ?rv9 #[true, true, false, false, false, false, false, false, false, false, false, false, false, false] rfl rfl rfl (by kernel_rfl) (by kernel_rfl) (by kernel_rfl) (fun _ _ _ h => h) (by kernel_rfl) (by decide) (by kernel_rfl) ?ry9 (⟨o6, d6, s6, cd⟩) ?rm9
                case ry9 => first | exact Or.inl ⟨by rfl, by intro w' hw'; (try dsimp only at hw'); go_simp; first | done | rfl⟩
                case rm9 =>
                simp only [Act.put, List.setIfInBounds_toArray, List.set_cons_zero, List.set_cons_succ]
                refine anyT_put 2 89 ?rv10 #[true, true, true, false, false, false, false, false, false, false, false, false, false, false] rfl rfl rfl (by kernel_rfl) (by kernel_rfl) (by kernel_rfl) (fun _ _ _ h => h) (by decide) ?ry10 (fun _ => ⟨o6, d6, s6, cd⟩) ?rm10
                case ry10 => first | exact Or.inl ⟨by rfl, by intro w'; go_simp; first | done | rfl⟩
                case rm10 =>
                simp only [Act.put, List.setIfInBounds_toArray, List.set_cons_zero, List.set_cons_succ]
                refine anyT_take 3 90 ?rv11 #[true, true, true, true, false, false, false, false, false, false, false, false, false, false] rfl rfl rfl (by kernel_rfl) (by kernel_rfl) (by kernel_rfl) (fun _ _ _ h => h) (by kernel_rfl) (by decide) (by kernel_rfl) ?ry11 (⟨o6, d6, s6, cd⟩) ?rm11
                case ry11 => first | exact Or.inl ⟨by rfl, by intro w' hw'; (try dsimp only at hw'); go_simp; first | done | rfl⟩
                case rm11 =>
                simp only [Act.put, List.setIfInBounds_toArray, List.set_cons_zero, List.set_cons_succ]
                refine anyT_put 4 91 ?rv12 #[true, true, true, true, true, false, false, false, false, false, false, false, false, false] rfl rfl rfl (by kernel_rfl) (by kernel_rfl) (by kernel_rfl) (fun _ _ _ h => h) (by decide) ?ry12 (fun _ => ⟨o6, d6, s6, cd⟩) ?rm12
                case ry12 => first | exact Or.inl ⟨by rfl, by intro w'; go_simp; first | done | rfl⟩
                case rm12 =>
                simp only [Act.put, List.setIfInBounds_toArray, List.set_cons_zero, List.set_cons_succ]
                refine anyT_take 5 92 ?rv13 #[true, true, true, true, true, true, false, false, false, false, false, false, false, false] rfl rfl rfl (by kernel_rfl) (by kernel_rfl) (by kernel_rfl) (fun _ _ _ h => h) (by kernel_rfl) (by decide) (by kernel_rfl) ?ry13 (⟨o6, d6, s6, cd⟩) ?rm13
                case ry13 => first | exact Or.inl ⟨by rfl, by intro w' hw'; (try dsimp only at hw'); go_simp; first | done | rfl⟩
                case rm13 =>
                simp only [Act.put, List.setIfInBounds_toArray, List.set_cons_zero, List.set_cons_succ]
                refine anyT_put 6 93 ?rv14 #[true, true, true, true, true, true, true, false, false, false, false, false, false, false] rfl rfl rfl (by kernel_rfl) (by kernel_rfl) (by kernel_rfl) (fun _ _ _ h => h) (by decide) ?ry14 (fun _ => ⟨o6, d6, s6, cd⟩) ?rm14
                case ry14 => first | exact Or.inl ⟨by rfl, by intro w'; go_simp; first | done | rfl⟩
                case rm14 =>
                simp only [Act.put, List.setIfInBounds_toArray, List.set_cons_zero, List.set_cons_succ]
                refine anyT_one 7 #[true, true, true, true, true, true, true, true, false, false, false, false, false, false] (by kernel_rfl) rfl rfl (fun K hK => ?_)
                go_simp
                go_wp2_with (go_at_call 31; refine (where_n (some ⟨bs, os, none⟩) sc sz (some ⟨b1, o1, none⟩) tc n ts htl.out P HPP.out (by have := HF.out.2.2.1; omega) HF.out.2.1 HTi.out u.heap.size u.drew ((HI.out.1.below hBu2.out).mono hBu2.out.size) HUz.out.1).mono ?_; rintro e w3 ⟨rfl, rfl⟩)
                refine hK.out _ _ (fun _ => ⟨o6, d6, s6, cd⟩) ?_
                clear hK K
                refine anyT_put 8 95 ?rv16 #[true, true, true, true, true, true, true, true, true, false, false, false, false, false] rfl rfl rfl (by kernel_rfl) (by kernel_rfl) (by kernel_rfl) (fun _ _ _ h => h) (by decide) ?ry16 (fun _ => ⟨o6, d6, s6, cd⟩) ?rm16
                case ry16 => first | exact Or.inl ⟨by rfl, by intro w'; go_simp; first | done | rfl⟩
                case rm16 =>
                simp only [Act.put, List.setIfInBounds_toArray, List.set_cons_zero, List.set_cons_succ]
                refine anyT_take 9 96 ?rv17 #[true, true, true, true, true, true, true, true, true, true, false, false, false, false] rfl rfl rfl (by kernel_rfl) (by kernel_rfl) (by kernel_rfl) (fun _ _ _ h => h) (by kernel_rfl) (by decide) (by kernel_rfl) ?ry17 (⟨o6, d6, s6, cd⟩) ?rm17
                case ry17 => first | exact Or.inl ⟨by rfl, by intro w' hw'; (try dsimp only at hw'); go_simp; first | done | rfl⟩
                case rm17 =>
                simp only [Act.put, List.setIfInBounds_toArray, List.set_cons_zero, List.set_cons_succ]
                refine anyT_one 10 #[true, true, true, true, true, true, true, true, true, true, true, false, false, false] (by kernel_rfl) rfl rfl (fun K hK => ?_)
                go_simp
                have k0 := P6.al (.cells #[.int .i64 (nth dz P)] 3)
                have k1 := U6.al (.cells #[.int .i64 (nth dz P)] 3)
                have k2 : (u.alloc (.cells #[.int .i64 (nth dz P)] 3)).cell? ⟨bd, od + P, none⟩ = some (.int .i64 (nth dz P)) := (World.cell?_alloc_lt u _ ⟨bd, od + P, none⟩ (by have := hBu2.out.size; show bd < u.heap.size; omega)).trans cd
                refine hK.out _ _ (fun _ => ⟨k1.c2, k0.c2, k0.c1, k2⟩) ?_
                clear hK K
                refine anyT_one 11 #[true, true, true, true, true, true, true, true, true, true, true, true, false, false] (by kernel_rfl) rfl rfl (fun K hK => ?_)
                refine app_step 98 rfl rfl _ _ rfl _ v5.heap.size u.heap.size v (D.take k) (nth dz P) rfl rfl ((hown6.alloc _).drew) (heap_alloc_new u _) (by rw [take_lenR _ hkD]; omega) (by simp; omega) ?_
                intro g1 gc1 w4 hown1 hB4
                have P7 := k0.dr.bel hB4 (by omega)
                have HO1 : Hid (Abx w4 B (.bool c) (.slice (some ⟨bt, ot, none⟩) n gc) v) := k1.dr.bel hB4 (by omega)
                have x2 := HO1.out.c2
                have xf := HO1.out.fr 2
                have xd : w4.cell? ⟨bd, od + P, none⟩ = some (.int .i64 (nth dz P)) := (hB4.cell (p := ⟨bd, od + P, none⟩) (by show bd < _; omega)).trans k2
                refine hK.out _ _ (fun _ => ⟨x2, P7.c2, P7.c1, xd⟩) ?_
                clear hK K
                simp only [Act.put, List.setIfInBounds_toArray, List.set_cons_zero, List.set_cons_succ]
                refine anyT_one 12 #[true, true, true, true, true, true, true, true, true, true, true, true, true, false] (by kernel_rfl) rfl rfl (fun K hK => ?_)
                go_simp
                refine hK.out _ _ (fun h => absurd h (by decide)) ?_
                clear hK K
                refine anyT_one 13 #[true, true, true, true, true, true, true, true, true, true, true, true, true, true] (by kernel_rfl) rfl rfl (fun K hK => ?_)
                go_simp
                refine hK.out _ _ (fun h => absurd h (by decide)) ?_
                clear hK K
                refine anyT_done (by kernel_rfl) ?_
                go_wp2_with fail
                rw [HV.out, ← take_snoc D k (by omega), take_lenR D hkD] at hown1
                have hz4 := hB4.size
                simp at hz4
                refine ⟨⟨k + 1, .slice (some ⟨g1, 0, none⟩) (k + 1) gc1, by omega, by go_num, P7.ot (by show w.heap.size ≠ B; omega) _, ?_, HO1.out.s2 _, ?_, ?_, by simp [World.setCell]; omega, ?_⟩, by simp [intOf]; omega⟩
                · exact (((HQ.out.2.1.go HUz.out.2).al _).dr.bel hB4 (by omega)).ot (by show w.heap.size + 1 ≠ B; omega) _
                · rw [take_lenR D (show k + 1 ≤ D.length by omega)]
                  exact ownsRow_setCell_below hown1 (by show B < v5.heap.size; omega) _
                · exact (((((HQ.out.2.2.2.1.bel (HUz.out.2.mono hsx)).al (by omega) _).dr).bel hB4)).set 2 _
                · exact (((hBu2.out.alloc hBu2.out.size _).drew.trans (hB4.mono (by omega)))).setCell (p := ⟨B, 2, none⟩) (by show w.heap.size ≤ B; omega) _
            · obtain rfl : k = q := by omega
              rw [List.take_of_length_le (by omega)] at hown
              obtain ⟨g1, gc1, rfl, hN1⟩ := owns_new hown
              have o0 := hU.c0
              have o1 := hU.c1
              have o2 := hU.c2
              have r_0 := hR.c0
              have r_1 := hR.c1
              have r_2 := hR.c2
              have f_0 := hR.fr 0
              have f_1 := hR.fr 1
              have f_2 := hR.fr 2
              clear hown hlt
              go_wp2_with fail
              have FF := hR.set3 (.bool c) (.slice (some ⟨bt, ot, none⟩) n gc) (.slice g1 D.length gc1)
              have q0' := FF.c0
              have q1' := FF.c1
              have q2' := FF.c2
              refine bodyPost_ret (v := .tuple #[.agg #[.bool c, .slice (some ⟨bt, ot, none⟩) n gc, .slice g1 D.length gc1], .int .i64 0]) (by simp [results, Tryd.results17, go_sem, q0', q1', q2']) rfl ?_
              have hX := ((hSp.new hsx).set3 (b := w.heap.size + 1) (by omega) (.bool c) (.slice (some ⟨bt, ot, none⟩) n gc) (.slice g1 D.length gc1)).low (lo' := w.heap.size) (by omega)
              have hY := (hN1.set3 (b := w.heap.size + 1) (by omega) (.bool c) (.slice (some ⟨bt, ot, none⟩) n gc) (.slice g1 D.length gc1)).low (lo' := w.heap.size) (by omega)
              have hZ := bel_set3 hBx (b := w.heap.size + 1) (by omega) (.bool c) (.slice (some ⟨bt, ot, none⟩) n gc) (.slice g1 D.length gc1)
              have hUR := UR.ok (c := c) (xc := gc) (yc := gc1) HE.out hX hY hZ
              have hE1 := HS.out
              have hE2 := HD.out.1
              obtain ⟨rfl, hE3⟩ := hE1
              obtain rfl := hE2
              rw [hE3] at hUR
              exact hUR
        · have t0 : (errOf S != 0) = true := by simpa using hES
          have HE : Hid (spE m xn c sz dz = errOf S) := by show _ = _; unfold spE; rw [if_neg (by simpa using HA.out), if_neg (by rw [HK.out]; decide), if_neg (by rw [Int.toNat_natCast]; simpa using HSm.out), Int.toNat_natCast, HS.out.1]
          have HES : Hid (errOf S ≠ 0) := hES
          have hR4 := HR4.out.lt
          clear hES
          have r_0 := HR4.out.c0
          have r_1 := HR4.out.c1
          have r_2 := HR4.out.c2
          have f_0 := HR4.out.fr 0
          have f_1 := HR4.out.fr 1
          have f_2 := HR4.out.fr 2
          go_wp2_with fail
          have FF := HR4.out.set3 (.bool false) (.slice none 0 0) (.slice none 0 0)
          have q0 := FF.c0
          have q1 := FF.c1
          have q2 := FF.c2
          exact bodyPost_ret (v := .tuple #[.agg #[.bool false, .slice none 0 0, .slice none 0 0], .int .i64 (errOf S)]) (by simp [results, Tryd.results17, go_sem, q0, q1, q2]) rfl (UR.no HE.out HES.out (bel_set3 HBw.out (by omega) _ _ _))
      · have tsum : (q0 != z0) = true := by simpa using hsum
        have HE : Hid (spE m xn c sz dz = 4) := by show _ = _; unfold spE; rw [if_neg (by simpa using HA.out), if_neg (by rw [HK.out]; decide), if_pos (by rw [Int.toNat_natCast, HQ0.out, HZ0.out]; exact hsum)]
        clear hsum
        have r_0 := HR2.out.c0
        have r_1 := HR2.out.c1
        have r_2 := HR2.out.c2
        have f_0 := HR2.out.fr 0
        have f_1 := HR2.out.fr 1
        have f_2 := HR2.out.fr 2
        go_wp2_with fail
        have FF := HR2.out.set3 (.bool false) (.slice none 0 0) (.slice none 0 0)
        have q0 := FF.c0
        have q1 := FF.c1
        have q2 := FF.c2
        exact bodyPost_ret (v := .tuple #[.agg #[.bool false, .slice none 0 0, .slice none 0 0], .int .i64 4]) (by simp [results, Tryd.results17, go_sem, q0, q1, q2]) rfl (UR.no HE.out (by decide) (bel_set3 HB2.out (by omega) _ _ _))
  · have t0 : (axE x c sz dz != 0) = true := by simpa using he
    have HE : Hid (spE m x c sz dz = axE x c sz dz) := by show _ = _; unfold spE; rw [if_pos he]
    have HA : Hid (axE x c sz dz ≠ 0) := he
    clear he
    have r_0 := HR.out.c0
    have r_1 := HR.out.c1
    have r_2 := HR.out.c2
    have f_0 := HR.out.fr 0
    have f_1 := HR.out.fr 1
    have f_2 := HR.out.fr 2
    go_wp2_with fail
    have FF := HR.out.set3 (.bool false) (.slice none 0 0) (.slice none 0 0)
    have q0 := FF.c0
    have q1 := FF.c1
    have q2 := FF.c2
    exact bodyPost_ret (v := .tuple #[.agg #[.bool false, .slice none 0 0, .slice none 0 0], .int .i64 (axE x c sz dz)]) (by simp [results, Tryd.results17, go_sem, q0, q1, q2]) rfl (UR.no HE.out HA.out (bel_set3 hb.out (by omega) _ _ _))
end Go.Proofs.YtldjgacnjogbnaaDoor
