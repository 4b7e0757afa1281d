/-
  What the reference tells of an array with its axes in another order.
-/
import Derived.Test.YtkadepneehdffaaDoorRmove
import Derived.Test.YtkadepneehdffaaDoorAxed
namespace Go.Proofs.YtkadepneehdffaaDoor
open Go.RowKit
set_option linter.unusedVariables false

set_option maxRecDepth 100000 in
set_option maxHeartbeats 20000000 in
theorem flipped_any (pa : Option Addr) (pc : Nat) (p : List Int) (c : Bool) (sa : Option Addr) (sc : Nat) (sz : List Int) (da : Option Addr) (dc : Nat) (dz : List Int) (h0 : p.length ≤ 9223372036854775807) (h1 : sz.length ≤ 9223372036854775807) (h2 : dz.length ≤ 9223372036854775807) (w : World) (hp : IsInts w.heap.size w pa p) (hs : IsInts w.heap.size w sa sz) (hd : IsInts w.heap.size w da dz) :
    Calls Tryd.prog 9 #[.slice pa p.length pc, .agg #[.bool c, .slice sa sz.length sc, .slice da dz.length dc]] w (UR (flE p c sz dz) (onc (flE p c sz dz) c) (flS5 p c sz dz) (flD5 p c sz dz) w) := by
  have HI : Hid (IsInts w.heap.size w sa sz ∧ IsInts w.heap.size w da dz) := ⟨hs, hd⟩
  have HPp : Hid (IsInts w.heap.size w pa p) := hp
  clear hs hd hp
  have hb : Hid (Below w.heap.size w ((w.alloc (.cells #[.bool c, .slice sa sz.length sc, .slice da dz.length dc] 33)).alloc (.cells #[.bool false, .slice none 0 0, .slice none 0 0] 33))) := ((Below.refl _ w).alloc (Nat.le_refl _) _).alloc (by simp) _
  have pa' := (Abx.new w (.bool c) (.slice sa sz.length sc) (.slice da dz.length dc)).al (.cells #[.bool false, .slice none 0 0, .slice none 0 0] 33)
  have pr := Abx.new1 w (.cells #[.bool c, .slice sa sz.length sc, .slice da dz.length dc] 33) (.bool false) (.slice none 0 0) (.slice none 0 0)
  go_enter Tryd.func9, Tryd.ntmps9
  go_wp2_with fail
  refine (flaw_any c sa sc sz da dc dz h1 h2 _ ((HI.out.1.below hb.out).mono hb.out.size) ((HI.out.2.below hb.out).mono hb.out.size)).mono ?_
  rintro e v0 ⟨rfl, hB⟩
  replace hb : Hid (Below w.heap.size w v0) := hb.out.trans (hB.mono hb.out.size)
  have HP0 : Hid (Abx v0 w.heap.size (.bool c) (.slice sa sz.length sc) (.slice da dz.length dc)) := pa'.go hB
  have HR0 : Hid (Abx v0 (w.heap.size + 1) (.bool false) (.slice none 0 0) (.slice none 0 0)) := pr.go hB
  clear hB pa' pr
  by_cases hf : flawE c sz dz = 0
  · rw [hf]
    have HF : Hid (flawE c sz dz = 0) := hf
    have HL : Hid (sz.length ≤ 6 ∧ dz.length ≤ 4096) := flawE_short HF.out
    clear hf
    have p1 := HP0.out.c1
    go_wp2_with fail
    refine (axed_new sa sc sz pa pc p h1 h0 v0 ((HI.out.1.below hb.out).mono hb.out.size) ((HPp.out.below hb.out).mono hb.out.size)).mono ?_
    rintro e v1 ⟨g, gc, rfl, hG, hB⟩
    have hb1 : Hid (Below w.heap.size w v1) := hb.out.trans (hB.mono hb.out.size)
    have HP : Hid (Abx v1 w.heap.size (.bool c) (.slice sa sz.length sc) (.slice da dz.length dc)) := HP0.out.go hB
    have HR : Hid (Abx v1 (w.heap.size + 1) (.bool false) (.slice none 0 0) (.slice none 0 0)) := HR0.out.go hB
    have HG : Hid (NewInts v0.heap.size v1 g (axVal sz p)) := hG
    have lv : v0.heap.size ≤ v1.heap.size := hB.size
    clear hB p1 hG
    by_cases hx : axErr sz p = 0
    · rw [hx]
      have HX : Hid (axErr sz p = 0) := hx
      have HE : Hid (flE p c sz dz = 0) := by show _ = _; unfold flE; rw [if_neg (by simpa using HF.out), hx]
      clear hx
      have p0 := HP.out.c0
      obtain ⟨S, hS⟩ : ∃ S, S = axVal sz p := ⟨_, rfl⟩
      have HSf : Hid (S = axVal sz p ∧ errOf S = 0 ∧ prod S = prod sz ∧ AxSpec sz p S ∧ IsOrd p ∧ p.length = sz.length) := by
        have hz := axErr_zero.1 HX.out
        have ha := axVal_spec HX.out
        rw [hS]
        exact ⟨rfl, ax_err hz.2.2 hz.2.1 ha hz.1, ax_prod hz.2.2 hz.2.1 ha, ha, hz.2.2, hz.2.1⟩
      have HGS : Hid (NewInts v0.heap.size v1 g S) := by rw [hS]; exact HG.out
      have hSl : S.length ≤ 6 := by have h := HSf.out.2.2.2.1.1; have := HL.out.1; omega
      rw [← hS]
      clear hS HG
      have hb2 : Hid (Below w.heap.size w (v1.alloc (.cells #[.bool c, .slice g S.length gc, .slice none 0 0] 33))) := hb1.out.alloc hb1.out.size _
      have HO : Hid (Abx (v1.alloc (.cells #[.bool c, .slice g S.length gc, .slice none 0 0] 33)) w.heap.size (.bool c) (.slice sa sz.length sc) (.slice da dz.length dc) ∧ Abx (v1.alloc (.cells #[.bool c, .slice g S.length gc, .slice none 0 0] 33)) (w.heap.size + 1) (.bool false) (.slice none 0 0) (.slice none 0 0) ∧ Abx (v1.alloc (.cells #[.bool c, .slice g S.length gc, .slice none 0 0] 33)) v1.heap.size (.bool c) (.slice g S.length gc) (.slice none 0 0) ∧ SepInts v0.heap.size (v1.alloc (.cells #[.bool c, .slice g S.length gc, .slice none 0 0] 33)).heap.size v1.heap.size (v1.alloc (.cells #[.bool c, .slice g S.length gc, .slice none 0 0] 33)) g S) :=
        ⟨HP.out.al _, HR.out.al _, Abx.new v1 _ _ _, ((SepInts.of_new HGS.out (.inr (Nat.le_refl _))).al (Nat.le_refl _) _).high (by simp)⟩
      have hbv : w.heap.size + 1 < v0.heap.size := HR0.out.lt
      go_wp2_with fail
      obtain ⟨B, hBe⟩ : ∃ B, B = v1.heap.size := ⟨_, rfl⟩
      have hsz2 : (v1.alloc (.cells #[.bool c, .slice g S.length gc, .slice none 0 0] 33)).heap.size = v1.heap.size + 1 := by simp
      obtain ⟨v2, hv2⟩ : ∃ v2, v2 = v1.alloc (.cells #[.bool c, .slice g S.length gc, .slice none 0 0] 33) := ⟨_, rfl⟩
      rw [← hv2] at hb2 HO hsz2 ⊢
      rw [← hBe] at HO hsz2 lv ⊢
      have hBl : w.heap.size + 1 < B := by omega
      have hB2 : B < v2.heap.size := by omega
      clear hv2 hBe
      obtain ⟨D, hD⟩ : ∃ D, D = GA sz dz S (flpT p) := ⟨_, rfl⟩
      have HD : Hid (D = GA sz dz S (flpT p)) := hD
      have hD1 : D.length ≤ dz.length := by have := (flawE_zero HF.out).2.1; have h3 := HSf.out.2.2.1; rw [hD, GA_length]; omega
      have hD2 : dz.length ≤ D.length := by have := (flawE_zero HF.out).2.1; have h3 := HSf.out.2.2.1; rw [hD, GA_length]; omega
      clear hD p0 hsz2
      go_loopw [9] (fun i wx => ∃ (k : Nat) (v : Value), k ≤ dz.length ∧ i = .int .i64 k ∧ Abx wx w.heap.size (.bool c) (.slice sa sz.length sc) (.slice da dz.length dc) ∧ Abx wx (w.heap.size + 1) (.bool false) (.slice none 0 0) (.slice none 0 0) ∧ Abx wx B (.bool c) (.slice g S.length gc) v
          ∧ wx.ownsRow v2.heap.size 3 1 v (D.take k).length ((D.take k).map (Value.int .i64)) ∧ SepInts v0.heap.size v2.heap.size B wx g S ∧ v2.heap.size ≤ wx.heap.size ∧ Below w.heap.size w wx) (fun i _ => dz.length - (intOf i).toNat)
      case atStart => exact ⟨0, .slice none 0 0, Nat.zero_le _, rfl, HO.out.1, HO.out.2.1, HO.out.2.2.1, World.ownsRow_nil _ _ _ _, HO.out.2.2.2, Nat.le_refl _, hb2.out⟩
      case round =>
        obtain ⟨k, v, hk, rfl, hP, hR, hU, hown, hS, hsx, hBx⟩ := hrel
        have b1 := hP.c1
        have b2 := hP.c2
        have o2 := hU.c2
        have of2 := hU.fr 2
        by_cases hlt : k < dz.length
        · have HK : Hid (errOf sz = 0 ∧ (k : Int) < prod S) := ⟨(flawE_zero HF.out).1, by have h := (flawE_zero HF.out).2.1; have h3 := HSf.out.2.2.1; omega⟩
          have HQ : Hid (Abx wr w.heap.size (.bool c) (.slice sa sz.length sc) (.slice da dz.length dc) ∧ Abx wr (w.heap.size + 1) (.bool false) (.slice none 0 0) (.slice none 0 0) ∧ Abx wr B (.bool c) (.slice g S.length gc) v ∧ SepInts v0.heap.size v2.heap.size B wr g S ∧ Below w.heap.size w wr) := ⟨hP, hR, hU, hS, hBx⟩
          clear hP hR hU hS
          have hmk := run_make_row' (P := Tryd.prog) 22 3 (.int .i64 0) 8 Tryd.underlying22 Tryd.infoInt rfl .i64 .i64 S.length (by omega) (by omega)
          go_wp2_with fail
          refine (coords_new g gc S k HSf.out.2.1 HK.out.2 wr (HQ.out.2.2.2.1.new hsx).ints).mono ?_
          rintro e w2 ⟨ta, tc, rfl, hA, hB3⟩
          rw [cr_length]
          have HA : Hid (NewInts wr.heap.size w2 ta (cr S k)) := hA
          have HB3 : Hid (Below wr.heap.size wr w2) := hB3
          have HBw : Hid (Below w.heap.size w w2) := HQ.out.2.2.2.2.trans (hB3.mono HQ.out.2.2.2.2.size)
          have HC : Hid (insB S (cr S k) = true ∧ place S (cr S k) = k) := cr_fact HSf.out.2.1 HK.out.2
          clear hB3 hA b1 b2 o2 of2
          go_wp2_with fail
          clear hmk
          obtain ⟨wo, hwo⟩ : ∃ wo, wo = wr := ⟨_, rfl⟩
          subst hwo
          go_loopw [12] (fun i wy => ∃ j : Nat, j ≤ S.length ∧ i = .int .i64 j ∧ wy.rowIs w2.heap.size 3 S.length (upR (fun q => nth (cr S k) (nth p q).toNat) j) ∧ Below w2.heap.size w2 wy) (fun i _ => S.length - (intOf i).toNat)
          case atStart => exact ⟨0, Nat.zero_le _, rfl, (World.rowIs_made w2 (.int .i64 0) S.length 3).congr (fun j _ => by simp [upR]), (Below.refl _ w2).alloc (Nat.le_refl _) _⟩
          case round =>
            obtain ⟨j, hj, rfl, hrow, hBy⟩ := hrel
            by_cases hjl : j < S.length
            · have HJ : Hid (j < p.length) := by have h := HSf.out.2.2.2.1.1; have h' := HSf.out.2.2.2.2.2; show _ < _; omega
              obtain ⟨bp, op, rfl, hbp, hcP⟩ := (HPp.out.below (HBw.out.trans (hBy.mono HBw.out.size))).at HJ.out
              have cp := hcP j HJ.out
              have hjp : j < p.length := HJ.out
              obtain ⟨q, hq⟩ : ∃ q : Nat, nth p j = q := ⟨(nth p j).toNat, by have := HSf.out.2.2.2.2.1.1 j HJ.out; omega⟩
              have hql : q < S.length := by have := HSf.out.2.2.2.2.1.1 j HJ.out; have h := HSf.out.2.2.2.1.1; have h' := HSf.out.2.2.2.2.2; omega
              rw [hq] at cp
              have HQ2 : Hid (nth (cr S k) q = nth (cr S k) (nth p j).toNat) := by show _ = _; rw [hq, Int.toNat_natCast]
              clear hq hcP
              rcases HA.out with hA | ⟨bt, ot, rfl, l0, hbt, hcT, hfT⟩
              · have := cr_length S k; rw [hA] at this; simp at this; omega
              have ct := (hBy.cell (p := ⟨bt, ot + q, none⟩) hbt).trans (hcT q (by rw [cr_length]; exact hql))
              clear hcT hfT
              have c2 := hrow.cell hjl
              have f2 := hrow.frozen j
              go_wp2_with fail
              exact ⟨⟨j + 1, by omega, by go_num, upR_set hrow _ HQ2.out, hBy.setCell (p := ⟨w2.heap.size, j, none⟩) (Nat.le_refl _) _⟩, by simp [intOf]; omega⟩
            · obtain rfl : j = S.length := by omega
              obtain ⟨ts, hts⟩ : ∃ ts, ts = flpT p (cr S k) := ⟨_, rfl⟩
              have HTi : Hid (insB sz ts = true) := by rw [hts]; exact flpT_in HSf.out.2.2.2.2.1 HSf.out.2.2.2.2.2 HSf.out.2.2.2.1 HC.out.1
              have HTs : Hid (ts = flpT p (cr S k)) := hts
              have HTl : Hid (ts.length = S.length) := by show _ = _; rw [hts, flpT_length]; have h := HSf.out.2.2.2.1.1; have h' := HSf.out.2.2.2.2.2; omega
              have HUz0 : Hid (IsInts wr.heap.size wr (some ⟨w2.heap.size, 0, none⟩) ts ∧ Below wo.heap.size wo wr) := ⟨(upR_new hrow (Nat.le_refl _) ts HTl.out (fun j hj => by rw [HTs.out, flpT_nth p _ (by have h := HSf.out.2.2.2.1.1; have h' := HSf.out.2.2.2.2.2; omega)])).ints, HB3.out.trans (hBy.mono HB3.out.size)⟩
              clear hts hrow hBy hj hjl
              obtain ⟨u, hu⟩ : ∃ u, u = wr := ⟨_, rfl⟩
              subst hu
              obtain ⟨wr, hwr⟩ : ∃ wr, wr = wo := ⟨_, rfl⟩
              subst hwr
              have HUz : Hid (IsInts u.heap.size u (some ⟨w2.heap.size, 0, none⟩) ts ∧ Below wr.heap.size wr u) := HUz0
              clear HUz0
              have hl4 := HL.out.2
              have HPl : Hid (0 ≤ place sz ts ∧ place sz ts < dz.length) := by have := place_bd HTi.out; have h := (flawE_zero HF.out).2.1; exact ⟨this.1, by rw [h]; exact this.2⟩
              obtain ⟨P, hP⟩ : ∃ P : Nat, place sz ts = P := ⟨(place sz ts).toNat, by have := HPl.out.1; omega⟩
              have hPl : P < dz.length := by have := HPl.out.2; omega
              have HPP : Hid (place sz ts = P) := hP
              clear hP
              obtain ⟨bd, od, rfl, hbd, hcD⟩ := (HI.out.2.below (HQ.out.2.2.2.2.trans (HUz.out.2.mono HQ.out.2.2.2.2.size))).at hPl
              have cd := hcD P hPl
              clear hcD
              have HV : Hid (nth dz P = nth D k) := by show _ = _; rw [HD.out, GA_nth (by have h := (flawE_zero HF.out).2.1; have h3 := HSf.out.2.2.1; omega), ← HTs.out, HPP.out, Int.toNat_natCast]
              have P6 := HQ.out.1.go HUz.out.2
              have U6 := HQ.out.2.2.1.go HUz.out.2
              have o6 := U6.c2
              have d6 := P6.c2
              have s6 := P6.c1
              have hown6 := own_go hown HUz.out.2
              have hsu : wr.heap.size ≤ u.heap.size := HUz.out.2.size
              have hkD : k ≤ D.length := by omega
              have hBu2 : Hid (Below w.heap.size w u) := HQ.out.2.2.2.2.trans (HUz.out.2.mono HQ.out.2.2.2.2.size)
              go_wp2_with fail
              refine anyT_begin 12 (fun w' => w'.cell? ⟨B, 2, none⟩ = some v ∧ w'.cell? ⟨w.heap.size, 2, none⟩ = some (.slice (some ⟨bd, od, none⟩) dz.length dc) ∧ w'.cell? ⟨w.heap.size, 1, none⟩ = some (.slice sa sz.length sc) ∧ w'.cell? ⟨bd, od + P, none⟩ = some (.int .i64 (nth dz P))) 14 #[false, false, false, false, false, false, false, false, false, false, false, false, false, false] (by kernel_rfl) rfl rfl ?_
              refine anyT_put 0 63 ?rv0 #[true, false, false, false, false, false, false, false, false, false, false, false, false, false] rfl rfl rfl (by kernel_rfl) (by kernel_rfl) (by kernel_rfl) (fun _ _ _ h => h) (by decide) ?ry0 (fun _ => ⟨o6, d6, s6, cd⟩) ?rm0
              case ry0 => first | exact Or.inl ⟨by rfl, by intro w'; go_simp; first | done | rfl⟩
              case rm0 =>
              simp only [Act.put, List.setIfInBounds_toArray, List.set_cons_zero, List.set_cons_succ]
              refine anyT_take 1 64 ?rv1 #[true, true, false, false, false, false, false, false, false, false, false, false, false, false] rfl rfl rfl (by kernel_rfl) (by kernel_rfl) (by kernel_rfl) (fun _ _ _ h => h) (by kernel_rfl) (by decide) (by kernel_rfl) ?ry1 (⟨o6, d6, s6, cd⟩) ?rm1
              case ry1 => first | exact Or.inl ⟨by rfl, by intro w' hw'; (try dsimp only at hw'); go_simp; first | done | rfl⟩
              case rm1 =>
              simp only [Act.put, List.setIfInBounds_toArray, List.set_cons_zero, List.set_cons_succ]
              refine anyT_put 2 65 ?rv2 #[true, true, true, false, false, false, false, false, false, false, false, false, false, false] rfl rfl rfl (by kernel_rfl) (by kernel_rfl) (by kernel_rfl) (fun _ _ _ h => h) (by decide) ?ry2 (fun _ => ⟨o6, d6, s6, cd⟩) ?rm2
              case ry2 => first | exact Or.inl ⟨by rfl, by intro w'; go_simp; first | done | rfl⟩
              case rm2 =>
              simp only [Act.put, List.setIfInBounds_toArray, List.set_cons_zero, List.set_cons_succ]
              refine anyT_take 3 66 ?rv3 #[true, true, true, true, false, false, false, false, false, false, false, false, false, false] rfl rfl rfl (by kernel_rfl) (by kernel_rfl) (by kernel_rfl) (fun _ _ _ h => h) (by kernel_rfl) (by decide) (by kernel_rfl) ?ry3 (⟨o6, d6, s6, cd⟩) ?rm3
              case ry3 => first | exact Or.inl ⟨by rfl, by intro w' hw'; (try dsimp only at hw'); go_simp; first | done | rfl⟩
              case rm3 =>
              simp only [Act.put, List.setIfInBounds_toArray, List.set_cons_zero, List.set_cons_succ]
              refine anyT_put 4 67 ?rv4 #[true, true, true, true, true, false, false, false, false, false, false, false, false, false] rfl rfl rfl (by kernel_rfl) (by kernel_rfl) (by kernel_rfl) (fun _ _ _ h => h) (by decide) ?ry4 (fun _ => ⟨o6, d6, s6, cd⟩) ?rm4
              case ry4 => first | exact Or.inl ⟨by rfl, by intro w'; go_simp; first | done | rfl⟩
              case rm4 =>
              simp only [Act.put, List.setIfInBounds_toArray, List.set_cons_zero, List.set_cons_succ]
              refine anyT_take 5 68 ?rv5 #[true, true, true, true, true, true, false, false, false, false, false, false, false, false] rfl rfl rfl (by kernel_rfl) (by kernel_rfl) (by kernel_rfl) (fun _ _ _ h => h) (by kernel_rfl) (by decide) (by kernel_rfl) ?ry5 (⟨o6, d6, s6, cd⟩) ?rm5
              case ry5 => first | exact Or.inl ⟨by rfl, by intro w' hw'; (try dsimp only at hw'); go_simp; first | done | rfl⟩
              case rm5 =>
              simp only [Act.put, List.setIfInBounds_toArray, List.set_cons_zero, List.set_cons_succ]
              refine anyT_put 6 69 ?rv6 #[true, true, true, true, true, true, true, false, false, false, false, false, false, false] rfl rfl rfl (by kernel_rfl) (by kernel_rfl) (by kernel_rfl) (fun _ _ _ h => h) (by decide) ?ry6 (fun _ => ⟨o6, d6, s6, cd⟩) ?rm6
              case ry6 => first | exact Or.inl ⟨by rfl, by intro w'; go_simp; first | done | rfl⟩
              case rm6 =>
              simp only [Act.put, List.setIfInBounds_toArray, List.set_cons_zero, List.set_cons_succ]
              refine anyT_one 7 #[true, true, true, true, true, true, true, true, false, false, false, false, false, false] (by kernel_rfl) rfl rfl (fun K hK => ?_)
              go_simp
              go_wp2_with (go_at_call 20; refine (where_n sa sc sz (some ⟨w2.heap.size, 0, none⟩) S.length S.length ts HTl.out P HPP.out h1 HK.out.1 HTi.out u.heap.size u.drew ((HI.out.1.below hBu2.out).mono hBu2.out.size) HUz.out.1).mono ?_; rintro e w3 ⟨rfl, rfl⟩)
              refine hK.out _ _ (fun _ => ⟨o6, d6, s6, cd⟩) ?_
              clear hK K
              refine anyT_put 8 71 ?rv8 #[true, true, true, true, true, true, true, true, true, false, false, false, false, false] rfl rfl rfl (by kernel_rfl) (by kernel_rfl) (by kernel_rfl) (fun _ _ _ h => h) (by decide) ?ry8 (fun _ => ⟨o6, d6, s6, cd⟩) ?rm8
              case ry8 => first | exact Or.inl ⟨by rfl, by intro w'; go_simp; first | done | rfl⟩
              case rm8 =>
              simp only [Act.put, List.setIfInBounds_toArray, List.set_cons_zero, List.set_cons_succ]
              refine anyT_take 9 72 ?rv9 #[true, true, true, true, true, true, true, true, true, true, false, false, false, false] rfl rfl rfl (by kernel_rfl) (by kernel_rfl) (by kernel_rfl) (fun _ _ _ h => h) (by kernel_rfl) (by decide) (by kernel_rfl) ?ry9 (⟨o6, d6, s6, cd⟩) ?rm9
              case ry9 => first | exact Or.inl ⟨by rfl, by intro w' hw'; (try dsimp only at hw'); go_simp; first | done | rfl⟩
              case rm9 =>
              simp only [Act.put, List.setIfInBounds_toArray, List.set_cons_zero, List.set_cons_succ]
              refine anyT_one 10 #[true, true, true, true, true, true, true, true, true, true, true, false, false, false] (by kernel_rfl) rfl rfl (fun K hK => ?_)
              go_simp
              have k0 := P6.al (.cells #[.int .i64 (nth dz P)] 3)
              have k1 := U6.al (.cells #[.int .i64 (nth dz P)] 3)
              have k2 : (u.alloc (.cells #[.int .i64 (nth dz P)] 3)).cell? ⟨bd, od + P, none⟩ = some (.int .i64 (nth dz P)) := (World.cell?_alloc_lt u _ ⟨bd, od + P, none⟩ (by have := hBu2.out.size; show bd < u.heap.size; omega)).trans cd
              refine hK.out _ _ (fun _ => ⟨k1.c2, k0.c2, k0.c1, k2⟩) ?_
              clear hK K
              refine anyT_one 11 #[true, true, true, true, true, true, true, true, true, true, true, true, false, false] (by kernel_rfl) rfl rfl (fun K hK => ?_)
              refine app_step 74 rfl rfl _ _ rfl _ v2.heap.size u.heap.size v (D.take k) (nth dz P) rfl rfl ((hown6.alloc _).drew) (heap_alloc_new u _) (by rw [take_lenR _ (by omega)]; omega) (by simp; omega) ?_
              intro g1 gc1 w4 hown1 hB4
              have P7 := k0.dr.bel hB4 (by omega)
              have HO1 : Hid (Abx w4 B (.bool c) (.slice g S.length gc) v) := k1.dr.bel hB4 (by omega)
              have x2 := HO1.out.c2
              have xf := HO1.out.fr 2
              have xd : w4.cell? ⟨bd, od + P, none⟩ = some (.int .i64 (nth dz P)) := (hB4.cell (p := ⟨bd, od + P, none⟩) (by show bd < _; omega)).trans k2
              refine hK.out _ _ (fun _ => ⟨x2, P7.c2, P7.c1, xd⟩) ?_
              clear hK K
              simp only [Act.put, List.setIfInBounds_toArray, List.set_cons_zero, List.set_cons_succ]
              refine anyT_one 12 #[true, true, true, true, true, true, true, true, true, true, true, true, true, false] (by kernel_rfl) rfl rfl (fun K hK => ?_)
              go_simp
              refine hK.out _ _ (fun h => absurd h (by decide)) ?_
              clear hK K
              refine anyT_one 13 #[true, true, true, true, true, true, true, true, true, true, true, true, true, true] (by kernel_rfl) rfl rfl (fun K hK => ?_)
              go_simp
              refine hK.out _ _ (fun h => absurd h (by decide)) ?_
              clear hK K
              refine anyT_done (by kernel_rfl) ?_
              go_wp2_with fail
              rw [HV.out, ← take_snoc D k (by omega), take_lenR D (show k ≤ D.length by omega)] at hown1
              have hz4 := hB4.size
              simp at hz4
              refine ⟨⟨k + 1, .slice (some ⟨g1, 0, none⟩) (k + 1) gc1, by omega, by go_num, P7.ot (by show w.heap.size ≠ B; omega) _, ?_, HO1.out.s2 _, ?_, ?_, by simp [World.setCell]; omega, ?_⟩, by simp [intOf]; omega⟩
              · exact (((HQ.out.2.1.go HUz.out.2).al _).dr.bel hB4 (by omega)).ot (by show w.heap.size + 1 ≠ B; omega) _
              · rw [take_lenR D (show k + 1 ≤ D.length by omega)]
                exact ownsRow_setCell_below hown1 (by show B < v2.heap.size; omega) _
              · exact (((((HQ.out.2.2.2.1.bel (HUz.out.2.mono hsx)).al (by omega) _).dr).bel hB4)).set 2 _
              · exact (((hBu2.out.alloc hBu2.out.size _).drew.trans (hB4.mono (by omega)))).setCell (p := ⟨B, 2, none⟩) (by show w.heap.size ≤ B; omega) _
        · obtain rfl : k = dz.length := by omega
          rw [List.take_of_length_le (by omega)] at hown
          obtain ⟨g1, gc1, rfl, hN1⟩ := owns_new hown
          have o0 := hU.c0
          have o1 := hU.c1
          have r_0 := hR.c0
          have r_1 := hR.c1
          have r_2 := hR.c2
          have f_0 := hR.fr 0
          have f_1 := hR.fr 1
          have f_2 := hR.fr 2
          clear hown hlt
          go_wp2_with fail
          have FF := hR.set3 (.bool c) (.slice g S.length gc) (.slice g1 D.length gc1)
          have q0 := FF.c0
          have q1 := FF.c1
          have q2 := FF.c2
          refine bodyPost_ret (v := .tuple #[.agg #[.bool c, .slice g S.length gc, .slice g1 D.length gc1], .int .i64 0]) (by simp [results, Tryd.results9, go_sem, q0, q1, q2]) rfl ?_
          have hX := ((hS.new hsx).set3 (b := w.heap.size + 1) (by have := HR0.out.lt; omega) (.bool c) (.slice g S.length gc) (.slice g1 D.length gc1)).low (lo' := w.heap.size) (by omega)
          have hY := (hN1.set3 (b := w.heap.size + 1) (by omega) (.bool c) (.slice g S.length gc) (.slice g1 D.length gc1)).low (lo' := w.heap.size) (by omega)
          have hZ := bel_set3 hBx (b := w.heap.size + 1) (by omega) (.bool c) (.slice g S.length gc) (.slice g1 D.length gc1)
          obtain rfl := HD.out; obtain rfl := HSf.out.1; exact UR.ok HE.out hX hY hZ
    · have t0 : (axErr sz p != 0) = true := by simpa using hx
      have HE : Hid (flE p c sz dz = axErr sz p) := by show _ = _; unfold flE; rw [if_neg (by simpa using HF.out)]
      have HX : Hid (axErr sz p ≠ 0) := hx
      clear hx
      have r_0 := HR.out.c0
      have r_1 := HR.out.c1
      have r_2 := HR.out.c2
      have f_0 := HR.out.fr 0
      have f_1 := HR.out.fr 1
      have f_2 := HR.out.fr 2
      go_wp2_with fail
      have FF := HR.out.set3 (.bool false) (.slice none 0 0) (.slice none 0 0)
      have q0 := FF.c0
      have q1 := FF.c1
      have q2 := FF.c2
      exact bodyPost_ret (v := .tuple #[.agg #[.bool false, .slice none 0 0, .slice none 0 0], .int .i64 (axErr sz p)]) (by simp [results, Tryd.results9, go_sem, q0, q1, q2]) rfl (UR.no HE.out HX.out (bel_set3 hb1.out (by omega) _ _ _))
  · have t0 : (flawE c sz dz != 0) = true := by simpa using hf
    have HE : Hid (flE p c sz dz = flawE c sz dz) := by show _ = _; unfold flE; rw [if_pos hf]
    have HX : Hid (flawE c sz dz ≠ 0) := hf
    clear hf
    have r_0 := HR0.out.c0
    have r_1 := HR0.out.c1
    have r_2 := HR0.out.c2
    have f_0 := HR0.out.fr 0
    have f_1 := HR0.out.fr 1
    have f_2 := HR0.out.fr 2
    go_wp2_with fail
    have FF := HR0.out.set3 (.bool false) (.slice none 0 0) (.slice none 0 0)
    have q0 := FF.c0
    have q1 := FF.c1
    have q2 := FF.c2
    exact bodyPost_ret (v := .tuple #[.agg #[.bool false, .slice none 0 0, .slice none 0 0], .int .i64 (flawE c sz dz)]) (by simp [results, Tryd.results9, go_sem, q0, q1, q2]) rfl (UR.no HE.out HX.out (bel_set3 hb.out (by omega) _ _ _))
end Go.Proofs.YtkadepneehdffaaDoor
