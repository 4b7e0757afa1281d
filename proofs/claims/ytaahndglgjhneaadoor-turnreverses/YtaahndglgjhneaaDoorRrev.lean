/-
  What the reference tells of an array the other way round.
-/
import Derived.Test.YtaahndglgjhneaaDoorRmove
namespace Go.Proofs.YtaahndglgjhneaaDoor
open Go.RowKit
set_option linter.unusedVariables false

set_option maxRecDepth 100000 in
set_option maxHeartbeats 8000000 in
theorem reversed_any (x : Int) (c : Bool) (sa : Option Addr) (sc : Nat) (sz : List Int) (da : Option Addr) (dc : Nat) (dz : List Int) (h1 : sz.length ≤ 9223372036854775807) (h2 : dz.length ≤ 9223372036854775807) (w : World) (hs : IsInts w.heap.size w sa sz) (hd : IsInts w.heap.size w da dz) :
    Calls Tryd.prog 6 #[.int .i64 x, .agg #[.bool c, .slice sa sz.length sc, .slice da dz.length dc]] w (UR (axE x c sz dz) (onc (axE x c sz dz) c) (axS5 x c sz dz) (rvD5 x c sz dz) w) := by
  have HI : Hid (IsInts w.heap.size w sa sz ∧ IsInts w.heap.size w da dz) := ⟨hs, hd⟩
  clear hs hd
  have hb : Hid (Below w.heap.size w ((w.alloc (.cells #[.bool c, .slice sa sz.length sc, .slice da dz.length dc] 24)).alloc (.cells #[.bool false, .slice none 0 0, .slice none 0 0] 24))) := ((Below.refl _ w).alloc (Nat.le_refl _) _).alloc (by simp) _
  have pa := (Abx.new w (.bool c) (.slice sa sz.length sc) (.slice da dz.length dc)).al (.cells #[.bool false, .slice none 0 0, .slice none 0 0] 24)
  have pr := Abx.new1 w (.cells #[.bool c, .slice sa sz.length sc, .slice da dz.length dc] 24) (.bool false) (.slice none 0 0) (.slice none 0 0)
  go_enter Tryd.func6, Tryd.ntmps6
  go_wp2_with fail
  refine (axis_any x c sa sc sz da dc dz h1 h2 _ ((HI.out.1.below hb.out).mono hb.out.size) ((HI.out.2.below hb.out).mono hb.out.size)).mono ?_
  rintro e v1 ⟨rfl, hB⟩
  replace hb : Hid (Below w.heap.size w v1) := hb.out.trans (hB.mono hb.out.size)
  have HP : Hid (Abx v1 w.heap.size (.bool c) (.slice sa sz.length sc) (.slice da dz.length dc)) := pa.go hB
  have HR : Hid (Abx v1 (w.heap.size + 1) (.bool false) (.slice none 0 0) (.slice none 0 0)) := pr.go hB
  clear hB pa pr
  by_cases he : axE x c sz dz = 0
  · rw [he]
    have HE : Hid (axE x c sz dz = 0) := he
    have HF : Hid (flawE c sz dz = 0) := (axE_zero.1 he).1
    have HL : Hid (sz.length ≤ 6 ∧ dz.length ≤ 4096) := flawE_short HF.out
    obtain ⟨xn, hxn⟩ : ∃ xn : Nat, (xn : Int) = x := ⟨x.toNat, by have := (axE_zero.1 he).2.1; omega⟩
    have hxl : xn < sz.length := by have := (axE_zero.1 he).2.2; omega
    subst hxn
    clear he
    have p0 := HP.out.c0
    have p1 := HP.out.c1
    go_upto_region 4 with fail
    go_cut [7] (fun s7 wc => ∃ B g gc, s7 = .pointer (some ⟨B, 0, none⟩) ∧ Out5 v1 B c g gc sz wc)
    case first =>
      have hbW : Hid (Below v1.heap.size v1 v1.drew) := (Below.refl _ v1).drew
      refine anyT_begin 7 (fun w' => w'.cell? ⟨w.heap.size, 0, none⟩ = some (.bool c) ∧ w'.cell? ⟨w.heap.size, 1, none⟩ = some (.slice sa sz.length sc)) 8 #[false, false, false, false, false, false, false, false] (by kernel_rfl) rfl rfl ?_
      refine anyT_put 0 17 ?rv0 #[true, false, false, false, false, false, false, false] rfl rfl rfl (by kernel_rfl) (by kernel_rfl) (by kernel_rfl) (fun _ _ _ h => h) (by decide) ?ry0 (fun _ => ⟨p0, p1⟩) ?rm0
      case ry0 => first | exact Or.inl ⟨by rfl, by intro w'; go_simp; first | done | rfl⟩
      case rm0 =>
      simp only [Act.put, List.setIfInBounds_toArray, List.set_cons_zero, List.set_cons_succ]
      refine anyT_take 1 18 ?rv1 #[true, true, false, false, false, false, false, false] rfl rfl rfl (by kernel_rfl) (by kernel_rfl) (by kernel_rfl) (fun _ _ _ h => h) (by kernel_rfl) (by decide) (by kernel_rfl) ?ry1 (⟨p0, p1⟩) ?rm1
      case ry1 => first | exact Or.inl ⟨by rfl, by intro w' hw'; (try dsimp only at hw'); go_simp; first | done | rfl⟩
      case rm1 =>
      simp only [Act.put, List.setIfInBounds_toArray, List.set_cons_zero, List.set_cons_succ]
      refine anyT_put 2 19 ?rv2 #[true, true, true, false, false, false, false, false] rfl rfl rfl (by kernel_rfl) (by kernel_rfl) (by kernel_rfl) (fun _ _ _ h => h) (by decide) ?ry2 (fun _ => ⟨p0, p1⟩) ?rm2
      case ry2 => first | exact Or.inl ⟨by rfl, by intro w'; go_simp; first | done | rfl⟩
      case rm2 =>
      simp only [Act.put, List.setIfInBounds_toArray, List.set_cons_zero, List.set_cons_succ]
      refine anyT_take 3 20 ?rv3 #[true, true, true, true, false, false, false, false] rfl rfl rfl (by kernel_rfl) (by kernel_rfl) (by kernel_rfl) (fun _ _ _ h => h) (by kernel_rfl) (by decide) (by kernel_rfl) ?ry3 (⟨p0, p1⟩) ?rm3
      case ry3 => first | exact Or.inl ⟨by rfl, by intro w' hw'; (try dsimp only at hw'); go_simp; first | done | rfl⟩
      case rm3 =>
      simp only [Act.put, List.setIfInBounds_toArray, List.set_cons_zero, List.set_cons_succ]
      refine anyT_br2 4 6 #[true, true, true, true, true, false, false, false] #[true, true, true, true, false, false, true, false] (by kernel_rfl) rfl rfl rfl rfl (fun K hK => ?ba4) (fun K hK => ?bb4)
      case ba4 =>
        go_simp
        go_wp2_with (go_at_call 14; refine (copied_any sa sc sz (by have := HL.out.1; omega) (v1.drew) ((HI.out.1.below (hb.out.trans (hbW.out.mono hb.out.size))).mono (Nat.le_trans hb.out.size hbW.out.size))).mono ?_; rintro e w2 ⟨g, gc, rfl, hG, hBc⟩)
        have hbWa : Hid (Below v1.heap.size v1 w2) := hbW.out.trans (hBc.mono hbW.out.size)
        have pc := HP.out.go hbWa.out
        try (have rB : Abx w2 v1.heap.size (.bool false) (.slice none 0 0) (.slice none 0 0) := RB.out.go hBc)
        try (have r0 := rB.c0)
        try (have r1 := rB.c1)
        try (have r2 := rB.c2)
        try (have f0 := rB.fr 0)
        try (have f1 := rB.fr 1)
        try (have f2 := rB.fr 2)
        refine hK.out _ _ (fun _ => ⟨pc.c0, pc.c1⟩) ?_
        clear hK K
        refine anyT_put 5 22 ?rv5 #[true, true, true, true, true, true, false, false] rfl rfl rfl (by kernel_rfl) (by kernel_rfl) (by kernel_rfl) (fun _ _ _ h => h) (by decide) ?ry5 (fun _ => ⟨pc.c0, pc.c1⟩) ?rm5
        case ry5 => first | exact Or.inl ⟨by rfl, by intro w'; go_simp; first | done | rfl⟩
        case rm5 =>
        simp only [Act.put, List.setIfInBounds_toArray, List.set_cons_zero, List.set_cons_succ]
        refine anyT_one 6 #[true, true, true, true, true, true, true, false] (by kernel_rfl) rfl rfl (fun K hK => ?_)
        go_simp
        have hbWab : Hid (Below v1.heap.size v1 (w2.alloc (.cells #[.bool false, .slice none 0 0, .slice none 0 0] 24))) := hbWa.out.alloc hbWa.out.size _
        have pda := HP.out.go hbWab.out
        have RB : Hid (Abx (w2.alloc (.cells #[.bool false, .slice none 0 0, .slice none 0 0] 24)) w2.heap.size (.bool false) (.slice none 0 0) (.slice none 0 0)) := Abx.new _ _ _ _
        refine hK.out _ _ (fun _ => ⟨pda.c0, pda.c1⟩) ?_
        clear hK K
        refine anyT_one 7 #[true, true, true, true, true, true, true, true] (by kernel_rfl) rfl rfl (fun K hK => ?_)
        go_simp
        refine hK.out _ _ (fun h => absurd h (by decide)) ?_
        clear hK K
        refine anyT_done (by kernel_rfl) ?_
        go_wp2_with fail
        go_meet
        first | exact ⟨_, g, gc, rfl, out_a hG hbWa.out⟩ | exact ⟨_, g, gc, rfl, out_b (by have h := hG; rw [World.size_alloc] at h; exact h) rB hbWba.out⟩
      case bb4 =>
        go_simp
        have hbWb : Hid (Below v1.heap.size v1 ((v1.drew).alloc (.cells #[.bool false, .slice none 0 0, .slice none 0 0] 24))) := hbW.out.alloc hbW.out.size _
        have pd := HP.out.go hbWb.out
        have RB : Hid (Abx ((v1.drew).alloc (.cells #[.bool false, .slice none 0 0, .slice none 0 0] 24)) (v1.drew).heap.size (.bool false) (.slice none 0 0) (.slice none 0 0)) := Abx.new _ _ _ _
        refine hK.out _ _ (fun _ => ⟨pd.c0, pd.c1⟩) ?_
        clear hK K
        refine anyT_one 4 #[true, true, true, true, true, false, true, false] (by kernel_rfl) rfl rfl (fun K hK => ?_)
        go_simp
        go_wp2_with (go_at_call 14; refine (copied_any sa sc sz (by have := HL.out.1; omega) ((v1.drew).alloc (.cells #[.bool false, .slice none 0 0, .slice none 0 0] 24)) ((HI.out.1.below (hb.out.trans (hbWb.out.mono hb.out.size))).mono (Nat.le_trans hb.out.size hbWb.out.size))).mono ?_; rintro e w2 ⟨g, gc, rfl, hG, hBc⟩)
        have hbWba : Hid (Below v1.heap.size v1 w2) := hbWb.out.trans (hBc.mono hbWb.out.size)
        have pcb := HP.out.go hbWba.out
        try (have rB : Abx w2 v1.heap.size (.bool false) (.slice none 0 0) (.slice none 0 0) := RB.out.go hBc)
        try (have r0 := rB.c0)
        try (have r1 := rB.c1)
        try (have r2 := rB.c2)
        try (have f0 := rB.fr 0)
        try (have f1 := rB.fr 1)
        try (have f2 := rB.fr 2)
        refine hK.out _ _ (fun _ => ⟨pcb.c0, pcb.c1⟩) ?_
        clear hK K
        refine anyT_put 5 22 ?rv9 #[true, true, true, true, true, true, true, false] rfl rfl rfl (by kernel_rfl) (by kernel_rfl) (by kernel_rfl) (fun _ _ _ h => h) (by decide) ?ry9 (fun _ => ⟨pcb.c0, pcb.c1⟩) ?rm9
        case ry9 => first | exact Or.inl ⟨by rfl, by intro w'; go_simp; first | done | rfl⟩
        case rm9 =>
        simp only [Act.put, List.setIfInBounds_toArray, List.set_cons_zero, List.set_cons_succ]
        refine anyT_one 7 #[true, true, true, true, true, true, true, true] (by kernel_rfl) rfl rfl (fun K hK => ?_)
        go_simp
        refine hK.out _ _ (fun h => absurd h (by decide)) ?_
        clear hK K
        refine anyT_done (by kernel_rfl) ?_
        go_wp2_with fail
        go_meet
        first | exact ⟨_, g, gc, rfl, out_a hG hbWa.out⟩ | exact ⟨_, g, gc, rfl, out_b (by have h := hG; rw [World.size_alloc] at h; exact h) rB hbWba.out⟩
    case rest =>
      obtain ⟨B, g, gc, rfl, hO⟩ := hcut
      obtain ⟨v2, hv2⟩ : ∃ v2, v2 = wc := ⟨_, rfl⟩
      subst hv2
      have hb2 : Hid (Below w.heap.size w v2) := hb.out.trans (hO.2.2.2.mono hb.out.size)
      have HO : Hid (Abx v2 w.heap.size (.bool c) (.slice sa sz.length sc) (.slice da dz.length dc) ∧ Abx v2 (w.heap.size + 1) (.bool false) (.slice none 0 0) (.slice none 0 0) ∧ Abx v2 B (.bool c) (.slice g sz.length gc) (.slice none 0 0) ∧ SepInts v1.heap.size v2.heap.size B v2 g sz) := ⟨HP.out.go hO.2.2.2, HR.out.go hO.2.2.2, hO.2.1, hO.2.2.1⟩
      have hBl : w.heap.size + 1 < B := by have := hO.1; have := HR.out.lt; omega
      have hB2 : B < v2.heap.size := hO.2.1.lt
      have hv12 : v1.heap.size ≤ v2.heap.size := hO.2.2.2.size
      have hbv : w.heap.size ≤ v1.heap.size := hb.out.size
      obtain ⟨D, hD⟩ : ∃ D, D = GA sz dz sz (revT sz xn) := ⟨_, rfl⟩
      have HD : Hid (D = GA sz dz sz (revT sz xn)) := hD
      have hD1 : D.length ≤ dz.length := by have := (flawE_zero HF.out).2.1; rw [hD, GA_length]; omega
      have hD2 : dz.length ≤ D.length := by have := (flawE_zero HF.out).2.1; rw [hD, GA_length]; omega
      clear hO hD p0 p1
      go_wp2_with fail
      go_loopw [8] (fun i wx => ∃ (k : Nat) (v : Value), k ≤ dz.length ∧ i = .int .i64 k ∧ Abx wx w.heap.size (.bool c) (.slice sa sz.length sc) (.slice da dz.length dc) ∧ Abx wx (w.heap.size + 1) (.bool false) (.slice none 0 0) (.slice none 0 0) ∧ Abx wx B (.bool c) (.slice g sz.length gc) v
          ∧ wx.ownsRow v2.heap.size 3 1 v (D.take k).length ((D.take k).map (Value.int .i64)) ∧ SepInts v1.heap.size v2.heap.size B wx g sz ∧ v2.heap.size ≤ wx.heap.size ∧ Below w.heap.size w wx) (fun i _ => dz.length - (intOf i).toNat)
      case atStart => exact ⟨0, .slice none 0 0, Nat.zero_le _, rfl, HO.out.1, HO.out.2.1, HO.out.2.2.1, World.ownsRow_nil _ _ _ _, HO.out.2.2.2, Nat.le_refl _, hb2.out⟩
      case round =>
        obtain ⟨k, v, hk, rfl, hP, hR, hU, hown, hS, hsx, hBx⟩ := hrel
        have b1 := hP.c1
        have b2 := hP.c2
        have o2 := hU.c2
        have of2 := hU.fr 2
        by_cases hlt : k < dz.length
        · have HF0 := flawE_zero HF.out
          have HK : Hid (errOf sz = 0 ∧ (k : Int) < prod sz) := ⟨HF0.1, by have := HF0.2.1; omega⟩
          clear HF0
          have HQ : Hid (Abx wr w.heap.size (.bool c) (.slice sa sz.length sc) (.slice da dz.length dc) ∧ Abx wr (w.heap.size + 1) (.bool false) (.slice none 0 0) (.slice none 0 0) ∧ Abx wr B (.bool c) (.slice g sz.length gc) v ∧ SepInts v1.heap.size v2.heap.size B wr g sz ∧ Below w.heap.size w wr) := ⟨hP, hR, hU, hS, hBx⟩
          clear hP hR hU hS
          go_wp2_with fail
          refine (coords_new sa sc sz k HK.out.1 HK.out.2 wr ((HI.out.1.below HQ.out.2.2.2.2).mono HQ.out.2.2.2.2.size)).mono ?_
          rintro e w2 ⟨ta, tc, rfl, hA, hB3⟩
          rw [cr_length]
          have hcin := cr_fact HK.out.1 HK.out.2
          rcases hA with hA | ⟨bt, ot, rfl, l0, hbt, hcT, hfT⟩
          · have := cr_length sz k; rw [hA] at this; simp at this; omega
          have ct := hcT xn (by rw [cr_length]; exact hxl)
          have fT := hfT xn
          have HA : Hid (NewInts wr.heap.size w2 (some ⟨bt, ot, none⟩) (cr sz k)) := .inr ⟨bt, ot, rfl, l0, hbt, hcT, hfT⟩
          have HB3 : Hid (Below wr.heap.size wr w2) := hB3
          have HBw : Hid (Below w.heap.size w w2) := HQ.out.2.2.2.2.trans (hB3.mono HQ.out.2.2.2.2.size)
          obtain ⟨bs, os, rfl, hbs, hcS⟩ := (HI.out.1.below HBw.out).at hxl
          have cs := hcS xn hxl
          have hxi := ins_at hcin.1 hxl
          have hx4 := ((errOf_zero.1 HK.out.1).2.1.nth xn).2
          obtain ⟨hx0, hx1⟩ := hxi
          have HC : Hid (insB sz (cr sz k) = true ∧ place sz (cr sz k) = k) := hcin
          have P2 := HQ.out.1.go hB3
          have q1 := P2.c1
          clear hcT hfT hB3 hcS hcin b1 b2 o2 of2
          go_wp2_with fail
          refine anyT_begin 13 (fun w' => w'.cell? ⟨w.heap.size, 1, none⟩ = some (.slice (some ⟨bs, os, none⟩) sz.length sc) ∧ w'.cell? ⟨bs, os + xn, none⟩ = some (.int .i64 (nth sz xn)) ∧ w'.cell? ⟨bt, ot + xn, none⟩ = some (.int .i64 (nth (cr sz k) xn))) 15 #[false, false, false, false, false, false, false, false, false, false, false, false, false, false, false] (by kernel_rfl) rfl rfl ?_
          refine anyT_put 0 34 ?rv11 #[true, false, false, false, false, false, false, false, false, false, false, false, false, false, false] rfl rfl rfl (by kernel_rfl) (by kernel_rfl) (by kernel_rfl) (fun _ _ _ h => h) (by decide) ?ry11 (fun _ => ⟨q1, cs, ct⟩) ?rm11
          case ry11 => first | exact Or.inl ⟨by rfl, by intro w'; go_simp; first | done | rfl⟩
          case rm11 =>
          simp only [Act.put, List.setIfInBounds_toArray, List.set_cons_zero, List.set_cons_succ]
          refine anyT_put 1 35 ?rv12 #[true, true, false, false, false, false, false, false, false, false, false, false, false, false, false] rfl rfl rfl (by kernel_rfl) (by kernel_rfl) (by kernel_rfl) (fun _ _ _ h => h) (by decide) ?ry12 (fun _ => ⟨q1, cs, ct⟩) ?rm12
          case ry12 => first | exact Or.inl ⟨by rfl, by intro w'; go_simp; first | done | rfl⟩
          case rm12 =>
          simp only [Act.put, List.setIfInBounds_toArray, List.set_cons_zero, List.set_cons_succ]
          refine anyT_put 2 36 ?rv13 #[true, true, true, false, false, false, false, false, false, false, false, false, false, false, false] rfl rfl rfl (by kernel_rfl) (by kernel_rfl) (by kernel_rfl) (fun _ _ _ h => h) (by decide) ?ry13 (fun _ => ⟨q1, cs, ct⟩) ?rm13
          case ry13 => first | exact Or.inl ⟨by rfl, by intro w'; go_simp; first | done | rfl⟩
          case rm13 =>
          simp only [Act.put, List.setIfInBounds_toArray, List.set_cons_zero, List.set_cons_succ]
          refine anyT_take 3 37 ?rv14 #[true, true, true, true, false, false, false, false, false, false, false, false, false, false, false] rfl rfl rfl (by kernel_rfl) (by kernel_rfl) (by kernel_rfl) (fun _ _ _ h => h) (by kernel_rfl) (by decide) (by kernel_rfl) ?ry14 (⟨q1, cs, ct⟩) ?rm14
          case ry14 => first | exact Or.inl ⟨by rfl, by intro w' hw'; (try dsimp only at hw'); go_simp; first | done | rfl⟩
          case rm14 =>
          simp only [Act.put, List.setIfInBounds_toArray, List.set_cons_zero, List.set_cons_succ]
          refine anyT_put 4 38 ?rv15 #[true, true, true, true, true, false, false, false, false, false, false, false, false, false, false] rfl rfl rfl (by kernel_rfl) (by kernel_rfl) (by kernel_rfl) (fun _ _ _ h => h) (by decide) ?ry15 (fun _ => ⟨q1, cs, ct⟩) ?rm15
          case ry15 => first | exact Or.inl ⟨by rfl, by intro w'; go_simp; first | done | rfl⟩
          case rm15 =>
          simp only [Act.put, List.setIfInBounds_toArray, List.set_cons_zero, List.set_cons_succ]
          refine anyT_put 5 39 ?rv16 #[true, true, true, true, true, true, false, false, false, false, false, false, false, false, false] rfl rfl rfl (by kernel_rfl) (by kernel_rfl) (by kernel_rfl) (fun _ _ _ h => h) (by decide) ?ry16 (fun _ => ⟨q1, cs, ct⟩) ?rm16
          case ry16 => first | exact Or.inl ⟨by rfl, by intro w'; go_simp; first | done | rfl⟩
          case rm16 =>
          simp only [Act.put, List.setIfInBounds_toArray, List.set_cons_zero, List.set_cons_succ]
          refine anyT_take 6 40 ?rv17 #[true, true, true, true, true, true, true, false, false, false, false, false, false, false, false] rfl rfl rfl (by kernel_rfl) (by kernel_rfl) (by kernel_rfl) (fun _ _ _ h => h) (by kernel_rfl) (by decide) (by kernel_rfl) ?ry17 (⟨q1, cs, ct⟩) ?rm17
          case ry17 => first | exact Or.inl ⟨by rfl, by intro w' hw'; (try dsimp only at hw'); go_simp; first | done | rfl⟩
          case rm17 =>
          simp only [Act.put, List.setIfInBounds_toArray, List.set_cons_zero, List.set_cons_succ]
          refine anyT_put 7 41 ?rv18 #[true, true, true, true, true, true, true, true, false, false, false, false, false, false, false] rfl rfl rfl (by kernel_rfl) (by kernel_rfl) (by kernel_rfl) (fun _ _ _ h => h) (by decide) ?ry18 (fun _ => ⟨q1, cs, ct⟩) ?rm18
          case ry18 => first | exact Or.inl ⟨by rfl, by intro w'; go_simp; first | done | rfl⟩
          case rm18 =>
          simp only [Act.put, List.setIfInBounds_toArray, List.set_cons_zero, List.set_cons_succ]
          refine anyT_put 8 42 ?rv19 #[true, true, true, true, true, true, true, true, true, false, false, false, false, false, false] rfl rfl rfl (by kernel_rfl) (by kernel_rfl) (by kernel_rfl) (fun _ _ _ h => h) (by decide) ?ry19 (fun _ => ⟨q1, cs, ct⟩) ?rm19
          case ry19 => first | exact Or.inl ⟨by rfl, by intro w'; go_simp; first | done | rfl⟩
          case rm19 =>
          simp only [Act.put, List.setIfInBounds_toArray, List.set_cons_zero, List.set_cons_succ]
          refine anyT_put 9 43 ?rv20 #[true, true, true, true, true, true, true, true, true, true, false, false, false, false, false] rfl rfl rfl (by kernel_rfl) (by kernel_rfl) (by kernel_rfl) (fun _ _ _ h => h) (by decide) ?ry20 (fun _ => ⟨q1, cs, ct⟩) ?rm20
          case ry20 => first | exact Or.inl ⟨by rfl, by intro w'; go_simp; first | done | rfl⟩
          case rm20 =>
          simp only [Act.put, List.setIfInBounds_toArray, List.set_cons_zero, List.set_cons_succ]
          refine anyT_put 10 44 ?rv21 #[true, true, true, true, true, true, true, true, true, true, true, false, false, false, false] rfl rfl rfl (by kernel_rfl) (by kernel_rfl) (by kernel_rfl) (fun _ _ _ h => h) (by decide) ?ry21 (fun _ => ⟨q1, cs, ct⟩) ?rm21
          case ry21 => first | exact Or.inl ⟨by rfl, by intro w'; go_simp; first | done | rfl⟩
          case rm21 =>
          simp only [Act.put, List.setIfInBounds_toArray, List.set_cons_zero, List.set_cons_succ]
          refine anyT_take 11 45 ?rv22 #[true, true, true, true, true, true, true, true, true, true, true, true, false, false, false] rfl rfl rfl (by kernel_rfl) (by kernel_rfl) (by kernel_rfl) (fun _ _ _ h => h) (by kernel_rfl) (by decide) (by kernel_rfl) ?ry22 (⟨q1, cs, ct⟩) ?rm22
          case ry22 => first | exact Or.inl ⟨by rfl, by intro w' hw'; (try dsimp only at hw'); go_simp; first | done | rfl⟩
          case rm22 =>
          simp only [Act.put, List.setIfInBounds_toArray, List.set_cons_zero, List.set_cons_succ]
          refine anyT_put 12 46 ?rv23 #[true, true, true, true, true, true, true, true, true, true, true, true, true, false, false] rfl rfl rfl (by kernel_rfl) (by kernel_rfl) (by kernel_rfl) (fun _ _ _ h => h) (by decide) ?ry23 (fun _ => ⟨q1, cs, ct⟩) ?rm23
          case ry23 => first | exact Or.inl ⟨by rfl, by intro w'; go_simp; first | done | rfl⟩
          case rm23 =>
          simp only [Act.put, List.setIfInBounds_toArray, List.set_cons_zero, List.set_cons_succ]
          refine anyT_one 13 #[true, true, true, true, true, true, true, true, true, true, true, true, true, true, false] (by kernel_rfl) rfl rfl (fun K hK => ?_)
          go_simp
          refine hK.out _ _ (fun h => absurd h (by decide)) ?_
          clear hK K
          refine anyT_one 14 #[true, true, true, true, true, true, true, true, true, true, true, true, true, true, true] (by kernel_rfl) rfl rfl (fun K hK => ?_)
          go_simp
          refine hK.out _ _ (fun h => absurd h (by decide)) ?_
          clear hK K
          refine anyT_done (by kernel_rfl) ?_
          have hw : IntKind.i64.wrap (IntKind.i64.wrap (nth sz xn - 1) - nth (cr sz k) xn) = nth sz xn - 1 - nth (cr sz k) xn := by
            rw [IntWalk.i64_in (nth sz xn - 1) (by omega), IntWalk.i64_in _ (by omega)]
          rw [hw]
          obtain ⟨ts, hts⟩ : ∃ ts, ts = revT sz xn (cr sz k) := ⟨_, rfl⟩
          have HTi : Hid (insB sz ts = true) := by rw [hts]; exact revT_in HC.out.1 hxl
          have HTs : Hid (ts = revT sz xn (cr sz k)) := hts
          have hU : IsInts w2.heap.size (w2.setCell ⟨bt, ot + xn, none⟩ (.int .i64 (nth sz xn - 1 - nth (cr sz k) xn))).drew (some ⟨bt, ot, none⟩) ts := by rw [hts]; exact put_at HA.out (by rw [cr_length]; exact hxl) _
          have hBu : Below wr.heap.size wr (w2.setCell ⟨bt, ot + xn, none⟩ (.int .i64 (nth sz xn - 1 - nth (cr sz k) xn))).drew := (HB3.out.setCell (p := ⟨bt, ot + xn, none⟩) l0 _).drew
          have hzu : (w2.setCell ⟨bt, ot + xn, none⟩ (.int .i64 (nth sz xn - 1 - nth (cr sz k) xn))).drew.heap.size = w2.heap.size := by simp [World.setCell]
          obtain ⟨u, hu⟩ : ∃ u, u = (w2.setCell ⟨bt, ot + xn, none⟩ (.int .i64 (nth sz xn - 1 - nth (cr sz k) xn))).drew := ⟨_, rfl⟩
          rw [← hu] at hU hBu hzu ⊢
          have HUz : Hid (IsInts u.heap.size u (some ⟨bt, ot, none⟩) ts ∧ Below wr.heap.size wr u) := ⟨by rw [hzu]; exact hU, hBu⟩
          clear hw hts hu hU hzu q1 cs ct fT P2
          have hl4 := HL.out.2
          have HPl : Hid (0 ≤ place sz ts ∧ place sz ts < dz.length) := by have := place_bd HTi.out; have h := (flawE_zero HF.out).2.1; exact ⟨this.1, by rw [h]; exact this.2⟩
          obtain ⟨P, hP⟩ : ∃ P : Nat, place sz ts = P := ⟨(place sz ts).toNat, by have := HPl.out.1; omega⟩
          have hPl : P < dz.length := by have := HPl.out.2; omega
          have HPP : Hid (place sz ts = P) := hP
          clear hP
          obtain ⟨bd, od, rfl, hbd, hcD⟩ := (HI.out.2.below (HQ.out.2.2.2.2.trans (HUz.out.2.mono HQ.out.2.2.2.2.size))).at hPl
          have cd := hcD P hPl
          clear hcD
          have HV : Hid (nth dz P = nth D k) := by show _ = _; rw [HD.out, GA_nth (by have h := (flawE_zero HF.out).2.1; omega), ← HTs.out, HPP.out, Int.toNat_natCast]
          have P6 := HQ.out.1.go HUz.out.2
          have U6 := HQ.out.2.2.1.go HUz.out.2
          have o6 := U6.c2
          have d6 := P6.c2
          have s6 := P6.c1
          have hown6 := own_go hown HUz.out.2
          have hsu : wr.heap.size ≤ u.heap.size := HUz.out.2.size
          have hkD : k ≤ D.length := by omega
          have hBu2 : Hid (Below w.heap.size w u) := HQ.out.2.2.2.2.trans (HUz.out.2.mono HQ.out.2.2.2.2.size)
          go_wp2_with fail
          refine anyT_begin 12 (fun w' => w'.cell? ⟨B, 2, none⟩ = some v ∧ w'.cell? ⟨w.heap.size, 2, none⟩ = some (.slice (some ⟨bd, od, none⟩) dz.length dc) ∧ w'.cell? ⟨w.heap.size, 1, none⟩ = some (.slice (some ⟨bs, os, none⟩) sz.length sc) ∧ w'.cell? ⟨bd, od + P, none⟩ = some (.int .i64 (nth dz P))) 14 #[false, false, false, false, false, false, false, false, false, false, false, false, false, false] (by kernel_rfl) rfl rfl ?_
          refine anyT_put 0 48 ?rv26 #[true, false, false, false, false, false, false, false, false, false, false, false, false, false] rfl rfl rfl (by kernel_rfl) (by kernel_rfl) (by kernel_rfl) (fun _ _ _ h => h) (by decide) ?ry26 (fun _ => ⟨o6, d6, s6, cd⟩) ?rm26
          case ry26 => first | exact Or.inl ⟨by rfl, by intro w'; go_simp; first | done | rfl⟩
          case rm26 =>
          simp only [Act.put, List.setIfInBounds_toArray, List.set_cons_zero, List.set_cons_succ]
          refine anyT_take 1 49 ?rv27 #[true, true, false, false, false, false, false, false, false, false, false, false, false, false] rfl rfl rfl (by kernel_rfl) (by kernel_rfl) (by kernel_rfl) (fun _ _ _ h => h) (by kernel_rfl) (by decide) (by kernel_rfl) ?ry27 (⟨o6, d6, s6, cd⟩) ?rm27
          case ry27 => first | exact Or.inl ⟨by rfl, by intro w' hw'; (try dsimp only at hw'); go_simp; first | done | rfl⟩
          case rm27 =>
          simp only [Act.put, List.setIfInBounds_toArray, List.set_cons_zero, List.set_cons_succ]
          refine anyT_put 2 50 ?rv28 #[true, true, true, false, false, false, false, false, false, false, false, false, false, false] rfl rfl rfl (by kernel_rfl) (by kernel_rfl) (by kernel_rfl) (fun _ _ _ h => h) (by decide) ?ry28 (fun _ => ⟨o6, d6, s6, cd⟩) ?rm28
          case ry28 => first | exact Or.inl ⟨by rfl, by intro w'; go_simp; first | done | rfl⟩
          case rm28 =>
          simp only [Act.put, List.setIfInBounds_toArray, List.set_cons_zero, List.set_cons_succ]
          refine anyT_take 3 51 ?rv29 #[true, true, true, true, false, false, false, false, false, false, false, false, false, false] rfl rfl rfl (by kernel_rfl) (by kernel_rfl) (by kernel_rfl) (fun _ _ _ h => h) (by kernel_rfl) (by decide) (by kernel_rfl) ?ry29 (⟨o6, d6, s6, cd⟩) ?rm29
          case ry29 => first | exact Or.inl ⟨by rfl, by intro w' hw'; (try dsimp only at hw'); go_simp; first | done | rfl⟩
          case rm29 =>
          simp only [Act.put, List.setIfInBounds_toArray, List.set_cons_zero, List.set_cons_succ]
          refine anyT_put 4 52 ?rv30 #[true, true, true, true, true, false, false, false, false, false, false, false, false, false] rfl rfl rfl (by kernel_rfl) (by kernel_rfl) (by kernel_rfl) (fun _ _ _ h => h) (by decide) ?ry30 (fun _ => ⟨o6, d6, s6, cd⟩) ?rm30
          case ry30 => first | exact Or.inl ⟨by rfl, by intro w'; go_simp; first | done | rfl⟩
          case rm30 =>
          simp only [Act.put, List.setIfInBounds_toArray, List.set_cons_zero, List.set_cons_succ]
          refine anyT_take 5 53 ?rv31 #[true, true, true, true, true, true, false, false, false, false, false, false, false, false] rfl rfl rfl (by kernel_rfl) (by kernel_rfl) (by kernel_rfl) (fun _ _ _ h => h) (by kernel_rfl) (by decide) (by kernel_rfl) ?ry31 (⟨o6, d6, s6, cd⟩) ?rm31
          case ry31 => first | exact Or.inl ⟨by rfl, by intro w' hw'; (try dsimp only at hw'); go_simp; first | done | rfl⟩
          case rm31 =>
          simp only [Act.put, List.setIfInBounds_toArray, List.set_cons_zero, List.set_cons_succ]
          refine anyT_put 6 54 ?rv32 #[true, true, true, true, true, true, true, false, false, false, false, false, false, false] rfl rfl rfl (by kernel_rfl) (by kernel_rfl) (by kernel_rfl) (fun _ _ _ h => h) (by decide) ?ry32 (fun _ => ⟨o6, d6, s6, cd⟩) ?rm32
          case ry32 => first | exact Or.inl ⟨by rfl, by intro w'; go_simp; first | done | rfl⟩
          case rm32 =>
          simp only [Act.put, List.setIfInBounds_toArray, List.set_cons_zero, List.set_cons_succ]
          refine anyT_one 7 #[true, true, true, true, true, true, true, true, false, false, false, false, false, false] (by kernel_rfl) rfl rfl (fun K hK => ?_)
          go_simp
          go_wp2_with (go_at_call 16; refine (where_n (some ⟨bs, os, none⟩) sc sz (some ⟨bt, ot, none⟩) tc sz.length ts (insB_len HTi.out) P HPP.out h1 HK.out.1 HTi.out u.heap.size u.drew ((HI.out.1.below hBu2.out).mono hBu2.out.size) HUz.out.1).mono ?_; rintro e w3 ⟨rfl, rfl⟩)
          refine hK.out _ _ (fun _ => ⟨o6, d6, s6, cd⟩) ?_
          clear hK K
          refine anyT_put 8 56 ?rv34 #[true, true, true, true, true, true, true, true, true, false, false, false, false, false] rfl rfl rfl (by kernel_rfl) (by kernel_rfl) (by kernel_rfl) (fun _ _ _ h => h) (by decide) ?ry34 (fun _ => ⟨o6, d6, s6, cd⟩) ?rm34
          case ry34 => first | exact Or.inl ⟨by rfl, by intro w'; go_simp; first | done | rfl⟩
          case rm34 =>
          simp only [Act.put, List.setIfInBounds_toArray, List.set_cons_zero, List.set_cons_succ]
          refine anyT_take 9 57 ?rv35 #[true, true, true, true, true, true, true, true, true, true, false, false, false, false] rfl rfl rfl (by kernel_rfl) (by kernel_rfl) (by kernel_rfl) (fun _ _ _ h => h) (by kernel_rfl) (by decide) (by kernel_rfl) ?ry35 (⟨o6, d6, s6, cd⟩) ?rm35
          case ry35 => first | exact Or.inl ⟨by rfl, by intro w' hw'; (try dsimp only at hw'); go_simp; first | done | rfl⟩
          case rm35 =>
          simp only [Act.put, List.setIfInBounds_toArray, List.set_cons_zero, List.set_cons_succ]
          refine anyT_one 10 #[true, true, true, true, true, true, true, true, true, true, true, false, false, false] (by kernel_rfl) rfl rfl (fun K hK => ?_)
          go_simp
          have k0 := P6.al (.cells #[.int .i64 (nth dz P)] 3)
          have k1 := U6.al (.cells #[.int .i64 (nth dz P)] 3)
          have k2 : (u.alloc (.cells #[.int .i64 (nth dz P)] 3)).cell? ⟨bd, od + P, none⟩ = some (.int .i64 (nth dz P)) := (World.cell?_alloc_lt u _ ⟨bd, od + P, none⟩ (by have := hBu2.out.size; show bd < u.heap.size; omega)).trans cd
          refine hK.out _ _ (fun _ => ⟨k1.c2, k0.c2, k0.c1, k2⟩) ?_
          clear hK K
          refine anyT_one 11 #[true, true, true, true, true, true, true, true, true, true, true, true, false, false] (by kernel_rfl) rfl rfl (fun K hK => ?_)
          refine app_step 59 rfl rfl _ _ rfl _ v2.heap.size u.heap.size v (D.take k) (nth dz P) rfl rfl ((hown6.alloc _).drew) (heap_alloc_new u _) (by rw [take_lenR _ (by omega)]; omega) (by simp; omega) ?_
          intro g1 gc1 w4 hown1 hB4
          have P7 := k0.dr.bel hB4 (by omega)
          have HO1 : Hid (Abx w4 B (.bool c) (.slice g sz.length gc) v) := k1.dr.bel hB4 (by omega)
          have x2 := HO1.out.c2
          have xf := HO1.out.fr 2
          have xd : w4.cell? ⟨bd, od + P, none⟩ = some (.int .i64 (nth dz P)) := (hB4.cell (p := ⟨bd, od + P, none⟩) (by show bd < _; omega)).trans k2
          refine hK.out _ _ (fun _ => ⟨x2, P7.c2, P7.c1, xd⟩) ?_
          clear hK K
          simp only [Act.put, List.setIfInBounds_toArray, List.set_cons_zero, List.set_cons_succ]
          refine anyT_one 12 #[true, true, true, true, true, true, true, true, true, true, true, true, true, false] (by kernel_rfl) rfl rfl (fun K hK => ?_)
          go_simp
          refine hK.out _ _ (fun h => absurd h (by decide)) ?_
          clear hK K
          refine anyT_one 13 #[true, true, true, true, true, true, true, true, true, true, true, true, true, true] (by kernel_rfl) rfl rfl (fun K hK => ?_)
          go_simp
          refine hK.out _ _ (fun h => absurd h (by decide)) ?_
          clear hK K
          refine anyT_done (by kernel_rfl) ?_
          go_wp2_with fail
          rw [HV.out, ← take_snoc D k (by omega), take_lenR D (show k ≤ D.length by omega)] at hown1
          have hz4 := hB4.size
          simp at hz4
          refine ⟨⟨k + 1, .slice (some ⟨g1, 0, none⟩) (k + 1) gc1, by omega, by go_num, P7.ot (by show w.heap.size ≠ B; omega) _, ?_, HO1.out.s2 _, ?_, ?_, by simp [World.setCell]; omega, ?_⟩, by simp [intOf]; omega⟩
          · exact (((HQ.out.2.1.go HUz.out.2).al _).dr.bel hB4 (by omega)).ot (by show w.heap.size + 1 ≠ B; omega) _
          · rw [take_lenR D (show k + 1 ≤ D.length by omega)]
            exact ownsRow_setCell_below hown1 (by show B < v2.heap.size; omega) _
          · exact (((((HQ.out.2.2.2.1.bel (HUz.out.2.mono hsx)).al (by omega) _).dr).bel hB4)).set 2 _
          · exact (((hBu2.out.alloc hBu2.out.size _).drew.trans (hB4.mono (by omega)))).setCell (p := ⟨B, 2, none⟩) (by show w.heap.size ≤ B; omega) _
        · obtain rfl : k = dz.length := by omega
          rw [List.take_of_length_le (by omega)] at hown
          obtain ⟨g1, gc1, rfl, hN1⟩ := owns_new hown
          have o0 := hU.c0
          have o1 := hU.c1
          have r_0 := hR.c0
          have r_1 := hR.c1
          have r_2 := hR.c2
          have f_0 := hR.fr 0
          have f_1 := hR.fr 1
          have f_2 := hR.fr 2
          clear hown hlt
          go_wp2_with fail
          have FF := hR.set3 (.bool c) (.slice g sz.length gc) (.slice g1 D.length gc1)
          have q0 := FF.c0
          have q1 := FF.c1
          have q2 := FF.c2
          refine bodyPost_ret (v := .tuple #[.agg #[.bool c, .slice g sz.length gc, .slice g1 D.length gc1], .int .i64 0]) (by simp [results, Tryd.results6, go_sem, q0, q1, q2]) rfl ?_
          have hX := ((hS.new hsx).set3 (b := w.heap.size + 1) (by have := HR.out.lt; omega) (.bool c) (.slice g sz.length gc) (.slice g1 D.length gc1)).low (lo' := w.heap.size) (by omega)
          have hY := (hN1.set3 (b := w.heap.size + 1) (by omega) (.bool c) (.slice g sz.length gc) (.slice g1 D.length gc1)).low (lo' := w.heap.size) (by omega)
          have hZ := bel_set3 hBx (b := w.heap.size + 1) (by omega) (.bool c) (.slice g sz.length gc) (.slice g1 D.length gc1)
          obtain rfl := HD.out; exact UR.ok HE.out hX hY hZ
  · have t0 : (axE x c sz dz != 0) = true := by simpa using he
    have HE : Hid (axE x c sz dz ≠ 0) := he
    clear he
    have r_0 := HR.out.c0
    have r_1 := HR.out.c1
    have r_2 := HR.out.c2
    have f_0 := HR.out.fr 0
    have f_1 := HR.out.fr 1
    have f_2 := HR.out.fr 2
    go_wp2_with fail
    have FF := HR.out.set3 (.bool false) (.slice none 0 0) (.slice none 0 0)
    have q0 := FF.c0
    have q1 := FF.c1
    have q2 := FF.c2
    exact bodyPost_ret (v := .tuple #[.agg #[.bool false, .slice none 0 0, .slice none 0 0], .int .i64 (axE x c sz dz)]) (by simp [results, Tryd.results6, go_sem, q0, q1, q2]) rfl (UR.no rfl HE.out (bel_set3 hb.out (by omega) _ _ _))
end Go.Proofs.YtaahndglgjhneaaDoor
