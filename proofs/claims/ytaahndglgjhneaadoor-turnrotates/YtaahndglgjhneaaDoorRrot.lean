/-
  What the reference tells of an array moved round.
-/
import Derived.Test.YtaahndglgjhneaaDoorRmove
namespace Go.Proofs.YtaahndglgjhneaaDoor
open Go.RowKit
set_option linter.unusedVariables false

theorem rotV {y n L : Int} (h0 : 0 ≤ y) (h1 : y < L) : (-L < n.tmod L ∧ n.tmod L < L) ∧ (y + n.tmod L < 0 → (y + n) % L = y + n.tmod L + L) ∧ (0 ≤ y + n.tmod L → y + n.tmod L < L → (y + n) % L = y + n.tmod L) ∧ (L ≤ y + n.tmod L → (y + n) % L = y + n.tmod L - L) := by
  have b1 : -L < n.tmod L := Int.lt_tmod_of_pos n (by omega)
  have b2 : n.tmod L < L := Int.tmod_lt_of_pos n (by omega)
  have e := Int.mul_tdiv_add_tmod n L
  generalize n.tdiv L = q at e
  generalize n.tmod L = r at e b1 b2 ⊢
  refine ⟨⟨b1, b2⟩, fun h => ?_, fun h h' => ?_, fun h => ?_⟩
  · exact emod_is (by omega) (by omega) (q - 1) (by rw [Int.mul_sub, Int.mul_one]; omega)
  · exact emod_is (by omega) (by omega) q (by omega)
  · exact emod_is (by omega) (by omega) (q + 1) (by rw [Int.mul_add, Int.mul_one]; omega)
theorem put2_at {lo : Nat} {W : World} {b off : Nat} {zs : List Int} (h : NewInts lo W (some ⟨b, off, none⟩) zs) {i : Nat} (hi : i < zs.length) (x y : Int) : IsInts W.heap.size ((W.setCell ⟨b, off + i, none⟩ (.int .i64 x)).setCell ⟨b, off + i, none⟩ (.int .i64 y)) (some ⟨b, off, none⟩) (zs.set i y) := by
  have := ((h.mid.put hi x).put (i := i) (by rw [List.length_set]; exact hi) y).ints
  rwa [List.set_set] at this
set_option maxRecDepth 100000 in
set_option maxHeartbeats 20000000 in
theorem rotated_any (n x : Int) (c : Bool) (sa : Option Addr) (sc : Nat) (sz : List Int) (da : Option Addr) (dc : Nat) (dz : List Int) (h1 : sz.length ≤ 9223372036854775807) (h2 : dz.length ≤ 9223372036854775807) (w : World) (hs : IsInts w.heap.size w sa sz) (hd : IsInts w.heap.size w da dz) :
    Calls Tryd.prog 9 #[.int .i64 n, .int .i64 x, .agg #[.bool c, .slice sa sz.length sc, .slice da dz.length dc]] w (UR (axE x c sz dz) (onc (axE x c sz dz) c) (axS5 x c sz dz) (rtD5 x n c sz dz) w) := by
  have HI : Hid (IsInts w.heap.size w sa sz ∧ IsInts w.heap.size w da dz) := ⟨hs, hd⟩
  clear hs hd
  have hb : Hid (Below w.heap.size w ((w.alloc (.cells #[.bool c, .slice sa sz.length sc, .slice da dz.length dc] 24)).alloc (.cells #[.bool false, .slice none 0 0, .slice none 0 0] 24))) := ((Below.refl _ w).alloc (Nat.le_refl _) _).alloc (by simp) _
  have pa := (Abx.new w (.bool c) (.slice sa sz.length sc) (.slice da dz.length dc)).al (.cells #[.bool false, .slice none 0 0, .slice none 0 0] 24)
  have pr := Abx.new1 w (.cells #[.bool c, .slice sa sz.length sc, .slice da dz.length dc] 24) (.bool false) (.slice none 0 0) (.slice none 0 0)
  go_enter Tryd.func9, Tryd.ntmps9
  go_wp2_with fail
  refine (axis_any x c sa sc sz da dc dz h1 h2 _ ((HI.out.1.below hb.out).mono hb.out.size) ((HI.out.2.below hb.out).mono hb.out.size)).mono ?_
  rintro e v1 ⟨rfl, hB⟩
  replace hb : Hid (Below w.heap.size w v1) := hb.out.trans (hB.mono hb.out.size)
  have HP : Hid (Abx v1 w.heap.size (.bool c) (.slice sa sz.length sc) (.slice da dz.length dc)) := pa.go hB
  have HR : Hid (Abx v1 (w.heap.size + 1) (.bool false) (.slice none 0 0) (.slice none 0 0)) := pr.go hB
  clear hB pa pr
  by_cases he : axE x c sz dz = 0
  · rw [he]
    have HE : Hid (axE x c sz dz = 0) := he
    have HF : Hid (flawE c sz dz = 0) := (axE_zero.1 he).1
    have HL : Hid (sz.length ≤ 6 ∧ dz.length ≤ 4096) := flawE_short HF.out
    obtain ⟨xn, hxn⟩ : ∃ xn : Nat, (xn : Int) = x := ⟨x.toNat, by have := (axE_zero.1 he).2.1; omega⟩
    have hxl : xn < sz.length := by have := (axE_zero.1 he).2.2; omega
    subst hxn
    clear he
    have p0 := HP.out.c0
    have p1 := HP.out.c1
    go_upto_region 4 with fail
    go_cut [9] (fun s7 wc => ∃ B g gc, s7 = .pointer (some ⟨B, 0, none⟩) ∧ Out5 v1 B c g gc sz wc)
    case first =>
      have hbW : Hid (Below v1.heap.size v1 v1.drew) := (Below.refl _ v1).drew
      refine anyT_begin 7 (fun w' => w'.cell? ⟨w.heap.size, 0, none⟩ = some (.bool c) ∧ w'.cell? ⟨w.heap.size, 1, none⟩ = some (.slice sa sz.length sc)) 8 #[false, false, false, false, false, false, false, false] (by kernel_rfl) rfl rfl ?_
      refine anyT_put 0 20 ?rv78 #[true, false, false, false, false, false, false, false] rfl rfl rfl (by kernel_rfl) (by kernel_rfl) (by kernel_rfl) (fun _ _ _ h => h) (by decide) ?ry78 (fun _ => ⟨p0, p1⟩) ?rm78
      case ry78 => first | exact Or.inl ⟨by rfl, by intro w'; go_simp; first | done | rfl⟩
      case rm78 =>
      simp only [Act.put, List.setIfInBounds_toArray, List.set_cons_zero, List.set_cons_succ]
      refine anyT_take 1 21 ?rv79 #[true, true, false, false, false, false, false, false] rfl rfl rfl (by kernel_rfl) (by kernel_rfl) (by kernel_rfl) (fun _ _ _ h => h) (by kernel_rfl) (by decide) (by kernel_rfl) ?ry79 (⟨p0, p1⟩) ?rm79
      case ry79 => first | exact Or.inl ⟨by rfl, by intro w' hw'; (try dsimp only at hw'); go_simp; first | done | rfl⟩
      case rm79 =>
      simp only [Act.put, List.setIfInBounds_toArray, List.set_cons_zero, List.set_cons_succ]
      refine anyT_put 2 22 ?rv80 #[true, true, true, false, false, false, false, false] rfl rfl rfl (by kernel_rfl) (by kernel_rfl) (by kernel_rfl) (fun _ _ _ h => h) (by decide) ?ry80 (fun _ => ⟨p0, p1⟩) ?rm80
      case ry80 => first | exact Or.inl ⟨by rfl, by intro w'; go_simp; first | done | rfl⟩
      case rm80 =>
      simp only [Act.put, List.setIfInBounds_toArray, List.set_cons_zero, List.set_cons_succ]
      refine anyT_take 3 23 ?rv81 #[true, true, true, true, false, false, false, false] rfl rfl rfl (by kernel_rfl) (by kernel_rfl) (by kernel_rfl) (fun _ _ _ h => h) (by kernel_rfl) (by decide) (by kernel_rfl) ?ry81 (⟨p0, p1⟩) ?rm81
      case ry81 => first | exact Or.inl ⟨by rfl, by intro w' hw'; (try dsimp only at hw'); go_simp; first | done | rfl⟩
      case rm81 =>
      simp only [Act.put, List.setIfInBounds_toArray, List.set_cons_zero, List.set_cons_succ]
      refine anyT_br2 4 6 #[true, true, true, true, true, false, false, false] #[true, true, true, true, false, false, true, false] (by kernel_rfl) rfl rfl rfl rfl (fun K hK => ?ba82) (fun K hK => ?bb82)
      case ba82 =>
        go_simp
        go_wp2_with (go_at_call 14; refine (copied_any sa sc sz (by have := HL.out.1; omega) (v1.drew) ((HI.out.1.below (hb.out.trans (hbW.out.mono hb.out.size))).mono (Nat.le_trans hb.out.size hbW.out.size))).mono ?_; rintro e w2 ⟨g, gc, rfl, hG, hBc⟩)
        have hbWa : Hid (Below v1.heap.size v1 w2) := hbW.out.trans (hBc.mono hbW.out.size)
        have pc := HP.out.go hbWa.out
        try (have rB : Abx w2 v1.heap.size (.bool false) (.slice none 0 0) (.slice none 0 0) := RB.out.go hBc)
        try (have r0 := rB.c0)
        try (have r1 := rB.c1)
        try (have r2 := rB.c2)
        try (have f0 := rB.fr 0)
        try (have f1 := rB.fr 1)
        try (have f2 := rB.fr 2)
        refine hK.out _ _ (fun _ => ⟨pc.c0, pc.c1⟩) ?_
        clear hK K
        refine anyT_put 5 25 ?rv83 #[true, true, true, true, true, true, false, false] rfl rfl rfl (by kernel_rfl) (by kernel_rfl) (by kernel_rfl) (fun _ _ _ h => h) (by decide) ?ry83 (fun _ => ⟨pc.c0, pc.c1⟩) ?rm83
        case ry83 => first | exact Or.inl ⟨by rfl, by intro w'; go_simp; first | done | rfl⟩
        case rm83 =>
        simp only [Act.put, List.setIfInBounds_toArray, List.set_cons_zero, List.set_cons_succ]
        refine anyT_one 6 #[true, true, true, true, true, true, true, false] (by kernel_rfl) rfl rfl (fun K hK => ?_)
        go_simp
        have hbWab : Hid (Below v1.heap.size v1 (w2.alloc (.cells #[.bool false, .slice none 0 0, .slice none 0 0] 24))) := hbWa.out.alloc hbWa.out.size _
        have pda := HP.out.go hbWab.out
        have RB : Hid (Abx (w2.alloc (.cells #[.bool false, .slice none 0 0, .slice none 0 0] 24)) w2.heap.size (.bool false) (.slice none 0 0) (.slice none 0 0)) := Abx.new _ _ _ _
        refine hK.out _ _ (fun _ => ⟨pda.c0, pda.c1⟩) ?_
        clear hK K
        refine anyT_one 7 #[true, true, true, true, true, true, true, true] (by kernel_rfl) rfl rfl (fun K hK => ?_)
        go_simp
        refine hK.out _ _ (fun h => absurd h (by decide)) ?_
        clear hK K
        refine anyT_done (by kernel_rfl) ?_
        go_wp2_with fail
        go_meet
        first | exact ⟨_, g, gc, rfl, out_a hG hbWa.out⟩ | exact ⟨_, g, gc, rfl, out_b (by have h := hG; rw [World.size_alloc] at h; exact h) rB hbWba.out⟩
      case bb82 =>
        go_simp
        have hbWb : Hid (Below v1.heap.size v1 ((v1.drew).alloc (.cells #[.bool false, .slice none 0 0, .slice none 0 0] 24))) := hbW.out.alloc hbW.out.size _
        have pd := HP.out.go hbWb.out
        have RB : Hid (Abx ((v1.drew).alloc (.cells #[.bool false, .slice none 0 0, .slice none 0 0] 24)) (v1.drew).heap.size (.bool false) (.slice none 0 0) (.slice none 0 0)) := Abx.new _ _ _ _
        refine hK.out _ _ (fun _ => ⟨pd.c0, pd.c1⟩) ?_
        clear hK K
        refine anyT_one 4 #[true, true, true, true, true, false, true, false] (by kernel_rfl) rfl rfl (fun K hK => ?_)
        go_simp
        go_wp2_with (go_at_call 14; refine (copied_any sa sc sz (by have := HL.out.1; omega) ((v1.drew).alloc (.cells #[.bool false, .slice none 0 0, .slice none 0 0] 24)) ((HI.out.1.below (hb.out.trans (hbWb.out.mono hb.out.size))).mono (Nat.le_trans hb.out.size hbWb.out.size))).mono ?_; rintro e w2 ⟨g, gc, rfl, hG, hBc⟩)
        have hbWba : Hid (Below v1.heap.size v1 w2) := hbWb.out.trans (hBc.mono hbWb.out.size)
        have pcb := HP.out.go hbWba.out
        try (have rB : Abx w2 v1.heap.size (.bool false) (.slice none 0 0) (.slice none 0 0) := RB.out.go hBc)
        try (have r0 := rB.c0)
        try (have r1 := rB.c1)
        try (have r2 := rB.c2)
        try (have f0 := rB.fr 0)
        try (have f1 := rB.fr 1)
        try (have f2 := rB.fr 2)
        refine hK.out _ _ (fun _ => ⟨pcb.c0, pcb.c1⟩) ?_
        clear hK K
        refine anyT_put 5 25 ?rv87 #[true, true, true, true, true, true, true, false] rfl rfl rfl (by kernel_rfl) (by kernel_rfl) (by kernel_rfl) (fun _ _ _ h => h) (by decide) ?ry87 (fun _ => ⟨pcb.c0, pcb.c1⟩) ?rm87
        case ry87 => first | exact Or.inl ⟨by rfl, by intro w'; go_simp; first | done | rfl⟩
        case rm87 =>
        simp only [Act.put, List.setIfInBounds_toArray, List.set_cons_zero, List.set_cons_succ]
        refine anyT_one 7 #[true, true, true, true, true, true, true, true] (by kernel_rfl) rfl rfl (fun K hK => ?_)
        go_simp
        refine hK.out _ _ (fun h => absurd h (by decide)) ?_
        clear hK K
        refine anyT_done (by kernel_rfl) ?_
        go_wp2_with fail
        go_meet
        first | exact ⟨_, g, gc, rfl, out_a hG hbWa.out⟩ | exact ⟨_, g, gc, rfl, out_b (by have h := hG; rw [World.size_alloc] at h; exact h) rB hbWba.out⟩
    case rest =>
      obtain ⟨B, g, gc, rfl, hO⟩ := hcut
      obtain ⟨v2, hv2⟩ : ∃ v2, v2 = wc := ⟨_, rfl⟩
      subst hv2
      have hb2 : Hid (Below w.heap.size w v2) := hb.out.trans (hO.2.2.2.mono hb.out.size)
      have HO : Hid (Abx v2 w.heap.size (.bool c) (.slice sa sz.length sc) (.slice da dz.length dc) ∧ Abx v2 (w.heap.size + 1) (.bool false) (.slice none 0 0) (.slice none 0 0) ∧ Abx v2 B (.bool c) (.slice g sz.length gc) (.slice none 0 0) ∧ SepInts v1.heap.size v2.heap.size B v2 g sz) := ⟨HP.out.go hO.2.2.2, HR.out.go hO.2.2.2, hO.2.1, hO.2.2.1⟩
      have hBl : w.heap.size + 1 < B := by have := hO.1; have := HR.out.lt; omega
      have hB2 : B < v2.heap.size := hO.2.1.lt
      have hv12 : v1.heap.size ≤ v2.heap.size := hO.2.2.2.size
      have hbv : w.heap.size ≤ v1.heap.size := hb.out.size
      obtain ⟨D, hD⟩ : ∃ D, D = GA sz dz sz (rotT sz n xn) := ⟨_, rfl⟩
      have HD : Hid (D = GA sz dz sz (rotT sz n xn)) := hD
      have hD1 : D.length ≤ dz.length := by have := (flawE_zero HF.out).2.1; rw [hD, GA_length]; omega
      have hD2 : dz.length ≤ D.length := by have := (flawE_zero HF.out).2.1; rw [hD, GA_length]; omega
      clear hO hD p0 p1
      go_wp2_with fail
      go_loopw [10] (fun i wx => ∃ (k : Nat) (v : Value), k ≤ dz.length ∧ i = .int .i64 k ∧ Abx wx w.heap.size (.bool c) (.slice sa sz.length sc) (.slice da dz.length dc) ∧ Abx wx (w.heap.size + 1) (.bool false) (.slice none 0 0) (.slice none 0 0) ∧ Abx wx B (.bool c) (.slice g sz.length gc) v
          ∧ wx.ownsRow v2.heap.size 3 1 v (D.take k).length ((D.take k).map (Value.int .i64)) ∧ SepInts v1.heap.size v2.heap.size B wx g sz ∧ v2.heap.size ≤ wx.heap.size ∧ Below w.heap.size w wx) (fun i _ => dz.length - (intOf i).toNat)
      case atStart => exact ⟨0, .slice none 0 0, Nat.zero_le _, rfl, HO.out.1, HO.out.2.1, HO.out.2.2.1, World.ownsRow_nil _ _ _ _, HO.out.2.2.2, Nat.le_refl _, hb2.out⟩
      case round =>
        obtain ⟨k, v, hk, rfl, hP, hR, hU, hown, hS, hsx, hBx⟩ := hrel
        have b1 := hP.c1
        have b2 := hP.c2
        have o2 := hU.c2
        have of2 := hU.fr 2
        by_cases hlt : k < dz.length
        · have HF0 := flawE_zero HF.out
          have HK : Hid (errOf sz = 0 ∧ (k : Int) < prod sz) := ⟨HF0.1, by have := HF0.2.1; omega⟩
          clear HF0
          have HQ : Hid (Abx wr w.heap.size (.bool c) (.slice sa sz.length sc) (.slice da dz.length dc) ∧ Abx wr (w.heap.size + 1) (.bool false) (.slice none 0 0) (.slice none 0 0) ∧ Abx wr B (.bool c) (.slice g sz.length gc) v ∧ SepInts v1.heap.size v2.heap.size B wr g sz ∧ Below w.heap.size w wr) := ⟨hP, hR, hU, hS, hBx⟩
          clear hP hR hU hS
          go_wp2_with fail
          refine (coords_new sa sc sz k HK.out.1 HK.out.2 wr ((HI.out.1.below HQ.out.2.2.2.2).mono HQ.out.2.2.2.2.size)).mono ?_
          rintro e w2 ⟨ta, tc, rfl, hA, hB3⟩
          rw [cr_length]
          have hcin := cr_fact HK.out.1 HK.out.2
          rcases hA with hA | ⟨bt, ot, rfl, l0, hbt, hcT, hfT⟩
          · have := cr_length sz k; rw [hA] at this; simp at this; omega
          have ct := hcT xn (by rw [cr_length]; exact hxl)
          have fT := hfT xn
          have HA : Hid (NewInts wr.heap.size w2 (some ⟨bt, ot, none⟩) (cr sz k)) := .inr ⟨bt, ot, rfl, l0, hbt, hcT, hfT⟩
          have HB3 : Hid (Below wr.heap.size wr w2) := hB3
          have HBw : Hid (Below w.heap.size w w2) := HQ.out.2.2.2.2.trans (hB3.mono HQ.out.2.2.2.2.size)
          obtain ⟨bs, os, rfl, hbs, hcS⟩ := (HI.out.1.below HBw.out).at hxl
          have cs := hcS xn hxl
          have hxi := ins_at hcin.1 hxl
          have hx4 := ((errOf_zero.1 HK.out.1).2.1.nth xn).2
          obtain ⟨hx0, hx1⟩ := hxi
          have HC : Hid (insB sz (cr sz k) = true ∧ place sz (cr sz k) = k) := hcin
          have P2 := HQ.out.1.go hB3
          have q1 := P2.c1
          clear hcT hfT hB3 hcS hcin b1 b2 o2 of2
          have hrv := rotV (n := n) hx0 hx1
          obtain ⟨⟨hr0, hr1⟩, hwA, hwB, hwC⟩ := hrv
          have hLz : nth sz xn ≠ 0 := by omega
          have c3 : (w2.setCell ⟨bt, ot + xn, none⟩ (.int .i64 (nth (cr sz k) xn + n.tmod (nth sz xn)))).drew.cell? ⟨bt, ot + xn, none⟩ = some (.int .i64 (nth (cr sz k) xn + n.tmod (nth sz xn))) := World.cell?_setCell_same' _ _ _ (by rw [ct]; rfl)
          have f3 : (w2.setCell ⟨bt, ot + xn, none⟩ (.int .i64 (nth (cr sz k) xn + n.tmod (nth sz xn)))).drew.frozen? ⟨bt, ot + xn, none⟩ = false := (World.frozen?_setCell ..).trans fT
          rcases (by omega : nth (cr sz k) xn + n.tmod (nth sz xn) < 0 ∨ (0 ≤ nth (cr sz k) xn + n.tmod (nth sz xn) ∧ nth (cr sz k) xn + n.tmod (nth sz xn) < nth sz xn) ∨ nth sz xn ≤ nth (cr sz k) xn + n.tmod (nth sz xn)) with hw1 | ⟨hw1, hw2⟩ | hw1
          · have HWv : Hid ((nth (cr sz k) xn + n) % nth sz xn = nth (cr sz k) xn + n.tmod (nth sz xn) + nth sz xn) := hwA hw1
            go_wp2_with fail
            refine anyT_begin 10 (fun w' => w'.cell? ⟨bt, ot + xn, none⟩ = some (.int .i64 (nth (cr sz k) xn))) 12 #[false, false, false, false, false, false, false, false, false, false, false, false] (by kernel_rfl) rfl rfl ?_
            refine anyT_put 0 42 ?rv89 #[true, false, false, false, false, false, false, false, false, false, false, false] rfl rfl rfl (by kernel_rfl) (by kernel_rfl) (by kernel_rfl) (fun _ _ _ h => h) (by decide) ?ry89 (fun _ => ct) ?rm89
            case ry89 => first | exact Or.inl ⟨by rfl, by intro w'; go_simp; first | done | rfl⟩
            case rm89 =>
            simp only [Act.put, List.setIfInBounds_toArray, List.set_cons_zero, List.set_cons_succ]
            refine anyT_put 1 43 ?rv90 #[true, true, false, false, false, false, false, false, false, false, false, false] rfl rfl rfl (by kernel_rfl) (by kernel_rfl) (by kernel_rfl) (fun _ _ _ h => h) (by decide) ?ry90 (fun _ => ct) ?rm90
            case ry90 => first | exact Or.inl ⟨by rfl, by intro w'; go_simp; first | done | rfl⟩
            case rm90 =>
            simp only [Act.put, List.setIfInBounds_toArray, List.set_cons_zero, List.set_cons_succ]
            refine anyT_put 2 44 ?rv91 #[true, true, true, false, false, false, false, false, false, false, false, false] rfl rfl rfl (by kernel_rfl) (by kernel_rfl) (by kernel_rfl) (fun _ _ _ h => h) (by decide) ?ry91 (fun _ => ct) ?rm91
            case ry91 => first | exact Or.inl ⟨by rfl, by intro w'; go_simp; first | done | rfl⟩
            case rm91 =>
            simp only [Act.put, List.setIfInBounds_toArray, List.set_cons_zero, List.set_cons_succ]
            refine anyT_put 3 45 ?rv92 #[true, true, true, true, false, false, false, false, false, false, false, false] rfl rfl rfl (by kernel_rfl) (by kernel_rfl) (by kernel_rfl) (fun _ _ _ h => h) (by decide) ?ry92 (fun _ => ct) ?rm92
            case ry92 => first | exact Or.inl ⟨by rfl, by intro w'; go_simp; first | done | rfl⟩
            case rm92 =>
            simp only [Act.put, List.setIfInBounds_toArray, List.set_cons_zero, List.set_cons_succ]
            refine anyT_put 4 46 ?rv93 #[true, true, true, true, true, false, false, false, false, false, false, false] rfl rfl rfl (by kernel_rfl) (by kernel_rfl) (by kernel_rfl) (fun _ _ _ h => h) (by decide) ?ry93 (fun _ => ct) ?rm93
            case ry93 => first | exact Or.inl ⟨by rfl, by intro w'; go_simp; first | done | rfl⟩
            case rm93 =>
            simp only [Act.put, List.setIfInBounds_toArray, List.set_cons_zero, List.set_cons_succ]
            refine anyT_take 5 47 ?rv94 #[true, true, true, true, true, true, false, false, false, false, false, false] rfl rfl rfl (by kernel_rfl) (by kernel_rfl) (by kernel_rfl) (fun _ _ _ h => h) (by kernel_rfl) (by decide) (by kernel_rfl) ?ry94 (ct) ?rm94
            case ry94 => first | exact Or.inl ⟨by rfl, by intro w' hw'; (try dsimp only at hw'); go_simp; first | done | rfl⟩
            case rm94 =>
            simp only [Act.put, List.setIfInBounds_toArray, List.set_cons_zero, List.set_cons_succ]
            refine anyT_put 6 48 ?rv95 #[true, true, true, true, true, true, true, false, false, false, false, false] rfl rfl rfl (by kernel_rfl) (by kernel_rfl) (by kernel_rfl) (fun _ _ _ h => h) (by decide) ?ry95 (fun _ => ct) ?rm95
            case ry95 => first | exact Or.inl ⟨by rfl, by intro w'; go_simp; first | done | rfl⟩
            case rm95 =>
            simp only [Act.put, List.setIfInBounds_toArray, List.set_cons_zero, List.set_cons_succ]
            refine anyT_put 7 49 ?rv96 #[true, true, true, true, true, true, true, true, false, false, false, false] rfl rfl rfl (by kernel_rfl) (by kernel_rfl) (by kernel_rfl) (fun _ _ _ h => h) (by decide) ?ry96 (fun _ => ct) ?rm96
            case ry96 => first | exact Or.inl ⟨by rfl, by intro w'; go_simp; first | done | rfl⟩
            case rm96 =>
            simp only [Act.put, List.setIfInBounds_toArray, List.set_cons_zero, List.set_cons_succ]
            refine anyT_put 8 50 ?rv97 #[true, true, true, true, true, true, true, true, true, false, false, false] rfl rfl rfl (by kernel_rfl) (by kernel_rfl) (by kernel_rfl) (fun _ _ _ h => h) (by decide) ?ry97 (fun _ => ct) ?rm97
            case ry97 => first | exact Or.inl ⟨by rfl, by intro w'; go_simp; first | done | rfl⟩
            case rm97 =>
            simp only [Act.put, List.setIfInBounds_toArray, List.set_cons_zero, List.set_cons_succ]
            refine anyT_put 9 51 ?rv98 #[true, true, true, true, true, true, true, true, true, true, false, false] rfl rfl rfl (by kernel_rfl) (by kernel_rfl) (by kernel_rfl) (fun _ _ _ h => h) (by decide) ?ry98 (fun _ => ct) ?rm98
            case ry98 => first | exact Or.inl ⟨by rfl, by intro w'; go_simp; first | done | rfl⟩
            case rm98 =>
            simp only [Act.put, List.setIfInBounds_toArray, List.set_cons_zero, List.set_cons_succ]
            refine anyT_one 10 #[true, true, true, true, true, true, true, true, true, true, true, false] (by kernel_rfl) rfl rfl (fun K hK => ?_)
            go_simp
            refine hK.out _ _ (fun h => absurd h (by decide)) ?_
            clear hK K
            refine anyT_one 11 #[true, true, true, true, true, true, true, true, true, true, true, true] (by kernel_rfl) rfl rfl (fun K hK => ?_)
            go_simp
            refine hK.out _ _ (fun h => absurd h (by decide)) ?_
            clear hK K
            refine anyT_done (by kernel_rfl) ?_
            rw [show IntKind.i64.wrap (nth (cr sz k) xn + n.tmod (nth sz xn)) = nth (cr sz k) xn + n.tmod (nth sz xn) from IntWalk.i64_in _ (by omega)]
            go_wp2_with fail
            obtain ⟨ts, hts⟩ : ∃ ts, ts = rotT sz n xn (cr sz k) := ⟨_, rfl⟩
            have HTi : Hid (insB sz ts = true) := by rw [hts]; exact rotT_in HC.out.1 hxl
            have HTs : Hid (ts = rotT sz n xn (cr sz k)) := hts
            have hU : IsInts w2.heap.size ((w2.setCell ⟨bt, ot + xn, none⟩ (.int .i64 (nth (cr sz k) xn + n.tmod (nth sz xn)))).setCell ⟨bt, ot + xn, none⟩ (.int .i64 (nth (cr sz k) xn + n.tmod (nth sz xn) + nth sz xn))).drew (some ⟨bt, ot, none⟩) ts := by rw [hts]; unfold rotT; rw [HWv.out]; exact put2_at HA.out (by rw [cr_length]; exact hxl) _ _
            have hBu : Below wr.heap.size wr ((w2.setCell ⟨bt, ot + xn, none⟩ (.int .i64 (nth (cr sz k) xn + n.tmod (nth sz xn)))).setCell ⟨bt, ot + xn, none⟩ (.int .i64 (nth (cr sz k) xn + n.tmod (nth sz xn) + nth sz xn))).drew := ((HB3.out.setCell (p := ⟨bt, ot + xn, none⟩) l0 _).setCell (p := ⟨bt, ot + xn, none⟩) l0 _).drew
            have hzu : ((w2.setCell ⟨bt, ot + xn, none⟩ (.int .i64 (nth (cr sz k) xn + n.tmod (nth sz xn)))).setCell ⟨bt, ot + xn, none⟩ (.int .i64 (nth (cr sz k) xn + n.tmod (nth sz xn) + nth sz xn))).drew.heap.size = w2.heap.size := by simp [World.setCell]
            obtain ⟨u, hu⟩ : ∃ u, u = ((w2.setCell ⟨bt, ot + xn, none⟩ (.int .i64 (nth (cr sz k) xn + n.tmod (nth sz xn)))).setCell ⟨bt, ot + xn, none⟩ (.int .i64 (nth (cr sz k) xn + n.tmod (nth sz xn) + nth sz xn))).drew := ⟨_, rfl⟩
            rw [← hu] at hU hBu hzu ⊢
            have HUz : Hid (IsInts u.heap.size u (some ⟨bt, ot, none⟩) ts ∧ Below wr.heap.size wr u) := ⟨by rw [hzu]; exact hU, hBu⟩
            clear hts hu hU hzu q1 cs ct fT P2 c3 f3 hwA hwB hwC
            have hl4 := HL.out.2
            have HPl : Hid (0 ≤ place sz ts ∧ place sz ts < dz.length) := by have := place_bd HTi.out; have h := (flawE_zero HF.out).2.1; exact ⟨this.1, by rw [h]; exact this.2⟩
            obtain ⟨P, hP⟩ : ∃ P : Nat, place sz ts = P := ⟨(place sz ts).toNat, by have := HPl.out.1; omega⟩
            have hPl : P < dz.length := by have := HPl.out.2; omega
            have HPP : Hid (place sz ts = P) := hP
            clear hP
            obtain ⟨bd, od, rfl, hbd, hcD⟩ := (HI.out.2.below (HQ.out.2.2.2.2.trans (HUz.out.2.mono HQ.out.2.2.2.2.size))).at hPl
            have cd := hcD P hPl
            clear hcD
            have HV : Hid (nth dz P = nth D k) := by show _ = _; rw [HD.out, GA_nth (by have h := (flawE_zero HF.out).2.1; omega), ← HTs.out, HPP.out, Int.toNat_natCast]
            have P6 := HQ.out.1.go HUz.out.2
            have U6 := HQ.out.2.2.1.go HUz.out.2
            have o6 := U6.c2
            have d6 := P6.c2
            have s6 := P6.c1
            have hown6 := own_go hown HUz.out.2
            have hsu : wr.heap.size ≤ u.heap.size := HUz.out.2.size
            have hkD : k ≤ D.length := by omega
            have hBu2 : Hid (Below w.heap.size w u) := HQ.out.2.2.2.2.trans (HUz.out.2.mono HQ.out.2.2.2.2.size)
            go_wp2_with fail
            refine anyT_begin 12 (fun w' => w'.cell? ⟨B, 2, none⟩ = some v ∧ w'.cell? ⟨w.heap.size, 2, none⟩ = some (.slice (some ⟨bd, od, none⟩) dz.length dc) ∧ w'.cell? ⟨w.heap.size, 1, none⟩ = some (.slice (some ⟨bs, os, none⟩) sz.length sc) ∧ w'.cell? ⟨bd, od + P, none⟩ = some (.int .i64 (nth dz P))) 14 #[false, false, false, false, false, false, false, false, false, false, false, false, false, false] (by kernel_rfl) rfl rfl ?_
            refine anyT_put 0 78 ?rv101 #[true, false, false, false, false, false, false, false, false, false, false, false, false, false] rfl rfl rfl (by kernel_rfl) (by kernel_rfl) (by kernel_rfl) (fun _ _ _ h => h) (by decide) ?ry101 (fun _ => ⟨o6, d6, s6, cd⟩) ?rm101
            case ry101 => first | exact Or.inl ⟨by rfl, by intro w'; go_simp; first | done | rfl⟩
            case rm101 =>
            simp only [Act.put, List.setIfInBounds_toArray, List.set_cons_zero, List.set_cons_succ]
            refine anyT_take 1 79 ?rv102 #[true, true, false, false, false, false, false, false, false, false, false, false, false, false] rfl rfl rfl (by kernel_rfl) (by kernel_rfl) (by kernel_rfl) (fun _ _ _ h => h) (by kernel_rfl) (by decide) (by kernel_rfl) ?ry102 (⟨o6, d6, s6, cd⟩) ?rm102
            case ry102 => first | exact Or.inl ⟨by rfl, by intro w' hw'; (try dsimp only at hw'); go_simp; first | done | rfl⟩
            case rm102 =>
            simp only [Act.put, List.setIfInBounds_toArray, List.set_cons_zero, List.set_cons_succ]
            refine anyT_put 2 80 ?rv103 #[true, true, true, false, false, false, false, false, false, false, false, false, false, false] rfl rfl rfl (by kernel_rfl) (by kernel_rfl) (by kernel_rfl) (fun _ _ _ h => h) (by decide) ?ry103 (fun _ => ⟨o6, d6, s6, cd⟩) ?rm103
            case ry103 => first | exact Or.inl ⟨by rfl, by intro w'; go_simp; first | done | rfl⟩
            case rm103 =>
            simp only [Act.put, List.setIfInBounds_toArray, List.set_cons_zero, List.set_cons_succ]
            refine anyT_take 3 81 ?rv104 #[true, true, true, true, false, false, false, false, false, false, false, false, false, false] rfl rfl rfl (by kernel_rfl) (by kernel_rfl) (by kernel_rfl) (fun _ _ _ h => h) (by kernel_rfl) (by decide) (by kernel_rfl) ?ry104 (⟨o6, d6, s6, cd⟩) ?rm104
            case ry104 => first | exact Or.inl ⟨by rfl, by intro w' hw'; (try dsimp only at hw'); go_simp; first | done | rfl⟩
            case rm104 =>
            simp only [Act.put, List.setIfInBounds_toArray, List.set_cons_zero, List.set_cons_succ]
            refine anyT_put 4 82 ?rv105 #[true, true, true, true, true, false, false, false, false, false, false, false, false, false] rfl rfl rfl (by kernel_rfl) (by kernel_rfl) (by kernel_rfl) (fun _ _ _ h => h) (by decide) ?ry105 (fun _ => ⟨o6, d6, s6, cd⟩) ?rm105
            case ry105 => first | exact Or.inl ⟨by rfl, by intro w'; go_simp; first | done | rfl⟩
            case rm105 =>
            simp only [Act.put, List.setIfInBounds_toArray, List.set_cons_zero, List.set_cons_succ]
            refine anyT_take 5 83 ?rv106 #[true, true, true, true, true, true, false, false, false, false, false, false, false, false] rfl rfl rfl (by kernel_rfl) (by kernel_rfl) (by kernel_rfl) (fun _ _ _ h => h) (by kernel_rfl) (by decide) (by kernel_rfl) ?ry106 (⟨o6, d6, s6, cd⟩) ?rm106
            case ry106 => first | exact Or.inl ⟨by rfl, by intro w' hw'; (try dsimp only at hw'); go_simp; first | done | rfl⟩
            case rm106 =>
            simp only [Act.put, List.setIfInBounds_toArray, List.set_cons_zero, List.set_cons_succ]
            refine anyT_put 6 84 ?rv107 #[true, true, true, true, true, true, true, false, false, false, false, false, false, false] rfl rfl rfl (by kernel_rfl) (by kernel_rfl) (by kernel_rfl) (fun _ _ _ h => h) (by decide) ?ry107 (fun _ => ⟨o6, d6, s6, cd⟩) ?rm107
            case ry107 => first | exact Or.inl ⟨by rfl, by intro w'; go_simp; first | done | rfl⟩
            case rm107 =>
            simp only [Act.put, List.setIfInBounds_toArray, List.set_cons_zero, List.set_cons_succ]
            refine anyT_one 7 #[true, true, true, true, true, true, true, true, false, false, false, false, false, false] (by kernel_rfl) rfl rfl (fun K hK => ?_)
            go_simp
            go_wp2_with (go_at_call 16; refine (where_n (some ⟨bs, os, none⟩) sc sz (some ⟨bt, ot, none⟩) tc sz.length ts (insB_len HTi.out) P HPP.out h1 HK.out.1 HTi.out u.heap.size u.drew ((HI.out.1.below hBu2.out).mono hBu2.out.size) HUz.out.1).mono ?_; rintro e w3 ⟨rfl, rfl⟩)
            refine hK.out _ _ (fun _ => ⟨o6, d6, s6, cd⟩) ?_
            clear hK K
            refine anyT_put 8 86 ?rv109 #[true, true, true, true, true, true, true, true, true, false, false, false, false, false] rfl rfl rfl (by kernel_rfl) (by kernel_rfl) (by kernel_rfl) (fun _ _ _ h => h) (by decide) ?ry109 (fun _ => ⟨o6, d6, s6, cd⟩) ?rm109
            case ry109 => first | exact Or.inl ⟨by rfl, by intro w'; go_simp; first | done | rfl⟩
            case rm109 =>
            simp only [Act.put, List.setIfInBounds_toArray, List.set_cons_zero, List.set_cons_succ]
            refine anyT_take 9 87 ?rv110 #[true, true, true, true, true, true, true, true, true, true, false, false, false, false] rfl rfl rfl (by kernel_rfl) (by kernel_rfl) (by kernel_rfl) (fun _ _ _ h => h) (by kernel_rfl) (by decide) (by kernel_rfl) ?ry110 (⟨o6, d6, s6, cd⟩) ?rm110
            case ry110 => first | exact Or.inl ⟨by rfl, by intro w' hw'; (try dsimp only at hw'); go_simp; first | done | rfl⟩
            case rm110 =>
            simp only [Act.put, List.setIfInBounds_toArray, List.set_cons_zero, List.set_cons_succ]
            refine anyT_one 10 #[true, true, true, true, true, true, true, true, true, true, true, false, false, false] (by kernel_rfl) rfl rfl (fun K hK => ?_)
            go_simp
            have k0 := P6.al (.cells #[.int .i64 (nth dz P)] 3)
            have k1 := U6.al (.cells #[.int .i64 (nth dz P)] 3)
            have k2 : (u.alloc (.cells #[.int .i64 (nth dz P)] 3)).cell? ⟨bd, od + P, none⟩ = some (.int .i64 (nth dz P)) := (World.cell?_alloc_lt u _ ⟨bd, od + P, none⟩ (by have := hBu2.out.size; show bd < u.heap.size; omega)).trans cd
            refine hK.out _ _ (fun _ => ⟨k1.c2, k0.c2, k0.c1, k2⟩) ?_
            clear hK K
            refine anyT_one 11 #[true, true, true, true, true, true, true, true, true, true, true, true, false, false] (by kernel_rfl) rfl rfl (fun K hK => ?_)
            refine app_step 89 rfl rfl _ _ rfl _ v2.heap.size u.heap.size v (D.take k) (nth dz P) rfl rfl ((hown6.alloc _).drew) (heap_alloc_new u _) (by rw [take_lenR _ (by omega)]; omega) (by simp; omega) ?_
            intro g1 gc1 w4 hown1 hB4
            have P7 := k0.dr.bel hB4 (by omega)
            have HO1 : Hid (Abx w4 B (.bool c) (.slice g sz.length gc) v) := k1.dr.bel hB4 (by omega)
            have x2 := HO1.out.c2
            have xf := HO1.out.fr 2
            have xd : w4.cell? ⟨bd, od + P, none⟩ = some (.int .i64 (nth dz P)) := (hB4.cell (p := ⟨bd, od + P, none⟩) (by show bd < _; omega)).trans k2
            refine hK.out _ _ (fun _ => ⟨x2, P7.c2, P7.c1, xd⟩) ?_
            clear hK K
            simp only [Act.put, List.setIfInBounds_toArray, List.set_cons_zero, List.set_cons_succ]
            refine anyT_one 12 #[true, true, true, true, true, true, true, true, true, true, true, true, true, false] (by kernel_rfl) rfl rfl (fun K hK => ?_)
            go_simp
            refine hK.out _ _ (fun h => absurd h (by decide)) ?_
            clear hK K
            refine anyT_one 13 #[true, true, true, true, true, true, true, true, true, true, true, true, true, true] (by kernel_rfl) rfl rfl (fun K hK => ?_)
            go_simp
            refine hK.out _ _ (fun h => absurd h (by decide)) ?_
            clear hK K
            refine anyT_done (by kernel_rfl) ?_
            go_wp2_with fail
            rw [HV.out, ← take_snoc D k (by omega), take_lenR D (show k ≤ D.length by omega)] at hown1
            have hz4 := hB4.size
            simp at hz4
            refine ⟨⟨k + 1, .slice (some ⟨g1, 0, none⟩) (k + 1) gc1, by omega, by go_num, P7.ot (by show w.heap.size ≠ B; omega) _, ?_, HO1.out.s2 _, ?_, ?_, by simp [World.setCell]; omega, ?_⟩, by simp [intOf]; omega⟩
            · exact (((HQ.out.2.1.go HUz.out.2).al _).dr.bel hB4 (by omega)).ot (by show w.heap.size + 1 ≠ B; omega) _
            · rw [take_lenR D (show k + 1 ≤ D.length by omega)]
              exact ownsRow_setCell_below hown1 (by show B < v2.heap.size; omega) _
            · exact (((((HQ.out.2.2.2.1.bel (HUz.out.2.mono hsx)).al (by omega) _).dr).bel hB4)).set 2 _
            · exact (((hBu2.out.alloc hBu2.out.size _).drew.trans (hB4.mono (by omega)))).setCell (p := ⟨B, 2, none⟩) (by show w.heap.size ≤ B; omega) _
          · have HWv : Hid ((nth (cr sz k) xn + n) % nth sz xn = nth (cr sz k) xn + n.tmod (nth sz xn)) := hwB hw1 hw2
            go_wp2_with fail
            refine anyT_begin 10 (fun w' => w'.cell? ⟨bt, ot + xn, none⟩ = some (.int .i64 (nth (cr sz k) xn))) 12 #[false, false, false, false, false, false, false, false, false, false, false, false] (by kernel_rfl) rfl rfl ?_
            refine anyT_put 0 42 ?rv115 #[true, false, false, false, false, false, false, false, false, false, false, false] rfl rfl rfl (by kernel_rfl) (by kernel_rfl) (by kernel_rfl) (fun _ _ _ h => h) (by decide) ?ry115 (fun _ => ct) ?rm115
            case ry115 => first | exact Or.inl ⟨by rfl, by intro w'; go_simp; first | done | rfl⟩
            case rm115 =>
            simp only [Act.put, List.setIfInBounds_toArray, List.set_cons_zero, List.set_cons_succ]
            refine anyT_put 1 43 ?rv116 #[true, true, false, false, false, false, false, false, false, false, false, false] rfl rfl rfl (by kernel_rfl) (by kernel_rfl) (by kernel_rfl) (fun _ _ _ h => h) (by decide) ?ry116 (fun _ => ct) ?rm116
            case ry116 => first | exact Or.inl ⟨by rfl, by intro w'; go_simp; first | done | rfl⟩
            case rm116 =>
            simp only [Act.put, List.setIfInBounds_toArray, List.set_cons_zero, List.set_cons_succ]
            refine anyT_put 2 44 ?rv117 #[true, true, true, false, false, false, false, false, false, false, false, false] rfl rfl rfl (by kernel_rfl) (by kernel_rfl) (by kernel_rfl) (fun _ _ _ h => h) (by decide) ?ry117 (fun _ => ct) ?rm117
            case ry117 => first | exact Or.inl ⟨by rfl, by intro w'; go_simp; first | done | rfl⟩
            case rm117 =>
            simp only [Act.put, List.setIfInBounds_toArray, List.set_cons_zero, List.set_cons_succ]
            refine anyT_put 3 45 ?rv118 #[true, true, true, true, false, false, false, false, false, false, false, false] rfl rfl rfl (by kernel_rfl) (by kernel_rfl) (by kernel_rfl) (fun _ _ _ h => h) (by decide) ?ry118 (fun _ => ct) ?rm118
            case ry118 => first | exact Or.inl ⟨by rfl, by intro w'; go_simp; first | done | rfl⟩
            case rm118 =>
            simp only [Act.put, List.setIfInBounds_toArray, List.set_cons_zero, List.set_cons_succ]
            refine anyT_put 4 46 ?rv119 #[true, true, true, true, true, false, false, false, false, false, false, false] rfl rfl rfl (by kernel_rfl) (by kernel_rfl) (by kernel_rfl) (fun _ _ _ h => h) (by decide) ?ry119 (fun _ => ct) ?rm119
            case ry119 => first | exact Or.inl ⟨by rfl, by intro w'; go_simp; first | done | rfl⟩
            case rm119 =>
            simp only [Act.put, List.setIfInBounds_toArray, List.set_cons_zero, List.set_cons_succ]
            refine anyT_take 5 47 ?rv120 #[true, true, true, true, true, true, false, false, false, false, false, false] rfl rfl rfl (by kernel_rfl) (by kernel_rfl) (by kernel_rfl) (fun _ _ _ h => h) (by kernel_rfl) (by decide) (by kernel_rfl) ?ry120 (ct) ?rm120
            case ry120 => first | exact Or.inl ⟨by rfl, by intro w' hw'; (try dsimp only at hw'); go_simp; first | done | rfl⟩
            case rm120 =>
            simp only [Act.put, List.setIfInBounds_toArray, List.set_cons_zero, List.set_cons_succ]
            refine anyT_put 6 48 ?rv121 #[true, true, true, true, true, true, true, false, false, false, false, false] rfl rfl rfl (by kernel_rfl) (by kernel_rfl) (by kernel_rfl) (fun _ _ _ h => h) (by decide) ?ry121 (fun _ => ct) ?rm121
            case ry121 => first | exact Or.inl ⟨by rfl, by intro w'; go_simp; first | done | rfl⟩
            case rm121 =>
            simp only [Act.put, List.setIfInBounds_toArray, List.set_cons_zero, List.set_cons_succ]
            refine anyT_put 7 49 ?rv122 #[true, true, true, true, true, true, true, true, false, false, false, false] rfl rfl rfl (by kernel_rfl) (by kernel_rfl) (by kernel_rfl) (fun _ _ _ h => h) (by decide) ?ry122 (fun _ => ct) ?rm122
            case ry122 => first | exact Or.inl ⟨by rfl, by intro w'; go_simp; first | done | rfl⟩
            case rm122 =>
            simp only [Act.put, List.setIfInBounds_toArray, List.set_cons_zero, List.set_cons_succ]
            refine anyT_put 8 50 ?rv123 #[true, true, true, true, true, true, true, true, true, false, false, false] rfl rfl rfl (by kernel_rfl) (by kernel_rfl) (by kernel_rfl) (fun _ _ _ h => h) (by decide) ?ry123 (fun _ => ct) ?rm123
            case ry123 => first | exact Or.inl ⟨by rfl, by intro w'; go_simp; first | done | rfl⟩
            case rm123 =>
            simp only [Act.put, List.setIfInBounds_toArray, List.set_cons_zero, List.set_cons_succ]
            refine anyT_put 9 51 ?rv124 #[true, true, true, true, true, true, true, true, true, true, false, false] rfl rfl rfl (by kernel_rfl) (by kernel_rfl) (by kernel_rfl) (fun _ _ _ h => h) (by decide) ?ry124 (fun _ => ct) ?rm124
            case ry124 => first | exact Or.inl ⟨by rfl, by intro w'; go_simp; first | done | rfl⟩
            case rm124 =>
            simp only [Act.put, List.setIfInBounds_toArray, List.set_cons_zero, List.set_cons_succ]
            refine anyT_one 10 #[true, true, true, true, true, true, true, true, true, true, true, false] (by kernel_rfl) rfl rfl (fun K hK => ?_)
            go_simp
            refine hK.out _ _ (fun h => absurd h (by decide)) ?_
            clear hK K
            refine anyT_one 11 #[true, true, true, true, true, true, true, true, true, true, true, true] (by kernel_rfl) rfl rfl (fun K hK => ?_)
            go_simp
            refine hK.out _ _ (fun h => absurd h (by decide)) ?_
            clear hK K
            refine anyT_done (by kernel_rfl) ?_
            rw [show IntKind.i64.wrap (nth (cr sz k) xn + n.tmod (nth sz xn)) = nth (cr sz k) xn + n.tmod (nth sz xn) from IntWalk.i64_in _ (by omega)]
            go_wp2_with fail
            obtain ⟨ts, hts⟩ : ∃ ts, ts = rotT sz n xn (cr sz k) := ⟨_, rfl⟩
            have HTi : Hid (insB sz ts = true) := by rw [hts]; exact rotT_in HC.out.1 hxl
            have HTs : Hid (ts = rotT sz n xn (cr sz k)) := hts
            have hU : IsInts w2.heap.size (w2.setCell ⟨bt, ot + xn, none⟩ (.int .i64 (nth (cr sz k) xn + n.tmod (nth sz xn)))).drew (some ⟨bt, ot, none⟩) ts := by rw [hts]; unfold rotT; rw [HWv.out]; exact put_at HA.out (by rw [cr_length]; exact hxl) _
            have hBu : Below wr.heap.size wr (w2.setCell ⟨bt, ot + xn, none⟩ (.int .i64 (nth (cr sz k) xn + n.tmod (nth sz xn)))).drew := (HB3.out.setCell (p := ⟨bt, ot + xn, none⟩) l0 _).drew
            have hzu : (w2.setCell ⟨bt, ot + xn, none⟩ (.int .i64 (nth (cr sz k) xn + n.tmod (nth sz xn)))).drew.heap.size = w2.heap.size := by simp [World.setCell]
            obtain ⟨u, hu⟩ : ∃ u, u = (w2.setCell ⟨bt, ot + xn, none⟩ (.int .i64 (nth (cr sz k) xn + n.tmod (nth sz xn)))).drew := ⟨_, rfl⟩
            rw [← hu] at hU hBu hzu ⊢
            have HUz : Hid (IsInts u.heap.size u (some ⟨bt, ot, none⟩) ts ∧ Below wr.heap.size wr u) := ⟨by rw [hzu]; exact hU, hBu⟩
            clear hts hu hU hzu q1 cs ct fT P2 c3 f3 hwA hwB hwC
            have hl4 := HL.out.2
            have HPl : Hid (0 ≤ place sz ts ∧ place sz ts < dz.length) := by have := place_bd HTi.out; have h := (flawE_zero HF.out).2.1; exact ⟨this.1, by rw [h]; exact this.2⟩
            obtain ⟨P, hP⟩ : ∃ P : Nat, place sz ts = P := ⟨(place sz ts).toNat, by have := HPl.out.1; omega⟩
            have hPl : P < dz.length := by have := HPl.out.2; omega
            have HPP : Hid (place sz ts = P) := hP
            clear hP
            obtain ⟨bd, od, rfl, hbd, hcD⟩ := (HI.out.2.below (HQ.out.2.2.2.2.trans (HUz.out.2.mono HQ.out.2.2.2.2.size))).at hPl
            have cd := hcD P hPl
            clear hcD
            have HV : Hid (nth dz P = nth D k) := by show _ = _; rw [HD.out, GA_nth (by have h := (flawE_zero HF.out).2.1; omega), ← HTs.out, HPP.out, Int.toNat_natCast]
            have P6 := HQ.out.1.go HUz.out.2
            have U6 := HQ.out.2.2.1.go HUz.out.2
            have o6 := U6.c2
            have d6 := P6.c2
            have s6 := P6.c1
            have hown6 := own_go hown HUz.out.2
            have hsu : wr.heap.size ≤ u.heap.size := HUz.out.2.size
            have hkD : k ≤ D.length := by omega
            have hBu2 : Hid (Below w.heap.size w u) := HQ.out.2.2.2.2.trans (HUz.out.2.mono HQ.out.2.2.2.2.size)
            go_wp2_with fail
            refine anyT_begin 12 (fun w' => w'.cell? ⟨B, 2, none⟩ = some v ∧ w'.cell? ⟨w.heap.size, 2, none⟩ = some (.slice (some ⟨bd, od, none⟩) dz.length dc) ∧ w'.cell? ⟨w.heap.size, 1, none⟩ = some (.slice (some ⟨bs, os, none⟩) sz.length sc) ∧ w'.cell? ⟨bd, od + P, none⟩ = some (.int .i64 (nth dz P))) 14 #[false, false, false, false, false, false, false, false, false, false, false, false, false, false] (by kernel_rfl) rfl rfl ?_
            refine anyT_put 0 78 ?rv127 #[true, false, false, false, false, false, false, false, false, false, false, false, false, false] rfl rfl rfl (by kernel_rfl) (by kernel_rfl) (by kernel_rfl) (fun _ _ _ h => h) (by decide) ?ry127 (fun _ => ⟨o6, d6, s6, cd⟩) ?rm127
            case ry127 => first | exact Or.inl ⟨by rfl, by intro w'; go_simp; first | done | rfl⟩
            case rm127 =>
            simp only [Act.put, List.setIfInBounds_toArray, List.set_cons_zero, List.set_cons_succ]
            refine anyT_take 1 79 ?rv128 #[true, true, false, false, false, false, false, false, false, false, false, false, false, false] rfl rfl rfl (by kernel_rfl) (by kernel_rfl) (by kernel_rfl) (fun _ _ _ h => h) (by kernel_rfl) (by decide) (by kernel_rfl) ?ry128 (⟨o6, d6, s6, cd⟩) ?rm128
            case ry128 => first | exact Or.inl ⟨by rfl, by intro w' hw'; (try dsimp only at hw'); go_simp; first | done | rfl⟩
            case rm128 =>
            simp only [Act.put, List.setIfInBounds_toArray, List.set_cons_zero, List.set_cons_succ]
            refine anyT_put 2 80 ?rv129 #[true, true, true, false, false, false, false, false, false, false, false, false, false, false] rfl rfl rfl (by kernel_rfl) (by kernel_rfl) (by kernel_rfl) (fun _ _ _ h => h) (by decide) ?ry129 (fun _ => ⟨o6, d6, s6, cd⟩) ?rm129
            case ry129 => first | exact Or.inl ⟨by rfl, by intro w'; go_simp; first | done | rfl⟩
            case rm129 =>
            simp only [Act.put, List.setIfInBounds_toArray, List.set_cons_zero, List.set_cons_succ]
            refine anyT_take 3 81 ?rv130 #[true, true, true, true, false, false, false, false, false, false, false, false, false, false] rfl rfl rfl (by kernel_rfl) (by kernel_rfl) (by kernel_rfl) (fun _ _ _ h => h) (by kernel_rfl) (by decide) (by kernel_rfl) ?ry130 (⟨o6, d6, s6, cd⟩) ?rm130
            case ry130 => first | exact Or.inl ⟨by rfl, by intro w' hw'; (try dsimp only at hw'); go_simp; first | done | rfl⟩
            case rm130 =>
            simp only [Act.put, List.setIfInBounds_toArray, List.set_cons_zero, List.set_cons_succ]
            refine anyT_put 4 82 ?rv131 #[true, true, true, true, true, false, false, false, false, false, false, false, false, false] rfl rfl rfl (by kernel_rfl) (by kernel_rfl) (by kernel_rfl) (fun _ _ _ h => h) (by decide) ?ry131 (fun _ => ⟨o6, d6, s6, cd⟩) ?rm131
            case ry131 => first | exact Or.inl ⟨by rfl, by intro w'; go_simp; first | done | rfl⟩
            case rm131 =>
            simp only [Act.put, List.setIfInBounds_toArray, List.set_cons_zero, List.set_cons_succ]
            refine anyT_take 5 83 ?rv132 #[true, true, true, true, true, true, false, false, false, false, false, false, false, false] rfl rfl rfl (by kernel_rfl) (by kernel_rfl) (by kernel_rfl) (fun _ _ _ h => h) (by kernel_rfl) (by decide) (by kernel_rfl) ?ry132 (⟨o6, d6, s6, cd⟩) ?rm132
            case ry132 => first | exact Or.inl ⟨by rfl, by intro w' hw'; (try dsimp only at hw'); go_simp; first | done | rfl⟩
            case rm132 =>
            simp only [Act.put, List.setIfInBounds_toArray, List.set_cons_zero, List.set_cons_succ]
            refine anyT_put 6 84 ?rv133 #[true, true, true, true, true, true, true, false, false, false, false, false, false, false] rfl rfl rfl (by kernel_rfl) (by kernel_rfl) (by kernel_rfl) (fun _ _ _ h => h) (by decide) ?ry133 (fun _ => ⟨o6, d6, s6, cd⟩) ?rm133
            case ry133 => first | exact Or.inl ⟨by rfl, by intro w'; go_simp; first | done | rfl⟩
            case rm133 =>
            simp only [Act.put, List.setIfInBounds_toArray, List.set_cons_zero, List.set_cons_succ]
            refine anyT_one 7 #[true, true, true, true, true, true, true, true, false, false, false, false, false, false] (by kernel_rfl) rfl rfl (fun K hK => ?_)
            go_simp
            go_wp2_with (go_at_call 16; refine (where_n (some ⟨bs, os, none⟩) sc sz (some ⟨bt, ot, none⟩) tc sz.length ts (insB_len HTi.out) P HPP.out h1 HK.out.1 HTi.out u.heap.size u.drew ((HI.out.1.below hBu2.out).mono hBu2.out.size) HUz.out.1).mono ?_; rintro e w3 ⟨rfl, rfl⟩)
            refine hK.out _ _ (fun _ => ⟨o6, d6, s6, cd⟩) ?_
            clear hK K
            refine anyT_put 8 86 ?rv135 #[true, true, true, true, true, true, true, true, true, false, false, false, false, false] rfl rfl rfl (by kernel_rfl) (by kernel_rfl) (by kernel_rfl) (fun _ _ _ h => h) (by decide) ?ry135 (fun _ => ⟨o6, d6, s6, cd⟩) ?rm135
            case ry135 => first | exact Or.inl ⟨by rfl, by intro w'; go_simp; first | done | rfl⟩
            case rm135 =>
            simp only [Act.put, List.setIfInBounds_toArray, List.set_cons_zero, List.set_cons_succ]
            refine anyT_take 9 87 ?rv136 #[true, true, true, true, true, true, true, true, true, true, false, false, false, false] rfl rfl rfl (by kernel_rfl) (by kernel_rfl) (by kernel_rfl) (fun _ _ _ h => h) (by kernel_rfl) (by decide) (by kernel_rfl) ?ry136 (⟨o6, d6, s6, cd⟩) ?rm136
            case ry136 => first | exact Or.inl ⟨by rfl, by intro w' hw'; (try dsimp only at hw'); go_simp; first | done | rfl⟩
            case rm136 =>
            simp only [Act.put, List.setIfInBounds_toArray, List.set_cons_zero, List.set_cons_succ]
            refine anyT_one 10 #[true, true, true, true, true, true, true, true, true, true, true, false, false, false] (by kernel_rfl) rfl rfl (fun K hK => ?_)
            go_simp
            have k0 := P6.al (.cells #[.int .i64 (nth dz P)] 3)
            have k1 := U6.al (.cells #[.int .i64 (nth dz P)] 3)
            have k2 : (u.alloc (.cells #[.int .i64 (nth dz P)] 3)).cell? ⟨bd, od + P, none⟩ = some (.int .i64 (nth dz P)) := (World.cell?_alloc_lt u _ ⟨bd, od + P, none⟩ (by have := hBu2.out.size; show bd < u.heap.size; omega)).trans cd
            refine hK.out _ _ (fun _ => ⟨k1.c2, k0.c2, k0.c1, k2⟩) ?_
            clear hK K
            refine anyT_one 11 #[true, true, true, true, true, true, true, true, true, true, true, true, false, false] (by kernel_rfl) rfl rfl (fun K hK => ?_)
            refine app_step 89 rfl rfl _ _ rfl _ v2.heap.size u.heap.size v (D.take k) (nth dz P) rfl rfl ((hown6.alloc _).drew) (heap_alloc_new u _) (by rw [take_lenR _ (by omega)]; omega) (by simp; omega) ?_
            intro g1 gc1 w4 hown1 hB4
            have P7 := k0.dr.bel hB4 (by omega)
            have HO1 : Hid (Abx w4 B (.bool c) (.slice g sz.length gc) v) := k1.dr.bel hB4 (by omega)
            have x2 := HO1.out.c2
            have xf := HO1.out.fr 2
            have xd : w4.cell? ⟨bd, od + P, none⟩ = some (.int .i64 (nth dz P)) := (hB4.cell (p := ⟨bd, od + P, none⟩) (by show bd < _; omega)).trans k2
            refine hK.out _ _ (fun _ => ⟨x2, P7.c2, P7.c1, xd⟩) ?_
            clear hK K
            simp only [Act.put, List.setIfInBounds_toArray, List.set_cons_zero, List.set_cons_succ]
            refine anyT_one 12 #[true, true, true, true, true, true, true, true, true, true, true, true, true, false] (by kernel_rfl) rfl rfl (fun K hK => ?_)
            go_simp
            refine hK.out _ _ (fun h => absurd h (by decide)) ?_
            clear hK K
            refine anyT_one 13 #[true, true, true, true, true, true, true, true, true, true, true, true, true, true] (by kernel_rfl) rfl rfl (fun K hK => ?_)
            go_simp
            refine hK.out _ _ (fun h => absurd h (by decide)) ?_
            clear hK K
            refine anyT_done (by kernel_rfl) ?_
            go_wp2_with fail
            rw [HV.out, ← take_snoc D k (by omega), take_lenR D (show k ≤ D.length by omega)] at hown1
            have hz4 := hB4.size
            simp at hz4
            refine ⟨⟨k + 1, .slice (some ⟨g1, 0, none⟩) (k + 1) gc1, by omega, by go_num, P7.ot (by show w.heap.size ≠ B; omega) _, ?_, HO1.out.s2 _, ?_, ?_, by simp [World.setCell]; omega, ?_⟩, by simp [intOf]; omega⟩
            · exact (((HQ.out.2.1.go HUz.out.2).al _).dr.bel hB4 (by omega)).ot (by show w.heap.size + 1 ≠ B; omega) _
            · rw [take_lenR D (show k + 1 ≤ D.length by omega)]
              exact ownsRow_setCell_below hown1 (by show B < v2.heap.size; omega) _
            · exact (((((HQ.out.2.2.2.1.bel (HUz.out.2.mono hsx)).al (by omega) _).dr).bel hB4)).set 2 _
            · exact (((hBu2.out.alloc hBu2.out.size _).drew.trans (hB4.mono (by omega)))).setCell (p := ⟨B, 2, none⟩) (by show w.heap.size ≤ B; omega) _
          · have HWv : Hid ((nth (cr sz k) xn + n) % nth sz xn = nth (cr sz k) xn + n.tmod (nth sz xn) - nth sz xn) := hwC hw1
            go_wp2_with fail
            refine anyT_begin 10 (fun w' => w'.cell? ⟨bt, ot + xn, none⟩ = some (.int .i64 (nth (cr sz k) xn))) 12 #[false, false, false, false, false, false, false, false, false, false, false, false] (by kernel_rfl) rfl rfl ?_
            refine anyT_put 0 42 ?rv141 #[true, false, false, false, false, false, false, false, false, false, false, false] rfl rfl rfl (by kernel_rfl) (by kernel_rfl) (by kernel_rfl) (fun _ _ _ h => h) (by decide) ?ry141 (fun _ => ct) ?rm141
            case ry141 => first | exact Or.inl ⟨by rfl, by intro w'; go_simp; first | done | rfl⟩
            case rm141 =>
            simp only [Act.put, List.setIfInBounds_toArray, List.set_cons_zero, List.set_cons_succ]
            refine anyT_put 1 43 ?rv142 #[true, true, false, false, false, false, false, false, false, false, false, false] rfl rfl rfl (by kernel_rfl) (by kernel_rfl) (by kernel_rfl) (fun _ _ _ h => h) (by decide) ?ry142 (fun _ => ct) ?rm142
            case ry142 => first | exact Or.inl ⟨by rfl, by intro w'; go_simp; first | done | rfl⟩
            case rm142 =>
            simp only [Act.put, List.setIfInBounds_toArray, List.set_cons_zero, List.set_cons_succ]
            refine anyT_put 2 44 ?rv143 #[true, true, true, false, false, false, false, false, false, false, false, false] rfl rfl rfl (by kernel_rfl) (by kernel_rfl) (by kernel_rfl) (fun _ _ _ h => h) (by decide) ?ry143 (fun _ => ct) ?rm143
            case ry143 => first | exact Or.inl ⟨by rfl, by intro w'; go_simp; first | done | rfl⟩
            case rm143 =>
            simp only [Act.put, List.setIfInBounds_toArray, List.set_cons_zero, List.set_cons_succ]
            refine anyT_put 3 45 ?rv144 #[true, true, true, true, false, false, false, false, false, false, false, false] rfl rfl rfl (by kernel_rfl) (by kernel_rfl) (by kernel_rfl) (fun _ _ _ h => h) (by decide) ?ry144 (fun _ => ct) ?rm144
            case ry144 => first | exact Or.inl ⟨by rfl, by intro w'; go_simp; first | done | rfl⟩
            case rm144 =>
            simp only [Act.put, List.setIfInBounds_toArray, List.set_cons_zero, List.set_cons_succ]
            refine anyT_put 4 46 ?rv145 #[true, true, true, true, true, false, false, false, false, false, false, false] rfl rfl rfl (by kernel_rfl) (by kernel_rfl) (by kernel_rfl) (fun _ _ _ h => h) (by decide) ?ry145 (fun _ => ct) ?rm145
            case ry145 => first | exact Or.inl ⟨by rfl, by intro w'; go_simp; first | done | rfl⟩
            case rm145 =>
            simp only [Act.put, List.setIfInBounds_toArray, List.set_cons_zero, List.set_cons_succ]
            refine anyT_take 5 47 ?rv146 #[true, true, true, true, true, true, false, false, false, false, false, false] rfl rfl rfl (by kernel_rfl) (by kernel_rfl) (by kernel_rfl) (fun _ _ _ h => h) (by kernel_rfl) (by decide) (by kernel_rfl) ?ry146 (ct) ?rm146
            case ry146 => first | exact Or.inl ⟨by rfl, by intro w' hw'; (try dsimp only at hw'); go_simp; first | done | rfl⟩
            case rm146 =>
            simp only [Act.put, List.setIfInBounds_toArray, List.set_cons_zero, List.set_cons_succ]
            refine anyT_put 6 48 ?rv147 #[true, true, true, true, true, true, true, false, false, false, false, false] rfl rfl rfl (by kernel_rfl) (by kernel_rfl) (by kernel_rfl) (fun _ _ _ h => h) (by decide) ?ry147 (fun _ => ct) ?rm147
            case ry147 => first | exact Or.inl ⟨by rfl, by intro w'; go_simp; first | done | rfl⟩
            case rm147 =>
            simp only [Act.put, List.setIfInBounds_toArray, List.set_cons_zero, List.set_cons_succ]
            refine anyT_put 7 49 ?rv148 #[true, true, true, true, true, true, true, true, false, false, false, false] rfl rfl rfl (by kernel_rfl) (by kernel_rfl) (by kernel_rfl) (fun _ _ _ h => h) (by decide) ?ry148 (fun _ => ct) ?rm148
            case ry148 => first | exact Or.inl ⟨by rfl, by intro w'; go_simp; first | done | rfl⟩
            case rm148 =>
            simp only [Act.put, List.setIfInBounds_toArray, List.set_cons_zero, List.set_cons_succ]
            refine anyT_put 8 50 ?rv149 #[true, true, true, true, true, true, true, true, true, false, false, false] rfl rfl rfl (by kernel_rfl) (by kernel_rfl) (by kernel_rfl) (fun _ _ _ h => h) (by decide) ?ry149 (fun _ => ct) ?rm149
            case ry149 => first | exact Or.inl ⟨by rfl, by intro w'; go_simp; first | done | rfl⟩
            case rm149 =>
            simp only [Act.put, List.setIfInBounds_toArray, List.set_cons_zero, List.set_cons_succ]
            refine anyT_put 9 51 ?rv150 #[true, true, true, true, true, true, true, true, true, true, false, false] rfl rfl rfl (by kernel_rfl) (by kernel_rfl) (by kernel_rfl) (fun _ _ _ h => h) (by decide) ?ry150 (fun _ => ct) ?rm150
            case ry150 => first | exact Or.inl ⟨by rfl, by intro w'; go_simp; first | done | rfl⟩
            case rm150 =>
            simp only [Act.put, List.setIfInBounds_toArray, List.set_cons_zero, List.set_cons_succ]
            refine anyT_one 10 #[true, true, true, true, true, true, true, true, true, true, true, false] (by kernel_rfl) rfl rfl (fun K hK => ?_)
            go_simp
            refine hK.out _ _ (fun h => absurd h (by decide)) ?_
            clear hK K
            refine anyT_one 11 #[true, true, true, true, true, true, true, true, true, true, true, true] (by kernel_rfl) rfl rfl (fun K hK => ?_)
            go_simp
            refine hK.out _ _ (fun h => absurd h (by decide)) ?_
            clear hK K
            refine anyT_done (by kernel_rfl) ?_
            rw [show IntKind.i64.wrap (nth (cr sz k) xn + n.tmod (nth sz xn)) = nth (cr sz k) xn + n.tmod (nth sz xn) from IntWalk.i64_in _ (by omega)]
            go_wp2_with fail
            obtain ⟨ts, hts⟩ : ∃ ts, ts = rotT sz n xn (cr sz k) := ⟨_, rfl⟩
            have HTi : Hid (insB sz ts = true) := by rw [hts]; exact rotT_in HC.out.1 hxl
            have HTs : Hid (ts = rotT sz n xn (cr sz k)) := hts
            have hU : IsInts w2.heap.size ((w2.setCell ⟨bt, ot + xn, none⟩ (.int .i64 (nth (cr sz k) xn + n.tmod (nth sz xn)))).setCell ⟨bt, ot + xn, none⟩ (.int .i64 (nth (cr sz k) xn + n.tmod (nth sz xn) - nth sz xn))).drew (some ⟨bt, ot, none⟩) ts := by rw [hts]; unfold rotT; rw [HWv.out]; exact put2_at HA.out (by rw [cr_length]; exact hxl) _ _
            have hBu : Below wr.heap.size wr ((w2.setCell ⟨bt, ot + xn, none⟩ (.int .i64 (nth (cr sz k) xn + n.tmod (nth sz xn)))).setCell ⟨bt, ot + xn, none⟩ (.int .i64 (nth (cr sz k) xn + n.tmod (nth sz xn) - nth sz xn))).drew := ((HB3.out.setCell (p := ⟨bt, ot + xn, none⟩) l0 _).setCell (p := ⟨bt, ot + xn, none⟩) l0 _).drew
            have hzu : ((w2.setCell ⟨bt, ot + xn, none⟩ (.int .i64 (nth (cr sz k) xn + n.tmod (nth sz xn)))).setCell ⟨bt, ot + xn, none⟩ (.int .i64 (nth (cr sz k) xn + n.tmod (nth sz xn) - nth sz xn))).drew.heap.size = w2.heap.size := by simp [World.setCell]
            obtain ⟨u, hu⟩ : ∃ u, u = ((w2.setCell ⟨bt, ot + xn, none⟩ (.int .i64 (nth (cr sz k) xn + n.tmod (nth sz xn)))).setCell ⟨bt, ot + xn, none⟩ (.int .i64 (nth (cr sz k) xn + n.tmod (nth sz xn) - nth sz xn))).drew := ⟨_, rfl⟩
            rw [← hu] at hU hBu hzu ⊢
            have HUz : Hid (IsInts u.heap.size u (some ⟨bt, ot, none⟩) ts ∧ Below wr.heap.size wr u) := ⟨by rw [hzu]; exact hU, hBu⟩
            clear hts hu hU hzu q1 cs ct fT P2 c3 f3 hwA hwB hwC
            have hl4 := HL.out.2
            have HPl : Hid (0 ≤ place sz ts ∧ place sz ts < dz.length) := by have := place_bd HTi.out; have h := (flawE_zero HF.out).2.1; exact ⟨this.1, by rw [h]; exact this.2⟩
            obtain ⟨P, hP⟩ : ∃ P : Nat, place sz ts = P := ⟨(place sz ts).toNat, by have := HPl.out.1; omega⟩
            have hPl : P < dz.length := by have := HPl.out.2; omega
            have HPP : Hid (place sz ts = P) := hP
            clear hP
            obtain ⟨bd, od, rfl, hbd, hcD⟩ := (HI.out.2.below (HQ.out.2.2.2.2.trans (HUz.out.2.mono HQ.out.2.2.2.2.size))).at hPl
            have cd := hcD P hPl
            clear hcD
            have HV : Hid (nth dz P = nth D k) := by show _ = _; rw [HD.out, GA_nth (by have h := (flawE_zero HF.out).2.1; omega), ← HTs.out, HPP.out, Int.toNat_natCast]
            have P6 := HQ.out.1.go HUz.out.2
            have U6 := HQ.out.2.2.1.go HUz.out.2
            have o6 := U6.c2
            have d6 := P6.c2
            have s6 := P6.c1
            have hown6 := own_go hown HUz.out.2
            have hsu : wr.heap.size ≤ u.heap.size := HUz.out.2.size
            have hkD : k ≤ D.length := by omega
            have hBu2 : Hid (Below w.heap.size w u) := HQ.out.2.2.2.2.trans (HUz.out.2.mono HQ.out.2.2.2.2.size)
            go_wp2_with fail
            refine anyT_begin 12 (fun w' => w'.cell? ⟨B, 2, none⟩ = some v ∧ w'.cell? ⟨w.heap.size, 2, none⟩ = some (.slice (some ⟨bd, od, none⟩) dz.length dc) ∧ w'.cell? ⟨w.heap.size, 1, none⟩ = some (.slice (some ⟨bs, os, none⟩) sz.length sc) ∧ w'.cell? ⟨bd, od + P, none⟩ = some (.int .i64 (nth dz P))) 14 #[false, false, false, false, false, false, false, false, false, false, false, false, false, false] (by kernel_rfl) rfl rfl ?_
            refine anyT_put 0 78 ?rv153 #[true, false, false, false, false, false, false, false, false, false, false, false, false, false] rfl rfl rfl (by kernel_rfl) (by kernel_rfl) (by kernel_rfl) (fun _ _ _ h => h) (by decide) ?ry153 (fun _ => ⟨o6, d6, s6, cd⟩) ?rm153
            case ry153 => first | exact Or.inl ⟨by rfl, by intro w'; go_simp; first | done | rfl⟩
            case rm153 =>
            simp only [Act.put, List.setIfInBounds_toArray, List.set_cons_zero, List.set_cons_succ]
            refine anyT_take 1 79 ?rv154 #[true, true, false, false, false, false, false, false, false, false, false, false, false, false] rfl rfl rfl (by kernel_rfl) (by kernel_rfl) (by kernel_rfl) (fun _ _ _ h => h) (by kernel_rfl) (by decide) (by kernel_rfl) ?ry154 (⟨o6, d6, s6, cd⟩) ?rm154
            case ry154 => first | exact Or.inl ⟨by rfl, by intro w' hw'; (try dsimp only at hw'); go_simp; first | done | rfl⟩
            case rm154 =>
            simp only [Act.put, List.setIfInBounds_toArray, List.set_cons_zero, List.set_cons_succ]
            refine anyT_put 2 80 ?rv155 #[true, true, true, false, false, false, false, false, false, false, false, false, false, false] rfl rfl rfl (by kernel_rfl) (by kernel_rfl) (by kernel_rfl) (fun _ _ _ h => h) (by decide) ?ry155 (fun _ => ⟨o6, d6, s6, cd⟩) ?rm155
            case ry155 => first | exact Or.inl ⟨by rfl, by intro w'; go_simp; first | done | rfl⟩
            case rm155 =>
            simp only [Act.put, List.setIfInBounds_toArray, List.set_cons_zero, List.set_cons_succ]
            refine anyT_take 3 81 ?rv156 #[true, true, true, true, false, false, false, false, false, false, false, false, false, false] rfl rfl rfl (by kernel_rfl) (by kernel_rfl) (by kernel_rfl) (fun _ _ _ h => h) (by kernel_rfl) (by decide) (by kernel_rfl) ?ry156 (⟨o6, d6, s6, cd⟩) ?rm156
            case ry156 => first | exact Or.inl ⟨by rfl, by intro w' hw'; (try dsimp only at hw'); go_simp; first | done | rfl⟩
            case rm156 =>
            simp only [Act.put, List.setIfInBounds_toArray, List.set_cons_zero, List.set_cons_succ]
            refine anyT_put 4 82 ?rv157 #[true, true, true, true, true, false, false, false, false, false, false, false, false, false] rfl rfl rfl (by kernel_rfl) (by kernel_rfl) (by kernel_rfl) (fun _ _ _ h => h) (by decide) ?ry157 (fun _ => ⟨o6, d6, s6, cd⟩) ?rm157
            case ry157 => first | exact Or.inl ⟨by rfl, by intro w'; go_simp; first | done | rfl⟩
            case rm157 =>
            simp only [Act.put, List.setIfInBounds_toArray, List.set_cons_zero, List.set_cons_succ]
            refine anyT_take 5 83 ?rv158 #[true, true, true, true, true, true, false, false, false, false, false, false, false, false] rfl rfl rfl (by kernel_rfl) (by kernel_rfl) (by kernel_rfl) (fun _ _ _ h => h) (by kernel_rfl) (by decide) (by kernel_rfl) ?ry158 (⟨o6, d6, s6, cd⟩) ?rm158
            case ry158 => first | exact Or.inl ⟨by rfl, by intro w' hw'; (try dsimp only at hw'); go_simp; first | done | rfl⟩
            case rm158 =>
            simp only [Act.put, List.setIfInBounds_toArray, List.set_cons_zero, List.set_cons_succ]
            refine anyT_put 6 84 ?rv159 #[true, true, true, true, true, true, true, false, false, false, false, false, false, false] rfl rfl rfl (by kernel_rfl) (by kernel_rfl) (by kernel_rfl) (fun _ _ _ h => h) (by decide) ?ry159 (fun _ => ⟨o6, d6, s6, cd⟩) ?rm159
            case ry159 => first | exact Or.inl ⟨by rfl, by intro w'; go_simp; first | done | rfl⟩
            case rm159 =>
            simp only [Act.put, List.setIfInBounds_toArray, List.set_cons_zero, List.set_cons_succ]
            refine anyT_one 7 #[true, true, true, true, true, true, true, true, false, false, false, false, false, false] (by kernel_rfl) rfl rfl (fun K hK => ?_)
            go_simp
            go_wp2_with (go_at_call 16; refine (where_n (some ⟨bs, os, none⟩) sc sz (some ⟨bt, ot, none⟩) tc sz.length ts (insB_len HTi.out) P HPP.out h1 HK.out.1 HTi.out u.heap.size u.drew ((HI.out.1.below hBu2.out).mono hBu2.out.size) HUz.out.1).mono ?_; rintro e w3 ⟨rfl, rfl⟩)
            refine hK.out _ _ (fun _ => ⟨o6, d6, s6, cd⟩) ?_
            clear hK K
            refine anyT_put 8 86 ?rv161 #[true, true, true, true, true, true, true, true, true, false, false, false, false, false] rfl rfl rfl (by kernel_rfl) (by kernel_rfl) (by kernel_rfl) (fun _ _ _ h => h) (by decide) ?ry161 (fun _ => ⟨o6, d6, s6, cd⟩) ?rm161
            case ry161 => first | exact Or.inl ⟨by rfl, by intro w'; go_simp; first | done | rfl⟩
            case rm161 =>
            simp only [Act.put, List.setIfInBounds_toArray, List.set_cons_zero, List.set_cons_succ]
            refine anyT_take 9 87 ?rv162 #[true, true, true, true, true, true, true, true, true, true, false, false, false, false] rfl rfl rfl (by kernel_rfl) (by kernel_rfl) (by kernel_rfl) (fun _ _ _ h => h) (by kernel_rfl) (by decide) (by kernel_rfl) ?ry162 (⟨o6, d6, s6, cd⟩) ?rm162
            case ry162 => first | exact Or.inl ⟨by rfl, by intro w' hw'; (try dsimp only at hw'); go_simp; first | done | rfl⟩
            case rm162 =>
            simp only [Act.put, List.setIfInBounds_toArray, List.set_cons_zero, List.set_cons_succ]
            refine anyT_one 10 #[true, true, true, true, true, true, true, true, true, true, true, false, false, false] (by kernel_rfl) rfl rfl (fun K hK => ?_)
            go_simp
            have k0 := P6.al (.cells #[.int .i64 (nth dz P)] 3)
            have k1 := U6.al (.cells #[.int .i64 (nth dz P)] 3)
            have k2 : (u.alloc (.cells #[.int .i64 (nth dz P)] 3)).cell? ⟨bd, od + P, none⟩ = some (.int .i64 (nth dz P)) := (World.cell?_alloc_lt u _ ⟨bd, od + P, none⟩ (by have := hBu2.out.size; show bd < u.heap.size; omega)).trans cd
            refine hK.out _ _ (fun _ => ⟨k1.c2, k0.c2, k0.c1, k2⟩) ?_
            clear hK K
            refine anyT_one 11 #[true, true, true, true, true, true, true, true, true, true, true, true, false, false] (by kernel_rfl) rfl rfl (fun K hK => ?_)
            refine app_step 89 rfl rfl _ _ rfl _ v2.heap.size u.heap.size v (D.take k) (nth dz P) rfl rfl ((hown6.alloc _).drew) (heap_alloc_new u _) (by rw [take_lenR _ (by omega)]; omega) (by simp; omega) ?_
            intro g1 gc1 w4 hown1 hB4
            have P7 := k0.dr.bel hB4 (by omega)
            have HO1 : Hid (Abx w4 B (.bool c) (.slice g sz.length gc) v) := k1.dr.bel hB4 (by omega)
            have x2 := HO1.out.c2
            have xf := HO1.out.fr 2
            have xd : w4.cell? ⟨bd, od + P, none⟩ = some (.int .i64 (nth dz P)) := (hB4.cell (p := ⟨bd, od + P, none⟩) (by show bd < _; omega)).trans k2
            refine hK.out _ _ (fun _ => ⟨x2, P7.c2, P7.c1, xd⟩) ?_
            clear hK K
            simp only [Act.put, List.setIfInBounds_toArray, List.set_cons_zero, List.set_cons_succ]
            refine anyT_one 12 #[true, true, true, true, true, true, true, true, true, true, true, true, true, false] (by kernel_rfl) rfl rfl (fun K hK => ?_)
            go_simp
            refine hK.out _ _ (fun h => absurd h (by decide)) ?_
            clear hK K
            refine anyT_one 13 #[true, true, true, true, true, true, true, true, true, true, true, true, true, true] (by kernel_rfl) rfl rfl (fun K hK => ?_)
            go_simp
            refine hK.out _ _ (fun h => absurd h (by decide)) ?_
            clear hK K
            refine anyT_done (by kernel_rfl) ?_
            go_wp2_with fail
            rw [HV.out, ← take_snoc D k (by omega), take_lenR D (show k ≤ D.length by omega)] at hown1
            have hz4 := hB4.size
            simp at hz4
            refine ⟨⟨k + 1, .slice (some ⟨g1, 0, none⟩) (k + 1) gc1, by omega, by go_num, P7.ot (by show w.heap.size ≠ B; omega) _, ?_, HO1.out.s2 _, ?_, ?_, by simp [World.setCell]; omega, ?_⟩, by simp [intOf]; omega⟩
            · exact (((HQ.out.2.1.go HUz.out.2).al _).dr.bel hB4 (by omega)).ot (by show w.heap.size + 1 ≠ B; omega) _
            · rw [take_lenR D (show k + 1 ≤ D.length by omega)]
              exact ownsRow_setCell_below hown1 (by show B < v2.heap.size; omega) _
            · exact (((((HQ.out.2.2.2.1.bel (HUz.out.2.mono hsx)).al (by omega) _).dr).bel hB4)).set 2 _
            · exact (((hBu2.out.alloc hBu2.out.size _).drew.trans (hB4.mono (by omega)))).setCell (p := ⟨B, 2, none⟩) (by show w.heap.size ≤ B; omega) _
        · obtain rfl : k = dz.length := by omega
          rw [List.take_of_length_le (by omega)] at hown
          obtain ⟨g1, gc1, rfl, hN1⟩ := owns_new hown
          have o0 := hU.c0
          have o1 := hU.c1
          have r_0 := hR.c0
          have r_1 := hR.c1
          have r_2 := hR.c2
          have f_0 := hR.fr 0
          have f_1 := hR.fr 1
          have f_2 := hR.fr 2
          clear hown hlt
          go_wp2_with fail
          have FF := hR.set3 (.bool c) (.slice g sz.length gc) (.slice g1 D.length gc1)
          have q0 := FF.c0
          have q1 := FF.c1
          have q2 := FF.c2
          refine bodyPost_ret (v := .tuple #[.agg #[.bool c, .slice g sz.length gc, .slice g1 D.length gc1], .int .i64 0]) (by simp [results, Tryd.results9, go_sem, q0, q1, q2]) rfl ?_
          have hX := ((hS.new hsx).set3 (b := w.heap.size + 1) (by have := HR.out.lt; omega) (.bool c) (.slice g sz.length gc) (.slice g1 D.length gc1)).low (lo' := w.heap.size) (by omega)
          have hY := (hN1.set3 (b := w.heap.size + 1) (by omega) (.bool c) (.slice g sz.length gc) (.slice g1 D.length gc1)).low (lo' := w.heap.size) (by omega)
          have hZ := bel_set3 hBx (b := w.heap.size + 1) (by omega) (.bool c) (.slice g sz.length gc) (.slice g1 D.length gc1)
          obtain rfl := HD.out; exact UR.ok HE.out hX hY hZ
  · have t0 : (axE x c sz dz != 0) = true := by simpa using he
    have HE : Hid (axE x c sz dz ≠ 0) := he
    clear he
    have r_0 := HR.out.c0
    have r_1 := HR.out.c1
    have r_2 := HR.out.c2
    have f_0 := HR.out.fr 0
    have f_1 := HR.out.fr 1
    have f_2 := HR.out.fr 2
    go_wp2_with fail
    have FF := HR.out.set3 (.bool false) (.slice none 0 0) (.slice none 0 0)
    have q0 := FF.c0
    have q1 := FF.c1
    have q2 := FF.c2
    exact bodyPost_ret (v := .tuple #[.agg #[.bool false, .slice none 0 0, .slice none 0 0], .int .i64 (axE x c sz dz)]) (by simp [results, Tryd.results9, go_sem, q0, q1, q2]) rfl (UR.no rfl HE.out (bel_set3 hb.out (by omega) _ _ _))
end Go.Proofs.YtaahndglgjhneaaDoor
