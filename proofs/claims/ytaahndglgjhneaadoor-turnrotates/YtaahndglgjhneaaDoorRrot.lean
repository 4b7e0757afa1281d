/-
  What the reference tells of an array moved round.
-/
import Derived.Test.YtaahndglgjhneaaDoorRmove
namespace Go.Proofs.YtaahndglgjhneaaDoor
open Go.RowKit
set_option linter.unusedVariables false

theorem rotV {y n L : Int} (h0 : 0 ≤ y) (h1 : y < L) : (-L < n.tmod L ∧ n.tmod L < L) ∧ (y + n.tmod L < 0 → (y + n) % L = y + n.tmod L + L) ∧ (0 ≤ y + n.tmod L → y + n.tmod L < L → (y + n) % L = y + n.tmod L) ∧ (L ≤ y + n.tmod L → (y + n) % L = y + n.tmod L - L) := by
  have b1 : -L < n.tmod L := Int.lt_tmod_of_pos n (by omega)
  have b2 : n.tmod L < L := Int.tmod_lt_of_pos n (by omega)
  have e := Int.mul_tdiv_add_tmod n L
  generalize n.tdiv L = q at e
  generalize n.tmod L = r at e b1 b2 ⊢
  refine ⟨⟨b1, b2⟩, fun h => ?_, fun h h' => ?_, fun h => ?_⟩
  · exact emod_is (by omega) (by omega) (q - 1) (by rw [Int.mul_sub, Int.mul_one]; omega)
  · exact emod_is (by omega) (by omega) q (by omega)
  · exact emod_is (by omega) (by omega) (q + 1) (by rw [Int.mul_add, Int.mul_one]; omega)
theorem put2_at {lo : Nat} {W : World} {b off : Nat} {zs : List Int} (h : NewInts lo W (some ⟨b, off, none⟩) zs) {i : Nat} (hi : i < zs.length) (x y : Int) : IsInts W.heap.size ((W.setCell ⟨b, off + i, none⟩ (.int .i64 x)).setCell ⟨b, off + i, none⟩ (.int .i64 y)) (some ⟨b, off, none⟩) (zs.set i y) := by
  have := ((h.mid.put hi x).put (i := i) (by rw [List.length_set]; exact hi) y).ints
  rwa [List.set_set] at this
set_option maxRecDepth 100000 in
set_option maxHeartbeats 20000000 in
theorem rotated_any (n x : Int) (c : Bool) (sa : Option Addr) (sc : Nat) (sz : List Int) (da : Option Addr) (dc : Nat) (dz : List Int) (h1 : sz.length ≤ 9223372036854775807) (h2 : dz.length ≤ 9223372036854775807) (w : World) (hs : IsInts w.heap.size w sa sz) (hd : IsInts w.heap.size w da dz) :
    Calls Tryd.prog 9 #[.int .i64 n, .int .i64 x, .agg #[.bool c, .slice sa sz.length sc, .slice da dz.length dc]] w (UR (axE x c sz dz) (onc (axE x c sz dz) c) (axS5 x c sz dz) (rtD5 x n c sz dz) w) := by
  have HI : Hid (IsInts w.heap.size w sa sz ∧ IsInts w.heap.size w da dz) := ⟨hs, hd⟩
  clear hs hd
  have hb : Hid (Below w.heap.size w ((w.alloc (.cells #[.bool c, .slice sa sz.length sc, .slice da dz.length dc] 24)).alloc (.cells #[.bool false, .slice none 0 0, .slice none 0 0] 24))) := ((Below.refl _ w).alloc (Nat.le_refl _) _).alloc (by simp) _
  have pa := (Abx.new w (.bool c) (.slice sa sz.length sc) (.slice da dz.length dc)).al (.cells #[.bool false, .slice none 0 0, .slice none 0 0] 24)
  have pr := Abx.new1 w (.cells #[.bool c, .slice sa sz.length sc, .slice da dz.length dc] 24) (.bool false) (.slice none 0 0) (.slice none 0 0)
  go_enter Tryd.func9, Tryd.ntmps9
  go_wp2_with fail
  refine (axis_any x c sa sc sz da dc dz h1 h2 _ ((HI.out.1.below hb.out).mono hb.out.size) ((HI.out.2.below hb.out).mono hb.out.size)).mono ?_
  rintro e v1 ⟨rfl, hB⟩
  replace hb : Hid (Below w.heap.size w v1) := hb.out.trans (hB.mono hb.out.size)
  have HP : Hid (Abx v1 w.heap.size (.bool c) (.slice sa sz.length sc) (.slice da dz.length dc)) := pa.go hB
  have HR : Hid (Abx v1 (w.heap.size + 1) (.bool false) (.slice none 0 0) (.slice none 0 0)) := pr.go hB
  clear hB pa pr
  by_cases he : axE x c sz dz = 0
  · rw [he]
    have HE : Hid (axE x c sz dz = 0) := he
    have HF : Hid (flawE c sz dz = 0) := (axE_zero.1 he).1
    have HL : Hid (sz.length ≤ 6 ∧ dz.length ≤ 4096) := flawE_short HF.out
    obtain ⟨xn, hxn⟩ : ∃ xn : Nat, (xn : Int) = x := ⟨x.toNat, by have := (axE_zero.1 he).2.1; omega⟩
    have hxl : xn < sz.length := by have := (axE_zero.1 he).2.2; omega
    subst hxn
    clear he
    have p0 := HP.out.c0
    have p1 := HP.out.c1
    go_upto_region 4 with fail
    go_cut [9] (fun s7 wc => ∃ B g gc, s7 = .pointer (some ⟨B, 0, none⟩) ∧ Out5 v1 B c g gc sz wc)
    case first =>
      have hbW : Hid (Below v1.heap.size v1 v1.drew) := (Below.refl _ v1).drew
      refine anyT_begin 7 (fun w' => w'.cell? ⟨w.heap.size, 0, none⟩ = some (.bool c) ∧ w'.cell? ⟨w.heap.size, 1, none⟩ = some (.slice sa sz.length sc)) 8 #[false, false, false, false, false, false, false, false] (by kernel_rfl) rfl rfl ?_
      refine anyT_put 0 20 ?rv40 #[true, false, false, false, false, false, false, false] rfl rfl rfl (by kernel_rfl) (by kernel_rfl) (by kernel_rfl) (fun _ _ _ h => h) (by decide) ?ry40 (fun _ => ⟨p0, p1⟩) ?rm40
      case ry40 => first | exact Or.inl ⟨by rfl, by intro w'; go_simp; first | done | rfl⟩
      case rm40 =>
      simp only [Act.put, List.setIfInBounds_toArray, List.set_cons_zero, List.set_cons_succ]
      refine anyT_take 1 21 ?rv41 #[true, true, false, false, false, false, false, false] rfl rfl rfl (by kernel_rfl) (by kernel_rfl) (by kernel_rfl) (fun _ _ _ h => h) (by kernel_rfl) (by decide) (by kernel_rfl) ?ry41 (⟨p0, p1⟩) ?rm41
      case ry41 => first | exact Or.inl ⟨by rfl, by intro w' hw'; (try dsimp only at hw'); go_simp; first | done | rfl⟩
      case rm41 =>
      simp only [Act.put, List.setIfInBounds_toArray, List.set_cons_zero, List.set_cons_succ]
      refine anyT_put 2 22 ?rv42 #[true, true, true, false, false, false, false, false] rfl rfl rfl (by kernel_rfl) (by kernel_rfl) (by kernel_rfl) (fun _ _ _ h => h) (by decide) ?ry42 (fun _ => ⟨p0, p1⟩) ?rm42
      case ry42 => first | exact Or.inl ⟨by rfl, by intro w'; go_simp; first | done | rfl⟩
      case rm42 =>
      simp only [Act.put, List.setIfInBounds_toArray, List.set_cons_zero, List.set_cons_succ]
      refine anyT_take 3 23 ?rv43 #[true, true, true, true, false, false, false, false] rfl rfl rfl (by kernel_rfl) (by kernel_rfl) (by kernel_rfl) (fun _ _ _ h => h) (by kernel_rfl) (by decide) (by kernel_rfl) ?ry43 (⟨p0, p1⟩) ?rm43
      case ry43 => first | exact Or.inl ⟨by rfl, by intro w' hw'; (try dsimp only at hw'); go_simp; first | done | rfl⟩
      case rm43 =>
      simp only [Act.put, List.setIfInBounds_toArray, List.set_cons_zero, List.set_cons_succ]
      refine anyT_br2 4 6 #[true, true, true, true, true, false, false, false] #[true, true, true, true, false, false, true, false] (by kernel_rfl) rfl rfl rfl rfl (fun K hK => ?ba44) (fun K hK => ?bb44)
      case ba44 =>
        go_simp
        go_wp2_with (go_at_call 14; refine (copied_any sa sc sz (by have := HL.out.1; omega) (v1.drew) ((HI.out.1.below (hb.out.trans (hbW.out.mono hb.out.size))).mono (Nat.le_trans hb.out.size hbW.out.size))).mono ?_; rintro e w2 ⟨g, gc, rfl, hG, hBc⟩)
        have hbWa : Hid (Below v1.heap.size v1 w2) := hbW.out.trans (hBc.mono hbW.out.size)
        have pc := HP.out.go hbWa.out
        try (have rB : Abx w2 v1.heap.size (.bool false) (.slice none 0 0) (.slice none 0 0) := RB.out.go hBc)
        try (have r0 := rB.c0)
        try (have r1 := rB.c1)
        try (have r2 := rB.c2)
        try (have f0 := rB.fr 0)
        try (have f1 := rB.fr 1)
        try (have f2 := rB.fr 2)
        refine hK.out _ _ (fun _ => ⟨pc.c0, pc.c1⟩) ?_
        clear hK K
        refine anyT_put 5 25 ?rv45 #[true, true, true, true, true, true, false, false] rfl rfl rfl (by kernel_rfl) (by kernel_rfl) (by kernel_rfl) (fun _ _ _ h => h) (by decide) ?ry45 (fun _ => ⟨pc.c0, pc.c1⟩) ?rm45
        case ry45 => first | exact Or.inl ⟨by rfl, by intro w'; go_simp; first | done | rfl⟩
        case rm45 =>
        simp only [Act.put, List.setIfInBounds_toArray, List.set_cons_zero, List.set_cons_succ]
        refine anyT_one 6 #[true, true, true, true, true, true, true, false] (by kernel_rfl) rfl rfl (fun K hK => ?_)
        go_simp
        have hbWab : Hid (Below v1.heap.size v1 (w2.alloc (.cells #[.bool false, .slice none 0 0, .slice none 0 0] 24))) := hbWa.out.alloc hbWa.out.size _
        have pda := HP.out.go hbWab.out
        have RB : Hid (Abx (w2.alloc (.cells #[.bool false, .slice none 0 0, .slice none 0 0] 24)) w2.heap.size (.bool false) (.slice none 0 0) (.slice none 0 0)) := Abx.new _ _ _ _
        refine hK.out _ _ (fun _ => ⟨pda.c0, pda.c1⟩) ?_
        clear hK K
        refine anyT_one 7 #[true, true, true, true, true, true, true, true] (by kernel_rfl) rfl rfl (fun K hK => ?_)
        go_simp
        refine hK.out _ _ (fun h => absurd h (by decide)) ?_
        clear hK K
        refine anyT_done (by kernel_rfl) ?_
        go_wp2_with fail
        go_meet
        first | exact ⟨_, g, gc, rfl, out_a hG hbWa.out⟩ | exact ⟨_, g, gc, rfl, out_b (by have h := hG; rw [World.size_alloc] at h; exact h) rB hbWba.out⟩
      case bb44 =>
        go_simp
        have hbWb : Hid (Below v1.heap.size v1 ((v1.drew).alloc (.cells #[.bool false, .slice none 0 0, .slice none 0 0] 24))) := hbW.out.alloc hbW.out.size _
        have pd := HP.out.go hbWb.out
        have RB : Hid (Abx ((v1.drew).alloc (.cells #[.bool false, .slice none 0 0, .slice none 0 0] 24)) (v1.drew).heap.size (.bool false) (.slice none 0 0) (.slice none 0 0)) := Abx.new _ _ _ _
        refine hK.out _ _ (fun _ => ⟨pd.c0, pd.c1⟩) ?_
        clear hK K
        refine anyT_one 4 #[true, true, true, true, true, false, true, false] (by kernel_rfl) rfl rfl (fun K hK => ?_)
        go_simp
        go_wp2_with (go_at_call 14; refine (copied_any sa sc sz (by have := HL.out.1; omega) ((v1.drew).alloc (.cells #[.bool false, .slice none 0 0, .slice none 0 0] 24)) ((HI.out.1.below (hb.out.trans (hbWb.out.mono hb.out.size))).mono (Nat.le_trans hb.out.size hbWb.out.size))).mono ?_; rintro e w2 ⟨g, gc, rfl, hG, hBc⟩)
        have hbWba : Hid (Below v1.heap.size v1 w2) := hbWb.out.trans (hBc.mono hbWb.out.size)
        have pcb := HP.out.go hbWba.out
        try (have rB : Abx w2 v1.heap.size (.bool false) (.slice none 0 0) (.slice none 0 0) := RB.out.go hBc)
        try (have r0 := rB.c0)
        try (have r1 := rB.c1)
        try (have r2 := rB.c2)
        try (have f0 := rB.fr 0)
        try (have f1 := rB.fr 1)
        try (have f2 := rB.fr 2)
        refine hK.out _ _ (fun _ => ⟨pcb.c0, pcb.c1⟩) ?_
        clear hK K
        refine anyT_put 5 25 ?rv49 #[true, true, true, true, true, true, true, false] rfl rfl rfl (by kernel_rfl) (by kernel_rfl) (by kernel_rfl) (fun _ _ _ h => h) (by decide) ?ry49 (fun _ => ⟨pcb.c0, pcb.c1⟩) ?rm49
        case ry49 => first | exact Or.inl ⟨by rfl, by intro w'; go_simp; first | done | rfl⟩
        case rm49 =>
        simp only [Act.put, List.setIfInBounds_toArray, List.set_cons_zero, List.set_cons_succ]
        refine anyT_one 7 #[true, true, true, true, true, true, true, true] (by kernel_rfl) rfl rfl (fun K hK => ?_)
        go_simp
        refine hK.out _ _ (fun h => absurd h (by decide)) ?_
        clear hK K
        refine anyT_done (by kernel_rfl) ?_
        go_wp2_with fail
        go_meet
        first | exact ⟨_, g, gc, rfl, out_a hG hbWa.out⟩ | exact ⟨_, g, gc, rfl, out_b (by have h := hG; rw [World.size_alloc] at h; exact h) rB hbWba.out⟩
    case rest =>
      obtain ⟨B, g, gc, rfl, hO⟩ := hcut
      obtain ⟨v2, hv2⟩ : ∃ v2, v2 = wc := ⟨_, rfl⟩
      subst hv2
      have hb2 : Hid (Below w.heap.size w v2) := hb.out.trans (hO.2.2.2.mono hb.out.size)
      have HO : Hid (Abx v2 w.heap.size (.bool c) (.slice sa sz.length sc) (.slice da dz.length dc) ∧ Abx v2 (w.heap.size + 1) (.bool false) (.slice none 0 0) (.slice none 0 0) ∧ Abx v2 B (.bool c) (.slice g sz.length gc) (.slice none 0 0) ∧ SepInts v1.heap.size v2.heap.size B v2 g sz) := ⟨HP.out.go hO.2.2.2, HR.out.go hO.2.2.2, hO.2.1, hO.2.2.1⟩
      have hBl : w.heap.size + 1 < B := by have := hO.1; have := HR.out.lt; omega
      have hB2 : B < v2.heap.size := hO.2.1.lt
      have hv12 : v1.heap.size ≤ v2.heap.size := hO.2.2.2.size
      have hbv : w.heap.size ≤ v1.heap.size := hb.out.size
      obtain ⟨D, hD⟩ : ∃ D, D = GA sz dz sz (rotT sz n xn) := ⟨_, rfl⟩
      have HD : Hid (D = GA sz dz sz (rotT sz n xn)) := hD
      have hD1 : D.length ≤ dz.length := by have := (flawE_zero HF.out).2.1; rw [hD, GA_length]; omega
      have hD2 : dz.length ≤ D.length := by have := (flawE_zero HF.out).2.1; rw [hD, GA_length]; omega
      clear hO hD p0 p1
      go_wp2_with fail
      go_loopw [10] (fun i wx => ∃ (k : Nat) (v : Value), k ≤ dz.length ∧ i = .int .i64 k ∧ Abx wx w.heap.size (.bool c) (.slice sa sz.length sc) (.slice da dz.length dc) ∧ Abx wx (w.heap.size + 1) (.bool false) (.slice none 0 0) (.slice none 0 0) ∧ Abx wx B (.bool c) (.slice g sz.length gc) v
          ∧ wx.ownsRow v2.heap.size 3 1 v (D.take k).length ((D.take k).map (Value.int .i64)) ∧ SepInts v1.heap.size v2.heap.size B wx g sz ∧ v2.heap.size ≤ wx.heap.size ∧ Below w.heap.size w wx) (fun i _ => dz.length - (intOf i).toNat)
      case atStart => exact ⟨0, .slice none 0 0, Nat.zero_le _, rfl, HO.out.1, HO.out.2.1, HO.out.2.2.1, World.ownsRow_nil _ _ _ _, HO.out.2.2.2, Nat.le_refl _, hb2.out⟩
      case round =>
        obtain ⟨k, v, hk, rfl, hP, hR, hU, hown, hS, hsx, hBx⟩ := hrel
        have b1 := hP.c1
        have b2 := hP.c2
        have o2 := hU.c2
        have of2 := hU.fr 2
        by_cases hlt : k < dz.length
        · have HF0 := flawE_zero HF.out
          have HK : Hid (errOf sz = 0 ∧ (k : Int) < prod sz) := ⟨HF0.1, by have := HF0.2.1; omega⟩
          clear HF0
          have HQ : Hid (Abx wr w.heap.size (.bool c) (.slice sa sz.length sc) (.slice da dz.length dc) ∧ Abx wr (w.heap.size + 1) (.bool false) (.slice none 0 0) (.slice none 0 0) ∧ Abx wr B (.bool c) (.slice g sz.length gc) v ∧ SepInts v1.heap.size v2.heap.size B wr g sz ∧ Below w.heap.size w wr) := ⟨hP, hR, hU, hS, hBx⟩
          clear hP hR hU hS
          go_wp2_with fail
          refine (coords_new sa sc sz k HK.out.1 HK.out.2 wr ((HI.out.1.below HQ.out.2.2.2.2).mono HQ.out.2.2.2.2.size)).mono ?_
          rintro e w2 ⟨ta, tc, rfl, hA, hB3⟩
          rw [cr_length]
          have hcin := cr_fact HK.out.1 HK.out.2
          rcases hA with hA | ⟨bt, ot, rfl, l0, hbt, hcT, hfT⟩
          · have := cr_length sz k; rw [hA] at this; simp at this; omega
          have ct := hcT xn (by rw [cr_length]; exact hxl)
          have fT := hfT xn
          have HA : Hid (NewInts wr.heap.size w2 (some ⟨bt, ot, none⟩) (cr sz k)) := .inr ⟨bt, ot, rfl, l0, hbt, hcT, hfT⟩
          have HB3 : Hid (Below wr.heap.size wr w2) := hB3
          have HBw : Hid (Below w.heap.size w w2) := HQ.out.2.2.2.2.trans (hB3.mono HQ.out.2.2.2.2.size)
          obtain ⟨bs, os, rfl, hbs, hcS⟩ := (HI.out.1.below HBw.out).at hxl
          have cs := hcS xn hxl
          have hxi := ins_at hcin.1 hxl
          have hx4 := ((errOf_zero.1 HK.out.1).2.1.nth xn).2
          obtain ⟨hx0, hx1⟩ := hxi
          have HC : Hid (insB sz (cr sz k) = true ∧ place sz (cr sz k) = k) := hcin
          have P2 := HQ.out.1.go hB3
          have q1 := P2.c1
          clear hcT hfT hB3 hcS hcin b1 b2 o2 of2
          have hrv := rotV (n := n) hx0 hx1
          obtain ⟨⟨hr0, hr1⟩, hwA, hwB, hwC⟩ := hrv
          have hLz : nth sz xn ≠ 0 := by omega
          have c3 : (w2.setCell ⟨bt, ot + xn, none⟩ (.int .i64 (nth (cr sz k) xn + n.tmod (nth sz xn)))).drew.cell? ⟨bt, ot + xn, none⟩ = some (.int .i64 (nth (cr sz k) xn + n.tmod (nth sz xn))) := World.cell?_setCell_same' _ _ _ (by rw [ct]; rfl)
          have f3 : (w2.setCell ⟨bt, ot + xn, none⟩ (.int .i64 (nth (cr sz k) xn + n.tmod (nth sz xn)))).drew.frozen? ⟨bt, ot + xn, none⟩ = false := (World.frozen?_setCell ..).trans fT
          rcases (by omega : nth (cr sz k) xn + n.tmod (nth sz xn) < 0 ∨ (0 ≤ nth (cr sz k) xn + n.tmod (nth sz xn) ∧ nth (cr sz k) xn + n.tmod (nth sz xn) < nth sz xn) ∨ nth sz xn ≤ nth (cr sz k) xn + n.tmod (nth sz xn)) with hw1 | ⟨hw1, hw2⟩ | hw1
          · have HWv : Hid ((nth (cr sz k) xn + n) % nth sz xn = nth (cr sz k) xn + n.tmod (nth sz xn) + nth sz xn) := hwA hw1
            go_wp2_with fail
            refine anyT_begin 10 (fun w' => w'.cell? ⟨bt, ot + xn, none⟩ = some (.int .i64 (nth (cr sz k) xn))) 12 #[false, false, false, false, false, false, false, false, false, false, false, false] (by kernel_rfl) rfl rfl ?_
            refine anyT_put 0 42 ?rv51 #[true, false, false, false, false, false, false, false, false, false, false, false] rfl rfl rfl (by kernel_rfl) (by kernel_rfl) (by kernel_rfl) (fun _ _ _ h => h) (by decide) ?ry51 (fun _ => ct) ?rm51
            case ry51 => first | exact Or.inl ⟨by rfl, by intro w'; go_simp; first | done | rfl⟩
            case rm51 =>
            simp only [Act.put, List.setIfInBounds_toArray, List.set_cons_zero, List.set_cons_succ]
            refine anyT_put 1 43 ?rv52 #[true, true, false, false, false, false, false, false, false, false, false, false] rfl rfl rfl (by kernel_rfl) (by kernel_rfl) (by kernel_rfl) (fun _ _ _ h => h) (by decide) ?ry52 (fun _ => ct) ?rm52
            case ry52 => first | exact Or.inl ⟨by rfl, by intro w'; go_simp; first | done | rfl⟩
            case rm52 =>
            simp only [Act.put, List.setIfInBounds_toArray, List.set_cons_zero, List.set_cons_succ]
            refine anyT_put 2 44 ?rv53 #[true, true, true, false, false, false, false, false, false, false, false, false] rfl rfl rfl (by kernel_rfl) (by kernel_rfl) (by kernel_rfl) (fun _ _ _ h => h) (by decide) ?ry53 (fun _ => ct) ?rm53
            case ry53 => first | exact Or.inl ⟨by rfl, by intro w'; go_simp; first | done | rfl⟩
            case rm53 =>
            simp only [Act.put, List.setIfInBounds_toArray, List.set_cons_zero, List.set_cons_succ]
            refine anyT_put 3 45 ?rv54 #[true, true, true, true, false, false, false, false, false, false, false, false] rfl rfl rfl (by kernel_rfl) (by kernel_rfl) (by kernel_rfl) (fun _ _ _ h => h) (by decide) ?ry54 (fun _ => ct) ?rm54
            case ry54 => first | exact Or.inl ⟨by rfl, by intro w'; go_simp; first | done | rfl⟩
            case rm54 =>
            simp only [Act.put, List.setIfInBounds_toArray, List.set_cons_zero, List.set_cons_succ]
            refine anyT_put 4 46 ?rv55 #[true, true, true, true, true, false, false, false, false, false, false, false] rfl rfl rfl (by kernel_rfl) (by kernel_rfl) (by kernel_rfl) (fun _ _ _ h => h) (by decide) ?ry55 (fun _ => ct) ?rm55
            case ry55 => first | exact Or.inl ⟨by rfl, by intro w'; go_simp; first | done | rfl⟩
            case rm55 =>
            simp only [Act.put, List.setIfInBounds_toArray, List.set_cons_zero, List.set_cons_succ]
            refine anyT_take 5 47 ?rv56 #[true, true, true, true, true, true, false, false, false, false, false, false] rfl rfl rfl (by kernel_rfl) (by kernel_rfl) (by kernel_rfl) (fun _ _ _ h => h) (by kernel_rfl) (by decide) (by kernel_rfl) ?ry56 (ct) ?rm56
            case ry56 => first | exact Or.inl ⟨by rfl, by intro w' hw'; (try dsimp only at hw'); go_simp; first | done | rfl⟩
            case rm56 =>
            simp only [Act.put, List.setIfInBounds_toArray, List.set_cons_zero, List.set_cons_succ]
            refine anyT_put 6 48 ?rv57 #[true, true, true, true, true, true, true, false, false, false, false, false] rfl rfl rfl (by kernel_rfl) (by kernel_rfl) (by kernel_rfl) (fun _ _ _ h => h) (by decide) ?ry57 (fun _ => ct) ?rm57
            case ry57 => first | exact Or.inl ⟨by rfl, by intro w'; go_simp; first | done | rfl⟩
            case rm57 =>
            simp only [Act.put, List.setIfInBounds_toArray, List.set_cons_zero, List.set_cons_succ]
            refine anyT_put 7 49 ?rv58 #[true, true, true, true, true, true, true, true, false, false, false, false] rfl rfl rfl (by kernel_rfl) (by kernel_rfl) (by kernel_rfl) (fun _ _ _ h => h) (by decide) ?ry58 (fun _ => ct) ?rm58
            case ry58 => first | exact Or.inl ⟨by rfl, by intro w'; go_simp; first | done | rfl⟩
            case rm58 =>
            simp only [Act.put, List.setIfInBounds_toArray, List.set_cons_zero, List.set_cons_succ]
            refine anyT_put 8 50 ?rv59 #[true, true, true, true, true, true, true, true, true, false, false, false] rfl rfl rfl (by kernel_rfl) (by kernel_rfl) (by kernel_rfl) (fun _ _ _ h => h) (by decide) ?ry59 (fun _ => ct) ?rm59
            case ry59 => first | exact Or.inl ⟨by rfl, by intro w'; go_simp; first | done | rfl⟩
            case rm59 =>
            simp only [Act.put, List.setIfInBounds_toArray, List.set_cons_zero, List.set_cons_succ]
            refine anyT_put 9 51 ?rv60 #[true, true, true, true, true, true, true, true, true, true, false, false] rfl rfl rfl (by kernel_rfl) (by kernel_rfl) (by kernel_rfl) (fun _ _ _ h => h) (by decide) ?ry60 (fun _ => ct) ?rm60
            case ry60 => first | exact Or.inl ⟨by rfl, by intro w'; go_simp; first | done | rfl⟩
            case rm60 =>
            simp only [Act.put, List.setIfInBounds_toArray, List.set_cons_zero, List.set_cons_succ]
            refine anyT_one 10 #[true, true, true, true, true, true, true, true, true, true, true, false] (by kernel_rfl) rfl rfl (fun K hK => ?_)
            go_simp
            refine hK.out _ _ (fun h => absurd h (by decide)) ?_
            clear hK K
            refine anyT_one 11 #[true, true, true, true, true, true, true, true, true, true, true, true] (by kernel_rfl) rfl rfl (fun K hK => ?_)
            go_simp
            refine hK.out _ _ (fun h => absurd h (by decide)) ?_
            clear hK K
            refine anyT_done (by kernel_rfl) ?_
            rw [show IntKind.i64.wrap (nth (cr sz k) xn + n.tmod (nth sz xn)) = nth (cr sz k) xn + n.tmod (nth sz xn) from IntWalk.i64_in _ (by omega)]
            go_wp2_with fail
            obtain ⟨ts, hts⟩ : ∃ ts, ts = rotT sz n xn (cr sz k) := ⟨_, rfl⟩
            have HTi : Hid (insB sz ts = true) := by rw [hts]; exact rotT_in HC.out.1 hxl
            have HTs : Hid (ts = rotT sz n xn (cr sz k)) := hts
            have hU : IsInts w2.heap.size ((w2.setCell ⟨bt, ot + xn, none⟩ (.int .i64 (nth (cr sz k) xn + n.tmod (nth sz xn)))).setCell ⟨bt, ot + xn, none⟩ (.int .i64 (nth (cr sz k) xn + n.tmod (nth sz xn) + nth sz xn))).drew (some ⟨bt, ot, none⟩) ts := by rw [hts]; unfold rotT; rw [HWv.out]; exact put2_at HA.out (by rw [cr_length]; exact hxl) _ _
            have hBu : Below wr.heap.size wr ((w2.setCell ⟨bt, ot + xn, none⟩ (.int .i64 (nth (cr sz k) xn + n.tmod (nth sz xn)))).setCell ⟨bt, ot + xn, none⟩ (.int .i64 (nth (cr sz k) xn + n.tmod (nth sz xn) + nth sz xn))).drew := ((HB3.out.setCell (p := ⟨bt, ot + xn, none⟩) l0 _).setCell (p := ⟨bt, ot + xn, none⟩) l0 _).drew
            have hzu : ((w2.setCell ⟨bt, ot + xn, none⟩ (.int .i64 (nth (cr sz k) xn + n.tmod (nth sz xn)))).setCell ⟨bt, ot + xn, none⟩ (.int .i64 (nth (cr sz k) xn + n.tmod (nth sz xn) + nth sz xn))).drew.heap.size = w2.heap.size := by simp [World.setCell]
            obtain ⟨u, hu⟩ : ∃ u, u = ((w2.setCell ⟨bt, ot + xn, none⟩ (.int .i64 (nth (cr sz k) xn + n.tmod (nth sz xn)))).setCell ⟨bt, ot + xn, none⟩ (.int .i64 (nth (cr sz k) xn + n.tmod (nth sz xn) + nth sz xn))).drew := ⟨_, rfl⟩
            rw [← hu] at hU hBu hzu ⊢
            have HUz : Hid (IsInts u.heap.size u (some ⟨bt, ot, none⟩) ts ∧ Below wr.heap.size wr u) := ⟨by rw [hzu]; exact hU, hBu⟩
            clear hts hu hU hzu q1 cs ct fT P2 c3 f3 hwA hwB hwC
            have hl4 := HL.out.2
            have HPl : Hid (0 ≤ place sz ts ∧ place sz ts < dz.length) := by have := place_bd HTi.out; have h := (flawE_zero HF.out).2.1; exact ⟨this.1, by rw [h]; exact this.2⟩
            obtain ⟨P, hP⟩ : ∃ P : Nat, place sz ts = P := ⟨(place sz ts).toNat, by have := HPl.out.1; omega⟩
            have hPl : P < dz.length := by have := HPl.out.2; omega
            have HPP : Hid (place sz ts = P) := hP
            clear hP
            obtain ⟨bd, od, rfl, hbd, hcD⟩ := (HI.out.2.below (HQ.out.2.2.2.2.trans (HUz.out.2.mono HQ.out.2.2.2.2.size))).at hPl
            have cd := hcD P hPl
            clear hcD
            have HV : Hid (nth dz P = nth D k) := by show _ = _; rw [HD.out, GA_nth (by have h := (flawE_zero HF.out).2.1; omega), ← HTs.out, HPP.out, Int.toNat_natCast]
            have P6 := HQ.out.1.go HUz.out.2
            have U6 := HQ.out.2.2.1.go HUz.out.2
            have o6 := U6.c2
            have d6 := P6.c2
            have s6 := P6.c1
            have hown6 := own_go hown HUz.out.2
            have hsu : wr.heap.size ≤ u.heap.size := HUz.out.2.size
            have hkD : k ≤ D.length := by omega
            have hBu2 : Hid (Below w.heap.size w u) := HQ.out.2.2.2.2.trans (HUz.out.2.mono HQ.out.2.2.2.2.size)
            go_wp2_with fail
            refine anyT_begin 12 (fun w' => w'.cell? ⟨B, 2, none⟩ = some v ∧ w'.cell? ⟨w.heap.size, 2, none⟩ = some (.slice (some ⟨bd, od, none⟩) dz.length dc) ∧ w'.cell? ⟨w.heap.size, 1, none⟩ = some (.slice (some ⟨bs, os, none⟩) sz.length sc) ∧ w'.cell? ⟨bd, od + P, none⟩ = some (.int .i64 (nth dz P))) 14 #[false, false, false, false, false, false, false, false, false, false, false, false, false, false] (by kernel_rfl) rfl rfl ?_
            refine anyT_put 0 78 ?rv63 #[true, false, false, false, false, false, false, false, false, false, false, false, false, false] rfl rfl rfl (by kernel_rfl) (by kernel_rfl) (by kernel_rfl) (fun _ _ _ h => h) (by decide) ?ry63 (fun _ => ⟨o6, d6, s6, cd⟩) ?rm63
            case ry63 => first | exact Or.inl ⟨by rfl, by intro w'; go_simp; first | done | rfl⟩
            case rm63 =>
            simp only [Act.put, List.setIfInBounds_toArray, List.set_cons_zero, List.set_cons_succ]
            refine anyT_take 1 79 ?rv64 #[true, true, false, false, false, false, false, false, false, false, false, false, false, false] rfl rfl rfl (by kernel_rfl) (by kernel_rfl) (by kernel_rfl) (fun _ _ _ h => h) (by kernel_rfl) (by decide) (by kernel_rfl) ?ry64 (⟨o6, d6, s6, cd⟩) ?rm64
            case ry64 => first | exact Or.inl ⟨by rfl, by intro w' hw'; (try dsimp only at hw'); go_simp; first | done | rfl⟩
            case rm64 =>
            simp only [Act.put, List.setIfInBounds_toArray, List.set_cons_zero, List.set_cons_succ]
            refine anyT_put 2 80 ?rv65 #[true, true, true, false, false, false, false, false, false, false, false, false, false, false] rfl rfl rfl (by kernel_rfl) (by kernel_rfl) (by kernel_rfl) (fun _ _ _ h => h) (by decide) ?ry65 (fun _ => ⟨o6, d6, s6, cd⟩) ?rm65
            case ry65 => first | exact Or.inl ⟨by rfl, by intro w'; go_simp; first | done | rfl⟩
            case rm65 =>
            simp only [Act.put, List.setIfInBounds_toArray, List.set_cons_zero, List.set_cons_succ]
            refine anyT_take 3 81 ?rv66 #[true, true, true, true, false, false, false, false, false, false, false, false, false, false] rfl rfl rfl (by kernel_rfl) (by kernel_rfl) (by kernel_rfl) (fun _ _ _ h => h) (by kernel_rfl) (by decide) (by kernel_rfl) ?ry66 (⟨o6, d6, s6, cd⟩) ?rm66
            case ry66 => first | exact Or.inl ⟨by rfl, by intro w' hw'; (try dsimp only at hw'); go_simp; first | done | rfl⟩
            case rm66 =>
            simp only [Act.put, List.setIfInBounds_toArray, List.set_cons_zero, List.set_cons_succ]
            refine anyT_put 4 82 ?rv67 #[true, true, true, true, true, false, false, false, false, false, false, false, false, false] rfl rfl rfl (by kernel_rfl) (by kernel_rfl) (by kernel_rfl) (fun _ _ _ h => h) (by decide) ?ry67 (fun _ => ⟨o6, d6, s6, cd⟩) ?rm67
            case ry67 => first | exact Or.inl ⟨by rfl, by intro w'; go_simp; first | done | rfl⟩
            case rm67 =>
            simp only [Act.put, List.setIfInBounds_toArray, List.set_cons_zero, List.set_cons_succ]
            refine anyT_take 5 83 ?rv68 #[true, true, true, true, true, true, false, false, false, false, false, false, false, false] rfl rfl rfl (by kernel_rfl) (by kernel_rfl) (by kernel_rfl) (fun _ _ _ h => h) (by kernel_rfl) (by decide) (by kernel_rfl) ?ry68 (⟨o6, d6, s6, cd⟩) ?rm68
            case ry68 => first | exact Or.inl ⟨by rfl, by intro w' hw'; (try dsimp only at hw'); go_simp; first | done | rfl⟩
            case rm68 =>
            simp only [Act.put, List.setIfInBounds_toArray, List.set_cons_zero, List.set_cons_succ]
            refine anyT_put 6 84 ?rv69 #[true, true, true, true, true, true, true, false, false, false, false, false, false, false] rfl rfl rfl (by kernel_rfl) (by kernel_rfl) (by kernel_rfl) (fun _ _ _ h => h) (by decide) ?ry69 (fun _ => ⟨o6, d6, s6, cd⟩) ?rm69
            case ry69 => first | exact Or.inl ⟨by rfl, by intro w'; go_simp; first | done | rfl⟩
            case rm69 =>
            simp only [Act.put, List.setIfInBounds_toArray, List.set_cons_zero, List.set_cons_succ]
            refine anyT_one 7 #[true, true, true, true, true, true, true, true, false, false, false, false, false, false] (by kernel_rfl) rfl rfl (fun K hK => ?_)
            go_simp
            go_wp2_with (go_at_call 16; refine (where_n (some ⟨bs, os, none⟩) sc sz (some ⟨bt, ot, none⟩) tc sz.length ts (insB_len HTi.out) P HPP.out h1 HK.out.1 HTi.out u.heap.size u.drew ((HI.out.1.below hBu2.out).mono hBu2.out.size) HUz.out.1).mono ?_; rintro e w3 ⟨rfl, rfl⟩)
            refine hK.out _ _ (fun _ => ⟨o6, d6, s6, cd⟩) ?_
            clear hK K
            refine anyT_put 8 86 ?rv71 #[true, true, true, true, true, true, true, true, true, false, false, false, false, false] rfl rfl rfl (by kernel_rfl) (by kernel_rfl) (by kernel_rfl) (fun _ _ _ h => h) (by decide) ?ry71 (fun _ => ⟨o6, d6, s6, cd⟩) ?rm71
            case ry71 => first | exact Or.inl ⟨by rfl, by intro w'; go_simp; first | done | rfl⟩
            case rm71 =>
            simp only [Act.put, List.setIfInBounds_toArray, List.set_cons_zero, List.set_cons_succ]
            refine anyT_take 9 87 ?rv72 #[true, true, true, true, true, true, true, true, true, true, false, false, false, false] rfl rfl rfl (by kernel_rfl) (by kernel_rfl) (by kernel_rfl) (fun _ _ _ h => h) (by kernel_rfl) (by decide) (by kernel_rfl) ?ry72 (⟨o6, d6, s6, cd⟩) ?rm72
            case ry72 => first | exact Or.inl ⟨by rfl, by intro w' hw'; (try dsimp only at hw'); go_simp; first | done | rfl⟩
            case rm72 =>
            simp only [Act.put, List.setIfInBounds_toArray, List.set_cons_zero, List.set_cons_succ]
            refine anyT_one 10 #[true, true, true, true, true, true, true, true, true, true, true, false, false, false] (by kernel_rfl) rfl rfl (fun K hK => ?_)
            go_simp
            have k0 := P6.al (.cells #[.int .i64 (nth dz P)] 3)
            have k1 := U6.al (.cells #[.int .i64 (nth dz P)] 3)
            have k2 : (u.alloc (.cells #[.int .i64 (nth dz P)] 3)).cell? ⟨bd, od + P, none⟩ = some (.int .i64 (nth dz P)) := (World.cell?_alloc_lt u _ ⟨bd, od + P, none⟩ (by have := hBu2.out.size; show bd < u.heap.size; omega)).trans cd
            refine hK.out _ _ (fun _ => ⟨k1.c2, k0.c2, k0.c1, k2⟩) ?_
            clear hK K
            refine anyT_one 11 #[true, true, true, true, true, true, true, true, true, true, true, true, false, false] (by kernel_rfl) rfl rfl (fun K hK => ?_)
            refine app_step 89 rfl rfl _ _ rfl _ v2.heap.size u.heap.size v (D.take k) (nth dz P) rfl rfl ((hown6.alloc _).drew) (heap_alloc_new u _) (by rw [take_lenR _ (by omega)]; omega) (by simp; omega) ?_
            intro g1 gc1 w4 hown1 hB4
            have P7 := k0.dr.bel hB4 (by omega)
            have HO1 : Hid (Abx w4 B (.bool c) (.slice g sz.length gc) v) := k1.dr.bel hB4 (by omega)
            have x2 := HO1.out.c2
            have xf := HO1.out.fr 2
            have xd : w4.cell? ⟨bd, od + P, none⟩ = some (.int .i64 (nth dz P)) := (hB4.cell (p := ⟨bd, od + P, none⟩) (by show bd < _; omega)).trans k2
            refine hK.out _ _ (fun _ => ⟨x2, P7.c2, P7.c1, xd⟩) ?_
            clear hK K
            simp only [Act.put, List.setIfInBounds_toArray, List.set_cons_zero, List.set_cons_succ]
            refine anyT_one 12 #[true, true, true, true, true, true, true, true, true, true, true, true, true, false] (by kernel_rfl) rfl rfl (fun K hK => ?_)
            go_simp
            refine hK.out _ _ (fun h => absurd h (by decide)) ?_
            clear hK K
            refine anyT_one 13 #[true, true, true, true, true, true, true, true, true, true, true, true, true, true] (by kernel_rfl) rfl rfl (fun K hK => ?_)
            go_simp
            refine hK.out _ _ (fun h => absurd h (by decide)) ?_
            clear hK K
            refine anyT_done (by kernel_rfl) ?_
            go_wp2_with fail
            rw [HV.out, ← take_snoc D k (by omega), take_lenR D (show k ≤ D.length by omega)] at hown1
            have hz4 := hB4.size
            simp at hz4
            refine ⟨⟨k + 1, .slice (some ⟨g1, 0, none⟩) (k + 1) gc1, by omega, by go_num, P7.ot (by show w.heap.size ≠ B; omega) _, ?_, HO1.out.s2 _, ?_, ?_, by simp [World.setCell]; omega, ?_⟩, by simp [intOf]; omega⟩
            · exact (((HQ.out.2.1.go HUz.out.2).al _).dr.bel hB4 (by omega)).ot (by show w.heap.size + 1 ≠ B; omega) _
            · rw [take_lenR D (show k + 1 ≤ D.length by omega)]
              exact ownsRow_setCell_below hown1 (by show B < v2.heap.size; omega) _
            · exact (((((HQ.out.2.2.2.1.bel (HUz.out.2.mono hsx)).al (by omega) _).dr).bel hB4)).set 2 _
            · exact (((hBu2.out.alloc hBu2.out.size _).drew.trans (hB4.mono (by omega)))).setCell (p := ⟨B, 2, none⟩) (by show w.heap.size ≤ B; omega) _
          · have HWv : Hid ((nth (cr sz k) xn + n) % nth sz xn = nth (cr sz k) xn + n.tmod (nth sz xn)) := hwB hw1 hw2
            go_wp2_with fail
            refine anyT_begin 10 (fun w' => w'.cell? ⟨bt, ot + xn, none⟩ = some (.int .i64 (nth (cr sz k) xn))) 12 #[false, false, false, false, false, false, false, false, false, false, false, false] (by kernel_rfl) rfl rfl ?_
            refine anyT_put 0 42 ?rv77 #[true, false, false, false, false, false, false, false, false, false, false, false] rfl rfl rfl (by kernel_rfl) (by kernel_rfl) (by kernel_rfl) (fun _ _ _ h => h) (by decide) ?ry77 (fun _ => ct) ?rm77
            case ry77 => first | exact Or.inl ⟨by rfl, by intro w'; go_simp; first | done | rfl⟩
            case rm77 =>
            simp only [Act.put, List.setIfInBounds_toArray, List.set_cons_zero, List.set_cons_succ]
            refine anyT_put 1 43 ?rv78 #[true, true, false, false, false, false, false, false, false, false, false, false] rfl rfl rfl (by kernel_rfl) (by kernel_rfl) (by kernel_rfl) (fun _ _ _ h => h) (by decide) ?ry78 (fun _ => ct) ?rm78
            case ry78 => first | exact Or.inl ⟨by rfl, by intro w'; go_simp; first | done | rfl⟩
            case rm78 =>
            simp only [Act.put, List.setIfInBounds_toArray, List.set_cons_zero, List.set_cons_succ]
            refine anyT_put 2 44 ?rv79 #[true, true, true, false, false, false, false, false, false, false, false, false] rfl rfl rfl (by kernel_rfl) (by kernel_rfl) (by kernel_rfl) (fun _ _ _ h => h) (by decide) ?ry79 (fun _ => ct) ?rm79
            case ry79 => first | exact Or.inl ⟨by rfl, by intro w'; go_simp; first | done | rfl⟩
            case rm79 =>
            simp only [Act.put, List.setIfInBounds_toArray, List.set_cons_zero, List.set_cons_succ]
            refine anyT_put 3 45 ?rv80 #[true, true, true, true, false, false, false, false, false, false, false, false] rfl rfl rfl (by kernel_rfl) (by kernel_rfl) (by kernel_rfl) (fun _ _ _ h => h) (by decide) ?ry80 (fun _ => ct) ?rm80
            case ry80 => first | exact Or.inl ⟨by rfl, by intro w'; go_simp; first | done | rfl⟩
            case rm80 =>
            simp only [Act.put, List.setIfInBounds_toArray, List.set_cons_zero, List.set_cons_succ]
            refine anyT_put 4 46 ?rv81 #[true, true, true, true, true, false, false, false, false, false, false, false] rfl rfl rfl (by kernel_rfl) (by kernel_rfl) (by kernel_rfl) (fun _ _ _ h => h) (by decide) ?ry81 (fun _ => ct) ?rm81
            case ry81 => first | exact Or.inl ⟨by rfl, by intro w'; go_simp; first | done | rfl⟩
            case rm81 =>
            simp only [Act.put, List.setIfInBounds_toArray, List.set_cons_zero, List.set_cons_succ]
            refine anyT_take 5 47 ?rv82 #[true, true, true, true, true, true, false, false, false, false, false, false] rfl rfl rfl (by kernel_rfl) (by kernel_rfl) (by kernel_rfl) (fun _ _ _ h => h) (by kernel_rfl) (by decide) (by kernel_rfl) ?ry82 (ct) ?rm82
            case ry82 => first | exact Or.inl ⟨by rfl, by intro w' hw'; (try dsimp only at hw'); go_simp; first | done | rfl⟩
            case rm82 =>
            simp only [Act.put, List.setIfInBounds_toArray, List.set_cons_zero, List.set_cons_succ]
            refine anyT_put 6 48 ?rv83 #[true, true, true, true, true, true, true, false, false, false, false, false] rfl rfl rfl (by kernel_rfl) (by kernel_rfl) (by kernel_rfl) (fun _ _ _ h => h) (by decide) ?ry83 (fun _ => ct) ?rm83
            case ry83 => first | exact Or.inl ⟨by rfl, by intro w'; go_simp; first | done | rfl⟩
            case rm83 =>
            simp only [Act.put, List.setIfInBounds_toArray, List.set_cons_zero, List.set_cons_succ]
            refine anyT_put 7 49 ?rv84 #[true, true, true, true, true, true, true, true, false, false, false, false] rfl rfl rfl (by kernel_rfl) (by kernel_rfl) (by kernel_rfl) (fun _ _ _ h => h) (by decide) ?ry84 (fun _ => ct) ?rm84
            case ry84 => first | exact Or.inl ⟨by rfl, by intro w'; go_simp; first | done | rfl⟩
            case rm84 =>
            simp only [Act.put, List.setIfInBounds_toArray, List.set_cons_zero, List.set_cons_succ]
            refine anyT_put 8 50 ?rv85 #[true, true, true, true, true, true, true, true, true, false, false, false] rfl rfl rfl (by kernel_rfl) (by kernel_rfl) (by kernel_rfl) (fun _ _ _ h => h) (by decide) ?ry85 (fun _ => ct) ?rm85
            case ry85 => first | exact Or.inl ⟨by rfl, by intro w'; go_simp; first | done | rfl⟩
            case rm85 =>
            simp only [Act.put, List.setIfInBounds_toArray, List.set_cons_zero, List.set_cons_succ]
            refine anyT_put 9 51 ?rv86 #[true, true, true, true, true, true, true, true, true, true, false, false] rfl rfl rfl (by kernel_rfl) (by kernel_rfl) (by kernel_rfl) (fun _ _ _ h => h) (by decide) ?ry86 (fun _ => ct) ?rm86
            case ry86 => first | exact Or.inl ⟨by rfl, by intro w'; go_simp; first | done | rfl⟩
            case rm86 =>
            simp only [Act.put, List.setIfInBounds_toArray, List.set_cons_zero, List.set_cons_succ]
            refine anyT_one 10 #[true, true, true, true, true, true, true, true, true, true, true, false] (by kernel_rfl) rfl rfl (fun K hK => ?_)
            go_simp
            refine hK.out _ _ (fun h => absurd h (by decide)) ?_
            clear hK K
            refine anyT_one 11 #[true, true, true, true, true, true, true, true, true, true, true, true] (by kernel_rfl) rfl rfl (fun K hK => ?_)
            go_simp
            refine hK.out _ _ (fun h => absurd h (by decide)) ?_
            clear hK K
            refine anyT_done (by kernel_rfl) ?_
            rw [show IntKind.i64.wrap (nth (cr sz k) xn + n.tmod (nth sz xn)) = nth (cr sz k) xn + n.tmod (nth sz xn) from IntWalk.i64_in _ (by omega)]
            go_wp2_with fail
            obtain ⟨ts, hts⟩ : ∃ ts, ts = rotT sz n xn (cr sz k) := ⟨_, rfl⟩
            have HTi : Hid (insB sz ts = true) := by rw [hts]; exact rotT_in HC.out.1 hxl
            have HTs : Hid (ts = rotT sz n xn (cr sz k)) := hts
            have hU : IsInts w2.heap.size (w2.setCell ⟨bt, ot + xn, none⟩ (.int .i64 (nth (cr sz k) xn + n.tmod (nth sz xn)))).drew (some ⟨bt, ot, none⟩) ts := by rw [hts]; unfold rotT; rw [HWv.out]; exact put_at HA.out (by rw [cr_length]; exact hxl) _
            have hBu : Below wr.heap.size wr (w2.setCell ⟨bt, ot + xn, none⟩ (.int .i64 (nth (cr sz k) xn + n.tmod (nth sz xn)))).drew := (HB3.out.setCell (p := ⟨bt, ot + xn, none⟩) l0 _).drew
            have hzu : (w2.setCell ⟨bt, ot + xn, none⟩ (.int .i64 (nth (cr sz k) xn + n.tmod (nth sz xn)))).drew.heap.size = w2.heap.size := by simp [World.setCell]
            obtain ⟨u, hu⟩ : ∃ u, u = (w2.setCell ⟨bt, ot + xn, none⟩ (.int .i64 (nth (cr sz k) xn + n.tmod (nth sz xn)))).drew := ⟨_, rfl⟩
            rw [← hu] at hU hBu hzu ⊢
            have HUz : Hid (IsInts u.heap.size u (some ⟨bt, ot, none⟩) ts ∧ Below wr.heap.size wr u) := ⟨by rw [hzu]; exact hU, hBu⟩
            clear hts hu hU hzu q1 cs ct fT P2 c3 f3 hwA hwB hwC
            have hl4 := HL.out.2
            have HPl : Hid (0 ≤ place sz ts ∧ place sz ts < dz.length) := by have := place_bd HTi.out; have h := (flawE_zero HF.out).2.1; exact ⟨this.1, by rw [h]; exact this.2⟩
            obtain ⟨P, hP⟩ : ∃ P : Nat, place sz ts = P := ⟨(place sz ts).toNat, by have := HPl.out.1; omega⟩
            have hPl : P < dz.length := by have := HPl.out.2; omega
            have HPP : Hid (place sz ts = P) := hP
            clear hP
            obtain ⟨bd, od, rfl, hbd, hcD⟩ := (HI.out.2.below (HQ.out.2.2.2.2.trans (HUz.out.2.mono HQ.out.2.2.2.2.size))).at hPl
            have cd := hcD P hPl
            clear hcD
            have HV : Hid (nth dz P = nth D k) := by show _ = _; rw [HD.out, GA_nth (by have h := (flawE_zero HF.out).2.1; omega), ← HTs.out, HPP.out, Int.toNat_natCast]
            have P6 := HQ.out.1.go HUz.out.2
            have U6 := HQ.out.2.2.1.go HUz.out.2
            have o6 := U6.c2
            have d6 := P6.c2
            have s6 := P6.c1
            have hown6 := own_go hown HUz.out.2
            have hsu : wr.heap.size ≤ u.heap.size := HUz.out.2.size
            have hkD : k ≤ D.length := by omega
            have hBu2 : Hid (Below w.heap.size w u) := HQ.out.2.2.2.2.trans (HUz.out.2.mono HQ.out.2.2.2.2.size)
            go_wp2_with fail
            refine anyT_begin 12 (fun w' => w'.cell? ⟨B, 2, none⟩ = some v ∧ w'.cell? ⟨w.heap.size, 2, none⟩ = some (.slice (some ⟨bd, od, none⟩) dz.length dc) ∧ w'.cell? ⟨w.heap.size, 1, none⟩ = some (.slice (some ⟨bs, os, none⟩) sz.length sc) ∧ w'.cell? ⟨bd, od + P, none⟩ = some (.int .i64 (nth dz P))) 14 #[false, false, false, false, false, false, false, false, false, false, false, false, false, false] (by kernel_rfl) rfl rfl ?_
            refine anyT_put 0 78 ?rv89 #[true, false, false, false, false, false, false, false, false, false, false, false, false, false] rfl rfl rfl (by kernel_rfl) (by kernel_rfl) (by kernel_rfl) (fun _ _ _ h => h) (by decide) ?ry89 (fun _ => ⟨o6, d6, s6, cd⟩) ?rm89
            case ry89 => first | exact Or.inl ⟨by rfl, by intro w'; go_simp; first | done | rfl⟩
            case rm89 =>
            simp only [Act.put, List.setIfInBounds_toArray, List.set_cons_zero, List.set_cons_succ]
            refine anyT_take 1 79 ?rv90 #[true, true, false, false, false, false, false, false, false, false, false, false, false, false] rfl rfl rfl (by kernel_rfl) (by kernel_rfl) (by kernel_rfl) (fun _ _ _ h => h) (by kernel_rfl) (by decide) (by kernel_rfl) ?ry90 (⟨o6, d6, s6, cd⟩) ?rm90
            case ry90 => first | exact Or.inl ⟨by rfl, by intro w' hw'; (try dsimp only at hw'); go_simp; first | done | rfl⟩
            case rm90 =>
            simp only [Act.put, List.setIfInBounds_toArray, List.set_cons_zero, List.set_cons_succ]
            refine anyT_put 2 80 ?rv91 #[true, true, true, false, false, false, false, false, false, false, false, false, false, false] rfl rfl rfl (by kernel_rfl) (by kernel_rfl) (by kernel_rfl) (fun _ _ _ h => h) (by decide) ?ry91 (fun _ => ⟨o6, d6, s6, cd⟩) ?rm91
            case ry91 => first | exact Or.inl ⟨by rfl, by intro w'; go_simp; first | done | rfl⟩
            case rm91 =>
            simp only [Act.put, List.setIfInBounds_toArray, List.set_cons_zero, List.set_cons_succ]
            refine anyT_take 3 81 ?rv92 #[true, true, true, true, false, false, false, false, false, false, false, false, false, false] rfl rfl rfl (by kernel_rfl) (by kernel_rfl) (by kernel_rfl) (fun _ _ _ h => h) (by kernel_rfl) (by decide) (by kernel_rfl) ?ry92 (⟨o6, d6, s6, cd⟩) ?rm92
            case ry92 => first | exact Or.inl ⟨by rfl, by intro w' hw'; (try dsimp only at hw'); go_simp; first | done | rfl⟩
            case rm92 =>
            simp only [Act.put, List.setIfInBounds_toArray, List.set_cons_zero, List.set_cons_succ]
            refine anyT_put 4 82 ?rv93 #[true, true, true, true, true, false, false, false, false, false, false, false, false, false] rfl rfl rfl (by kernel_rfl) (by kernel_rfl) (by kernel_rfl) (fun _ _ _ h => h) (by decide) ?ry93 (fun _ => ⟨o6, d6, s6, cd⟩) ?rm93
            case ry93 => first | exact Or.inl ⟨by rfl, by intro w'; go_simp; first | done | rfl⟩
            case rm93 =>
            simp only [Act.put, List.setIfInBounds_toArray, List.set_cons_zero, List.set_cons_succ]
            refine anyT_take 5 83 ?rv94 #[true, true, true, true, true, true, false, false, false, false, false, false, false, false] rfl rfl rfl (by kernel_rfl) (by kernel_rfl) (by kernel_rfl) (fun _ _ _ h => h) (by kernel_rfl) (by decide) (by kernel_rfl) ?ry94 (⟨o6, d6, s6, cd⟩) ?rm94
            case ry94 => first | exact Or.inl ⟨by rfl, by intro w' hw'; (try dsimp only at hw'); go_simp; first | done | rfl⟩
            case rm94 =>
            simp only [Act.put, List.setIfInBounds_toArray, List.set_cons_zero, List.set_cons_succ]
            refine anyT_put 6 84 ?rv95 #[true, true, true, true, true, true, true, false, false, false, false, false, false, false] rfl rfl rfl (by kernel_rfl) (by kernel_rfl) (by kernel_rfl) (fun _ _ _ h => h) (by decide) ?ry95 (fun _ => ⟨o6, d6, s6, cd⟩) ?rm95
            case ry95 => first | exact Or.inl ⟨by rfl, by intro w'; go_simp; first | done | rfl⟩
            case rm95 =>
            simp only [Act.put, List.setIfInBounds_toArray, List.set_cons_zero, List.set_cons_succ]
            refine anyT_one 7 #[true, true, true, true, true, true, true, true, false, false, false, false, false, false] (by kernel_rfl) rfl rfl (fun K hK => ?_)
            go_simp
            go_wp2_with (go_at_call 16; refine (where_n (some ⟨bs, os, none⟩) sc sz (some ⟨bt, ot, none⟩) tc sz.length ts (insB_len HTi.out) P HPP.out h1 HK.out.1 HTi.out u.heap.size u.drew ((HI.out.1.below hBu2.out).mono hBu2.out.size) HUz.out.1).mono ?_; rintro e w3 ⟨rfl, rfl⟩)
            refine hK.out _ _ (fun _ => ⟨o6, d6, s6, cd⟩) ?_
            clear hK K
            refine anyT_put 8 86 ?rv97 #[true, true, true, true, true, true, true, true, true, false, false, false, false, false] rfl rfl rfl (by kernel_rfl) (by kernel_rfl) (by kernel_rfl) (fun _ _ _ h => h) (by decide) ?ry97 (fun _ => ⟨o6, d6, s6, cd⟩) ?rm97
            case ry97 => first | exact Or.inl ⟨by rfl, by intro w'; go_simp; first | done | rfl⟩
            case rm97 =>
            simp only [Act.put, List.setIfInBounds_toArray, List.set_cons_zero, List.set_cons_succ]
            refine anyT_take 9 87 ?rv98 #[true, true, true, true, true, true, true, true, true, true, false, false, false, false] rfl rfl rfl (by kernel_rfl) (by kernel_rfl) (by kernel_rfl) (fun _ _ _ h => h) (by kernel_rfl) (by decide) (by kernel_rfl) ?ry98 (⟨o6, d6, s6, cd⟩) ?rm98
            case ry98 => first | exact Or.inl ⟨by rfl, by intro w' hw'; (try dsimp only at hw'); go_simp; first | done | rfl⟩
            case rm98 =>
            simp only [Act.put, List.setIfInBounds_toArray, List.set_cons_zero, List.set_cons_succ]
            refine anyT_one 10 #[true, true, true, true, true, true, true, true, true, true, true, false, false, false] (by kernel_rfl) rfl rfl (fun K hK => ?_)
            go_simp
            have k0 := P6.al (.cells #[.int .i64 (nth dz P)] 3)
            have k1 := U6.al (.cells #[.int .i64 (nth dz P)] 3)
            have k2 : (u.alloc (.cells #[.int .i64 (nth dz P)] 3)).cell? ⟨bd, od + P, none⟩ = some (.int .i64 (nth dz P)) := (World.cell?_alloc_lt u _ ⟨bd, od + P, none⟩ (by have := hBu2.out.size; show bd < u.heap.size; omega)).trans cd
            refine hK.out _ _ (fun _ => ⟨k1.c2, k0.c2, k0.c1, k2⟩) ?_
            clear hK K
            refine anyT_one 11 #[true, true, true, true, true, true, true, true, true, true, true, true, false, false] (by kernel_rfl) rfl rfl (fun K hK => ?_)
            refine app_step 89 rfl rfl _ _ rfl _ v2.heap.size u.heap.size v (D.take k) (nth dz P) rfl rfl ((hown6.alloc _).drew) (heap_alloc_new u _) (by rw [take_lenR _ (by omega)]; omega) (by simp; omega) ?_
            intro g1 gc1 w4 hown1 hB4
            have P7 := k0.dr.bel hB4 (by omega)
            have HO1 : Hid (Abx w4 B (.bool c) (.slice g sz.length gc) v) := k1.dr.bel hB4 (by omega)
            have x2 := HO1.out.c2
            have xf := HO1.out.fr 2
            have xd : w4.cell? ⟨bd, od + P, none⟩ = some (.int .i64 (nth dz P)) := (hB4.cell (p := ⟨bd, od + P, none⟩) (by show bd < _; omega)).trans k2
            refine hK.out _ _ (fun _ => ⟨x2, P7.c2, P7.c1, xd⟩) ?_
            clear hK K
            simp only [Act.put, List.setIfInBounds_toArray, List.set_cons_zero, List.set_cons_succ]
            refine anyT_one 12 #[true, true, true, true, true, true, true, true, true, true, true, true, true, false] (by kernel_rfl) rfl rfl (fun K hK => ?_)
            go_simp
            refine hK.out _ _ (fun h => absurd h (by decide)) ?_
            clear hK K
            refine anyT_one 13 #[true, true, true, true, true, true, true, true, true, true, true, true, true, true] (by kernel_rfl) rfl rfl (fun K hK => ?_)
            go_simp
            refine hK.out _ _ (fun h => absurd h (by decide)) ?_
            clear hK K
            refine anyT_done (by kernel_rfl) ?_
            go_wp2_with fail
            rw [HV.out, ← take_snoc D k (by omega), take_lenR D (show k ≤ D.length by omega)] at hown1
            have hz4 := hB4.size
            simp at hz4
            refine ⟨⟨k + 1, .slice (some ⟨g1, 0, none⟩) (k + 1) gc1, by omega, by go_num, P7.ot (by show w.heap.size ≠ B; omega) _, ?_, HO1.out.s2 _, ?_, ?_, by simp [World.setCell]; omega, ?_⟩, by simp [intOf]; omega⟩
            · exact (((HQ.out.2.1.go HUz.out.2).al _).dr.bel hB4 (by omega)).ot (by show w.heap.size + 1 ≠ B; omega) _
            · rw [take_lenR D (show k + 1 ≤ D.length by omega)]
              exact ownsRow_setCell_below hown1 (by show B < v2.heap.size; omega) _
            · exact (((((HQ.out.2.2.2.1.bel (HUz.out.2.mono hsx)).al (by omega) _).dr).bel hB4)).set 2 _
            · exact (((hBu2.out.alloc hBu2.out.size _).drew.trans (hB4.mono (by omega)))).setCell (p := ⟨B, 2, none⟩) (by show w.heap.size ≤ B; omega) _
          · have HWv : Hid ((nth (cr sz k) xn + n) % nth sz xn = nth (cr sz k) xn + n.tmod (nth sz xn) - nth sz xn) := hwC hw1
            go_wp2_with fail
            refine anyT_begin 10 (fun w' => w'.cell? ⟨bt, ot + xn, none⟩ = some (.int .i64 (nth (cr sz k) xn))) 12 #[false, false, false, false, false, false, false, false, false, false, false, false] (by kernel_rfl) rfl rfl ?_
            refine anyT_put 0 42 ?rv103 #[true, false, false, false, false, false, false, false, false, false, false, false] rfl rfl rfl (by kernel_rfl) (by kernel_rfl) (by kernel_rfl) (fun _ _ _ h => h) (by decide) ?ry103 (fun _ => ct) ?rm103
            case ry103 => first | exact Or.inl ⟨by rfl, by intro w'; go_simp; first | done | rfl⟩
            case rm103 =>
            simp only [Act.put, List.setIfInBounds_toArray, List.set_cons_zero, List.set_cons_succ]
            refine anyT_put 1 43 ?rv104 #[true, true, false, false, false, false, false, false, false, false, false, false] rfl rfl rfl (by kernel_rfl) (by kernel_rfl) (by kernel_rfl) (fun _ _ _ h => h) (by decide) ?ry104 (fun _ => ct) ?rm104
            case ry104 => first | exact Or.inl ⟨by rfl, by intro w'; go_simp; first | done | rfl⟩
            case rm104 =>
            simp only [Act.put, List.setIfInBounds_toArray, List.set_cons_zero, List.set_cons_succ]
            refine anyT_put 2 44 ?rv105 #[true, true, true, false, false, false, false, false, false, false, false, false] rfl rfl rfl (by kernel_rfl) (by kernel_rfl) (by kernel_rfl) (fun _ _ _ h => h) (by decide) ?ry105 (fun _ => ct) ?rm105
            case ry105 => first | exact Or.inl ⟨by rfl, by intro w'; go_simp; first | done | rfl⟩
            case rm105 =>
            simp only [Act.put, List.setIfInBounds_toArray, List.set_cons_zero, List.set_cons_succ]
            refine anyT_put 3 45 ?rv106 #[true, true, true, true, false, false, false, false, false, false, false, false] rfl rfl rfl (by kernel_rfl) (by kernel_rfl) (by kernel_rfl) (fun _ _ _ h => h) (by decide) ?ry106 (fun _ => ct) ?rm106
            case ry106 => first | exact Or.inl ⟨by rfl, by intro w'; go_simp; first | done | rfl⟩
            case rm106 =>
            simp only [Act.put, List.setIfInBounds_toArray, List.set_cons_zero, List.set_cons_succ]
            refine anyT_put 4 46 ?rv107 #[true, true, true, true, true, false, false, false, false, false, false, false] rfl rfl rfl (by kernel_rfl) (by kernel_rfl) (by kernel_rfl) (fun _ _ _ h => h) (by decide) ?ry107 (fun _ => ct) ?rm107
            case ry107 => first | exact Or.inl ⟨by rfl, by intro w'; go_simp; first | done | rfl⟩
            case rm107 =>
            simp only [Act.put, List.setIfInBounds_toArray, List.set_cons_zero, List.set_cons_succ]
            refine anyT_take 5 47 ?rv108 #[true, true, true, true, true, true, false, false, false, false, false, false] rfl rfl rfl (by kernel_rfl) (by kernel_rfl) (by kernel_rfl) (fun _ _ _ h => h) (by kernel_rfl) (by decide) (by kernel_rfl) ?ry108 (ct) ?rm108
            case ry108 => first | exact Or.inl ⟨by rfl, by intro w' hw'; (try dsimp only at hw'); go_simp; first | done | rfl⟩
            case rm108 =>
            simp only [Act.put, List.setIfInBounds_toArray, List.set_cons_zero, List.set_cons_succ]
            refine anyT_put 6 48 ?rv109 #[true, true, true, true, true, true, true, false, false, false, false, false] rfl rfl rfl (by kernel_rfl) (by kernel_rfl) (by kernel_rfl) (fun _ _ _ h => h) (by decide) ?ry109 (fun _ => ct) ?rm109
            case ry109 => first | exact Or.inl ⟨by rfl, by intro w'; go_simp; first | done | rfl⟩
            case rm109 =>
            simp only [Act.put, List.setIfInBounds_toArray, List.set_cons_zero, List.set_cons_succ]
            refine anyT_put 7 49 ?rv110 #[true, true, true, true, true, true, true, true, false, false, false, false] rfl rfl rfl (by kernel_rfl) (by kernel_rfl) (by kernel_rfl) (fun _ _ _ h => h) (by decide) ?ry110 (fun _ => ct) ?rm110
            case ry110 => first | exact Or.inl ⟨by rfl, by intro w'; go_simp; first | done | rfl⟩
            case rm110 =>
            simp only [Act.put, List.setIfInBounds_toArray, List.set_cons_zero, List.set_cons_succ]
            refine anyT_put 8 50 ?rv111 #[true, true, true, true, true, true, true, true, true, false, false, false] rfl rfl rfl (by kernel_rfl) (by kernel_rfl) (by kernel_rfl) (fun _ _ _ h => h) (by decide) ?ry111 (fun _ => ct) ?rm111
            case ry111 => first | exact Or.inl ⟨by rfl, by intro w'; go_simp; first | done | rfl⟩
            case rm111 =>
            simp only [Act.put, List.setIfInBounds_toArray, List.set_cons_zero, List.set_cons_succ]
            refine anyT_put 9 51 ?rv112 #[true, true, true, true, true, true, true, true, true, true, false, false] rfl rfl rfl (by kernel_rfl) (by kernel_rfl) (by kernel_rfl) (fun _ _ _ h => h) (by decide) ?ry112 (fun _ => ct) ?rm112
            case ry112 => first | exact Or.inl ⟨by rfl, by intro w'; go_simp; first | done | rfl⟩
            case rm112 =>
            simp only [Act.put, List.setIfInBounds_toArray, List.set_cons_zero, List.set_cons_succ]
            refine anyT_one 10 #[true, true, true, true, true, true, true, true, true, true, true, false] (by kernel_rfl) rfl rfl (fun K hK => ?_)
            go_simp
            refine hK.out _ _ (fun h => absurd h (by decide)) ?_
            clear hK K
            refine anyT_one 11 #[true, true, true, true, true, true, true, true, true, true, true, true] (by kernel_rfl) rfl rfl (fun K hK => ?_)
            go_simp
            refine hK.out _ _ (fun h => absurd h (by decide)) ?_
            clear hK K
            refine anyT_done (by kernel_rfl) ?_
            rw [show IntKind.i64.wrap (nth (cr sz k) xn + n.tmod (nth sz xn)) = nth (cr sz k) xn + n.tmod (nth sz xn) from IntWalk.i64_in _ (by omega)]
            go_wp2_with fail
            obtain ⟨ts, hts⟩ : ∃ ts, ts = rotT sz n xn (cr sz k) := ⟨_, rfl⟩
            have HTi : Hid (insB sz ts = true) := by rw [hts]; exact rotT_in HC.out.1 hxl
            have HTs : Hid (ts = rotT sz n xn (cr sz k)) := hts
            have hU : IsInts w2.heap.size ((w2.setCell ⟨bt, ot + xn, none⟩ (.int .i64 (nth (cr sz k) xn + n.tmod (nth sz xn)))).setCell ⟨bt, ot + xn, none⟩ (.int .i64 (nth (cr sz k) xn + n.tmod (nth sz xn) - nth sz xn))).drew (some ⟨bt, ot, none⟩) ts := by rw [hts]; unfold rotT; rw [HWv.out]; exact put2_at HA.out (by rw [cr_length]; exact hxl) _ _
            have hBu : Below wr.heap.size wr ((w2.setCell ⟨bt, ot + xn, none⟩ (.int .i64 (nth (cr sz k) xn + n.tmod (nth sz xn)))).setCell ⟨bt, ot + xn, none⟩ (.int .i64 (nth (cr sz k) xn + n.tmod (nth sz xn) - nth sz xn))).drew := ((HB3.out.setCell (p := ⟨bt, ot + xn, none⟩) l0 _).setCell (p := ⟨bt, ot + xn, none⟩) l0 _).drew
            have hzu : ((w2.setCell ⟨bt, ot + xn, none⟩ (.int .i64 (nth (cr sz k) xn + n.tmod (nth sz xn)))).setCell ⟨bt, ot + xn, none⟩ (.int .i64 (nth (cr sz k) xn + n.tmod (nth sz xn) - nth sz xn))).drew.heap.size = w2.heap.size := by simp [World.setCell]
            obtain ⟨u, hu⟩ : ∃ u, u = ((w2.setCell ⟨bt, ot + xn, none⟩ (.int .i64 (nth (cr sz k) xn + n.tmod (nth sz xn)))).setCell ⟨bt, ot + xn, none⟩ (.int .i64 (nth (cr sz k) xn + n.tmod (nth sz xn) - nth sz xn))).drew := ⟨_, rfl⟩
            rw [← hu] at hU hBu hzu ⊢
            have HUz : Hid (IsInts u.heap.size u (some ⟨bt, ot, none⟩) ts ∧ Below wr.heap.size wr u) := ⟨by rw [hzu]; exact hU, hBu⟩
            clear hts hu hU hzu q1 cs ct fT P2 c3 f3 hwA hwB hwC
            have hl4 := HL.out.2
            have HPl : Hid (0 ≤ place sz ts ∧ place sz ts < dz.length) := by have := place_bd HTi.out; have h := (flawE_zero HF.out).2.1; exact ⟨this.1, by rw [h]; exact this.2⟩
            obtain ⟨P, hP⟩ : ∃ P : Nat, place sz ts = P := ⟨(place sz ts).toNat, by have := HPl.out.1; omega⟩
            have hPl : P < dz.length := by have := HPl.out.2; omega
            have HPP : Hid (place sz ts = P) := hP
            clear hP
            obtain ⟨bd, od, rfl, hbd, hcD⟩ := (HI.out.2.below (HQ.out.2.2.2.2.trans (HUz.out.2.mono HQ.out.2.2.2.2.size))).at hPl
            have cd := hcD P hPl
            clear hcD
            have HV : Hid (nth dz P = nth D k) := by show _ = _; rw [HD.out, GA_nth (by have h := (flawE_zero HF.out).2.1; omega), ← HTs.out, HPP.out, Int.toNat_natCast]
            have P6 := HQ.out.1.go HUz.out.2
            have U6 := HQ.out.2.2.1.go HUz.out.2
            have o6 := U6.c2
            have d6 := P6.c2
            have s6 := P6.c1
            have hown6 := own_go hown HUz.out.2
            have hsu : wr.heap.size ≤ u.heap.size := HUz.out.2.size
            have hkD : k ≤ D.length := by omega
            have hBu2 : Hid (Below w.heap.size w u) := HQ.out.2.2.2.2.trans (HUz.out.2.mono HQ.out.2.2.2.2.size)
            go_wp2_with fail
            refine anyT_begin 12 (fun w' => w'.cell? ⟨B, 2, none⟩ = some v ∧ w'.cell? ⟨w.heap.size, 2, none⟩ = some (.slice (some ⟨bd, od, none⟩) dz.length dc) ∧ w'.cell? ⟨w.heap.size, 1, none⟩ = some (.slice (some ⟨bs, os, none⟩) sz.length sc) ∧ w'.cell? ⟨bd, od + P, none⟩ = some (.int .i64 (nth dz P))) 14 #[false, false, false, false, false, false, false, false, false, false, false, false, false, false] (by kernel_rfl) rfl rfl ?_
            refine anyT_put 0 78 ?rv115 #[true, false, false, false, false, false, false, false, false, false, false, false, false, false] rfl rfl rfl (by kernel_rfl) (by kernel_rfl) (by kernel_rfl) (fun _ _ _ h => h) (by decide) ?ry115 (fun _ => ⟨o6, d6, s6, cd⟩) ?rm115
            case ry115 => first | exact Or.inl ⟨by rfl, by intro w'; go_simp; first | done | rfl⟩
            case rm115 =>
            simp only [Act.put, List.setIfInBounds_toArray, List.set_cons_zero, List.set_cons_succ]
            refine anyT_take 1 79 ?rv116 #[true, true, false, false, false, false, false, false, false, false, false, false, false, false] rfl rfl rfl (by kernel_rfl) (by kernel_rfl) (by kernel_rfl) (fun _ _ _ h => h) (by kernel_rfl) (by decide) (by kernel_rfl) ?ry116 (⟨o6, d6, s6, cd⟩) ?rm116
            case ry116 => first | exact Or.inl ⟨by rfl, by intro w' hw'; (try dsimp only at hw'); go_simp; first | done | rfl⟩
            case rm116 =>
            simp only [Act.put, List.setIfInBounds_toArray, List.set_cons_zero, List.set_cons_succ]
            refine anyT_put 2 80 ?rv117 #[true, true, true, false, false, false, false, false, false, false, false, false, false, false] rfl rfl rfl (by kernel_rfl) (by kernel_rfl) (by kernel_rfl) (fun _ _ _ h => h) (by decide) ?ry117 (fun _ => ⟨o6, d6, s6, cd⟩) ?rm117
            case ry117 => first | exact Or.inl ⟨by rfl, by intro w'; go_simp; first | done | rfl⟩
            case rm117 =>
            simp only [Act.put, List.setIfInBounds_toArray, List.set_cons_zero, List.set_cons_succ]
            refine anyT_take 3 81 ?rv118 #[true, true, true, true, false, false, false, false, false, false, false, false, false, false] rfl rfl rfl (by kernel_rfl) (by kernel_rfl) (by kernel_rfl) (fun _ _ _ h => h) (by kernel_rfl) (by decide) (by kernel_rfl) ?ry118 (⟨o6, d6, s6, cd⟩) ?rm118
            case ry118 => first | exact Or.inl ⟨by rfl, by intro w' hw'; (try dsimp only at hw'); go_simp; first | done | rfl⟩
            case rm118 =>
            simp only [Act.put, List.setIfInBounds_toArray, List.set_cons_zero, List.set_cons_succ]
            refine anyT_put 4 82 ?rv119 #[true, true, true, true, true, false, false, false, false, false, false, false, false, false] rfl rfl rfl (by kernel_rfl) (by kernel_rfl) (by kernel_rfl) (fun _ _ _ h => h) (by decide) ?ry119 (fun _ => ⟨o6, d6, s6, cd⟩) ?rm119
            case ry119 => first | exact Or.inl ⟨by rfl, by intro w'; go_simp; first | done | rfl⟩
            case rm119 =>
            simp only [Act.put, List.setIfInBounds_toArray, List.set_cons_zero, List.set_cons_succ]
            refine anyT_take 5 83 ?rv120 #[true, true, true, true, true, true, false, false, false, false, false, false, false, false] rfl rfl rfl (by kernel_rfl) (by kernel_rfl) (by kernel_rfl) (fun _ _ _ h => h) (by kernel_rfl) (by decide) (by kernel_rfl) ?ry120 (⟨o6, d6, s6, cd⟩) ?rm120
            case ry120 => first | exact Or.inl ⟨by rfl, by intro w' hw'; (try dsimp only at hw'); go_simp; first | done | rfl⟩
            case rm120 =>
            simp only [Act.put, List.setIfInBounds_toArray, List.set_cons_zero, List.set_cons_succ]
            refine anyT_put 6 84 ?rv121 #[true, true, true, true, true, true, true, false, false, false, false, false, false, false] rfl rfl rfl (by kernel_rfl) (by kernel_rfl) (by kernel_rfl) (fun _ _ _ h => h) (by decide) ?ry121 (fun _ => ⟨o6, d6, s6, cd⟩) ?rm121
            case ry121 => first | exact Or.inl ⟨by rfl, by intro w'; go_simp; first | done | rfl⟩
            case rm121 =>
            simp only [Act.put, List.setIfInBounds_toArray, List.set_cons_zero, List.set_cons_succ]
            refine anyT_one 7 #[true, true, true, true, true, true, true, true, false, false, false, false, false, false] (by kernel_rfl) rfl rfl (fun K hK => ?_)
            go_simp
            go_wp2_with (go_at_call 16; refine (where_n (some ⟨bs, os, none⟩) sc sz (some ⟨bt, ot, none⟩) tc sz.length ts (insB_len HTi.out) P HPP.out h1 HK.out.1 HTi.out u.heap.size u.drew ((HI.out.1.below hBu2.out).mono hBu2.out.size) HUz.out.1).mono ?_; rintro e w3 ⟨rfl, rfl⟩)
            refine hK.out _ _ (fun _ => ⟨o6, d6, s6, cd⟩) ?_
            clear hK K
            refine anyT_put 8 86 ?rv123 #[true, true, true, true, true, true, true, true, true, false, false, false, false, false] rfl rfl rfl (by kernel_rfl) (by kernel_rfl) (by kernel_rfl) (fun _ _ _ h => h) (by decide) ?ry123 (fun _ => ⟨o6, d6, s6, cd⟩) ?rm123
            case ry123 => first | exact Or.inl ⟨by rfl, by intro w'; go_simp; first | done | rfl⟩
            case rm123 =>
            simp only [Act.put, List.setIfInBounds_toArray, List.set_cons_zero, List.set_cons_succ]
            refine anyT_take 9 87 ?rv124 #[true, true, true, true, true, true, true, true, true, true, false, false, false, false] rfl rfl rfl (by kernel_rfl) (by kernel_rfl) (by kernel_rfl) (fun _ _ _ h => h) (by kernel_rfl) (by decide) (by kernel_rfl) ?ry124 (⟨o6, d6, s6, cd⟩) ?rm124
            case ry124 => first | exact Or.inl ⟨by rfl, by intro w' hw'; (try dsimp only at hw'); go_simp; first | done | rfl⟩
            case rm124 =>
            simp only [Act.put, List.setIfInBounds_toArray, List.set_cons_zero, List.set_cons_succ]
            refine anyT_one 10 #[true, true, true, true, true, true, true, true, true, true, true, false, false, false] (by kernel_rfl) rfl rfl (fun K hK => ?_)
            go_simp
            have k0 := P6.al (.cells #[.int .i64 (nth dz P)] 3)
            have k1 := U6.al (.cells #[.int .i64 (nth dz P)] 3)
            have k2 : (u.alloc (.cells #[.int .i64 (nth dz P)] 3)).cell? ⟨bd, od + P, none⟩ = some (.int .i64 (nth dz P)) := (World.cell?_alloc_lt u _ ⟨bd, od + P, none⟩ (by have := hBu2.out.size; show bd < u.heap.size; omega)).trans cd
            refine hK.out _ _ (fun _ => ⟨k1.c2, k0.c2, k0.c1, k2⟩) ?_
            clear hK K
            refine anyT_one 11 #[true, true, true, true, true, true, true, true, true, true, true, true, false, false] (by kernel_rfl) rfl rfl (fun K hK => ?_)
            refine app_step 89 rfl rfl _ _ rfl _ v2.heap.size u.heap.size v (D.take k) (nth dz P) rfl rfl ((hown6.alloc _).drew) (heap_alloc_new u _) (by rw [take_lenR _ (by omega)]; omega) (by simp; omega) ?_
            intro g1 gc1 w4 hown1 hB4
            have P7 := k0.dr.bel hB4 (by omega)
            have HO1 : Hid (Abx w4 B (.bool c) (.slice g sz.length gc) v) := k1.dr.bel hB4 (by omega)
            have x2 := HO1.out.c2
            have xf := HO1.out.fr 2
            have xd : w4.cell? ⟨bd, od + P, none⟩ = some (.int .i64 (nth dz P)) := (hB4.cell (p := ⟨bd, od + P, none⟩) (by show bd < _; omega)).trans k2
            refine hK.out _ _ (fun _ => ⟨x2, P7.c2, P7.c1, xd⟩) ?_
            clear hK K
            simp only [Act.put, List.setIfInBounds_toArray, List.set_cons_zero, List.set_cons_succ]
            refine anyT_one 12 #[true, true, true, true, true, true, true, true, true, true, true, true, true, false] (by kernel_rfl) rfl rfl (fun K hK => ?_)
            go_simp
            refine hK.out _ _ (fun h => absurd h (by decide)) ?_
            clear hK K
            refine anyT_one 13 #[true, true, true, true, true, true, true, true, true, true, true, true, true, true] (by kernel_rfl) rfl rfl (fun K hK => ?_)
            go_simp
            refine hK.out _ _ (fun h => absurd h (by decide)) ?_
            clear hK K
            refine anyT_done (by kernel_rfl) ?_
            go_wp2_with fail
            rw [HV.out, ← take_snoc D k (by omega), take_lenR D (show k ≤ D.length by omega)] at hown1
            have hz4 := hB4.size
            simp at hz4
            refine ⟨⟨k + 1, .slice (some ⟨g1, 0, none⟩) (k + 1) gc1, by omega, by go_num, P7.ot (by show w.heap.size ≠ B; omega) _, ?_, HO1.out.s2 _, ?_, ?_, by simp [World.setCell]; omega, ?_⟩, by simp [intOf]; omega⟩
            · exact (((HQ.out.2.1.go HUz.out.2).al _).dr.bel hB4 (by omega)).ot (by show w.heap.size + 1 ≠ B; omega) _
            · rw [take_lenR D (show k + 1 ≤ D.length by omega)]
              exact ownsRow_setCell_below hown1 (by show B < v2.heap.size; omega) _
            · exact (((((HQ.out.2.2.2.1.bel (HUz.out.2.mono hsx)).al (by omega) _).dr).bel hB4)).set 2 _
            · exact (((hBu2.out.alloc hBu2.out.size _).drew.trans (hB4.mono (by omega)))).setCell (p := ⟨B, 2, none⟩) (by show w.heap.size ≤ B; omega) _
        · obtain rfl : k = dz.length := by omega
          rw [List.take_of_length_le (by omega)] at hown
          obtain ⟨g1, gc1, rfl, hN1⟩ := owns_new hown
          have o0 := hU.c0
          have o1 := hU.c1
          have r_0 := hR.c0
          have r_1 := hR.c1
          have r_2 := hR.c2
          have f_0 := hR.fr 0
          have f_1 := hR.fr 1
          have f_2 := hR.fr 2
          clear hown hlt
          go_wp2_with fail
          have FF := hR.set3 (.bool c) (.slice g sz.length gc) (.slice g1 D.length gc1)
          have q0 := FF.c0
          have q1 := FF.c1
          have q2 := FF.c2
          refine bodyPost_ret (v := .tuple #[.agg #[.bool c, .slice g sz.length gc, .slice g1 D.length gc1], .int .i64 0]) (by simp [results, Tryd.results9, go_sem, q0, q1, q2]) rfl ?_
          have hX := ((hS.new hsx).set3 (b := w.heap.size + 1) (by have := HR.out.lt; omega) (.bool c) (.slice g sz.length gc) (.slice g1 D.length gc1)).low (lo' := w.heap.size) (by omega)
          have hY := (hN1.set3 (b := w.heap.size + 1) (by omega) (.bool c) (.slice g sz.length gc) (.slice g1 D.length gc1)).low (lo' := w.heap.size) (by omega)
          have hZ := bel_set3 hBx (b := w.heap.size + 1) (by omega) (.bool c) (.slice g sz.length gc) (.slice g1 D.length gc1)
          obtain rfl := HD.out; exact UR.ok HE.out hX hY hZ
  · have t0 : (axE x c sz dz != 0) = true := by simpa using he
    have HE : Hid (axE x c sz dz ≠ 0) := he
    clear he
    have r_0 := HR.out.c0
    have r_1 := HR.out.c1
    have r_2 := HR.out.c2
    have f_0 := HR.out.fr 0
    have f_1 := HR.out.fr 1
    have f_2 := HR.out.fr 2
    go_wp2_with fail
    have FF := HR.out.set3 (.bool false) (.slice none 0 0) (.slice none 0 0)
    have q0 := FF.c0
    have q1 := FF.c1
    have q2 := FF.c2
    exact bodyPost_ret (v := .tuple #[.agg #[.bool false, .slice none 0 0, .slice none 0 0], .int .i64 (axE x c sz dz)]) (by simp [results, Tryd.results9, go_sem, q0, q1, q2]) rfl (UR.no rfl HE.out (bel_set3 hb.out (by omega) _ _ _))
end Go.Proofs.YtaahndglgjhneaaDoor
