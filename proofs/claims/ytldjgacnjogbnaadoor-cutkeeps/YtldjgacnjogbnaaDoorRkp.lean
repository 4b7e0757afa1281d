/-
  What the reference keeps.
-/
import Derived.Test.YtldjgacnjogbnaaDoorRsp
import Derived.Test.YtldjgacnjogbnaaDoorKpm
namespace Go.Proofs.YtldjgacnjogbnaaDoor
open Go.RowKit
set_option linter.unusedVariables false

theorem SepInts.put {lo hi B : Nat} {W : World} {b off : Nat} {zs : List Int} (h : SepInts lo hi B W (some ⟨b, off, none⟩) zs) {i : Nat} (hi' : i < zs.length) (x : Int) : SepInts lo hi B (W.setCell ⟨b, off + i, none⟩ (.int .i64 x)) (some ⟨b, off, none⟩) (zs.set i x) := by
  rcases h with e | ⟨b1, o1, e, h0, h1, hb, hc, hz⟩
  · rw [e] at hi'; simp at hi'
  · cases e
    rcases MidInts.put (lo := lo) (hi := hi) (.inr ⟨b, off, rfl, h0, hb, hc, hz⟩) hi' x with e | ⟨b2, o2, e2, k0, kb, kc, kz⟩
    · exact .inl e
    · cases e2; exact .inr ⟨b, off, rfl, h0, h1, hb, kc, kz⟩
set_option maxRecDepth 100000 in
set_option maxHeartbeats 8000000 in
theorem kept_any (ma : Option Addr) (mc : Nat) (m : List Int) (x : Int) (c : Bool) (sa : Option Addr) (sc : Nat) (sz : List Int) (da : Option Addr) (dc : Nat) (dz : List Int) (hl0 : m.length ≤ 9223372036854775807) (h1 : sz.length ≤ 9223372036854775807) (h2 : dz.length ≤ 9223372036854775807) (w : World) (hm : IsInts w.heap.size w ma m) (hs : IsInts w.heap.size w sa sz) (hd : IsInts w.heap.size w da dz) :
    Calls Tryd.prog 15 #[.slice ma m.length mc, .int .i64 x, .agg #[.bool c, .slice sa sz.length sc, .slice da dz.length dc]] w (UR (kpE m x c sz dz) (onc (kpE m x c sz dz) c) (onl (kpE m x c sz dz) (kpS m x.toNat sz)) (onl (kpE m x c sz dz) (kpD m x.toNat sz dz)) w) := by
  have HI : Hid (IsInts w.heap.size w sa sz ∧ IsInts w.heap.size w da dz ∧ IsInts w.heap.size w ma m) := ⟨hs, hd, hm⟩
  obtain ⟨l, hl⟩ : ∃ l, l = m.length := ⟨_, rfl⟩
  rw [← hl]
  have HM : Hid (m.length = l) := hl.symm
  have hl9 : l ≤ 9223372036854775807 := by rw [hl]; exact hl0
  clear hs hd hm hl hl0
  have hb : Hid (Below w.heap.size w ((w.alloc (.cells #[.bool c, .slice sa sz.length sc, .slice da dz.length dc] 24)).alloc (.cells #[.bool false, .slice none 0 0, .slice none 0 0] 24))) := ((Below.refl _ w).alloc (Nat.le_refl _) _).alloc (by simp) _
  have pa := (Abx.new w (.bool c) (.slice sa sz.length sc) (.slice da dz.length dc)).al (.cells #[.bool false, .slice none 0 0, .slice none 0 0] 24)
  have pr := Abx.new1 w (.cells #[.bool c, .slice sa sz.length sc, .slice da dz.length dc] 24) (.bool false) (.slice none 0 0) (.slice none 0 0)
  have p0 := pa.c0
  have p1 := pa.c1
  have p2 := pa.c2
  go_enter Tryd.func15, Tryd.ntmps15
  go_wp2_with fail
  refine (axis_any x c sa sc sz da dc dz h1 h2 _ ((HI.out.1.below hb.out).mono hb.out.size) ((HI.out.2.1.below hb.out).mono hb.out.size)).mono ?_
  rintro e v1 ⟨rfl, hB⟩
  replace hb : Hid (Below w.heap.size w v1) := hb.out.trans (hB.mono hb.out.size)
  have HP : Hid (Abx v1 w.heap.size (.bool c) (.slice sa sz.length sc) (.slice da dz.length dc)) := pa.go hB
  have HR : Hid (Abx v1 (w.heap.size + 1) (.bool false) (.slice none 0 0) (.slice none 0 0)) := pr.go hB
  have hR1 : w.heap.size + 1 < v1.heap.size := HR.out.lt
  clear hB pa pr p0 p1 p2
  by_cases he : axE x c sz dz = 0
  · rw [he]
    have HA : Hid (axE x c sz dz = 0) := he
    have HF : Hid (flawE c sz dz = 0 ∧ errOf sz = 0 ∧ sz.length ≤ 6 ∧ dz.length ≤ 4096) := ⟨(axE_zero.1 he).1, (flawE_zero (axE_zero.1 he).1).1, flawE_short (axE_zero.1 he).1⟩
    obtain ⟨xn, hxn⟩ : ∃ xn : Nat, (xn : Int) = x := ⟨x.toNat, by have := (axE_zero.1 he).2.1; omega⟩
    have hxl : xn < sz.length := by have := (axE_zero.1 he).2.2; omega
    subst hxn
    clear he
    have p1 := HP.out.c1
    obtain ⟨bs, os, rfl, hbs, hcS⟩ := (HI.out.1.below hb.out).at hxl
    have cs := hcS xn hxl
    clear hcS
    obtain ⟨z0, hz0⟩ : ∃ z0, z0 = nth sz xn := ⟨_, rfl⟩
    rw [← hz0] at cs
    have HZ0 : Hid (nth sz xn = z0) := hz0.symm
    clear hz0
    by_cases hlz : (l : Int) = z0
    · have tl : ((l : Int) != z0) = false := by simp [hlz]
      have HLz : Hid ((m.length : Int) = nth sz xn) := by show _ = _; rw [HM.out, hlz, HZ0.out]
      clear hlz
      go_wp2_with fail
      refine (mask_n ma mc m l HM.out (by rw [HM.out]; exact hl9) v1.heap.size v1 ((HI.out.2.2.below hb.out).mono hb.out.size)).mono ?_
      rintro e v9 ⟨rfl, hv9⟩
      obtain rfl := hv9.symm
      cases hmk : mskB m
      · have HE : Hid (kpE m xn c sz dz = 6) := by show _ = _; unfold kpE; rw [if_neg (by simpa using HA.out), if_neg (by rw [Int.toNat_natCast]; simpa using HLz.out), if_pos hmk]
        clear hmk
        have r_0 := HR.out.c0
        have r_1 := HR.out.c1
        have r_2 := HR.out.c2
        have f_0 := HR.out.fr 0
        have f_1 := HR.out.fr 1
        have f_2 := HR.out.fr 2
        go_wp2_with fail
        have FF := HR.out.set3 (.bool false) (.slice none 0 0) (.slice none 0 0)
        have q0 := FF.c0
        have q1 := FF.c1
        have q2 := FF.c2
        exact bodyPost_ret (v := .tuple #[.agg #[.bool false, .slice none 0 0, .slice none 0 0], .int .i64 6]) (by simp [results, Tryd.results15, go_sem, q0, q1, q2]) rfl (UR.no HE.out (by decide) (bel_set3 hb.out (by omega) _ _ _))
      · have HK : Hid (mskB m = true) := hmk
        have HE : Hid (kpE m xn c sz dz = 0) := kpZ.2 ⟨HF.out.1, hxl, HLz.out, hmk⟩
        clear hmk
        obtain ⟨q0, hq0⟩ : ∃ q0, q0 = sumI m := ⟨_, rfl⟩
        have HQ0 : Hid (sumI m = q0) := hq0.symm
        obtain ⟨n, hn⟩ : ∃ n, n = sz.length := ⟨_, rfl⟩
        have HN : Hid (n = sz.length) := hn
        have hxn : xn < n := by rw [hn]; exact hxl
        have hn6 : n ≤ 6 := by have := HF.out.2.2.1; omega
        have HP' : Hid (Abx v1 w.heap.size (.bool c) (.slice (some ⟨bs, os, none⟩) n sc) (.slice da dz.length dc)) := by rw [hn]; exact HP.out
        have d0 := HP'.out.c0
        have d1 := HP'.out.c1
        clear hq0 hn p1 cs HP
        go_upto_region 8 with fail
        go_cut [9] (fun s9 wc => ∃ B g gc, s9 = .pointer (some ⟨B, 0, none⟩) ∧ Out6 v1 B c g gc n sz wc)
        case first =>
          have hbW : Hid (Below v1.heap.size v1 v1.drew) := (Below.refl _ v1).drew
          refine anyT_begin 7 (fun w' => w'.cell? ⟨w.heap.size, 0, none⟩ = some (.bool c) ∧ w'.cell? ⟨w.heap.size, 1, none⟩ = some (.slice (some ⟨bs, os, none⟩) n sc)) 8 #[false, false, false, false, false, false, false, false] (by kernel_rfl) rfl rfl ?_
          refine anyT_put 0 32 ?rv22 #[true, false, false, false, false, false, false, false] rfl rfl rfl (by kernel_rfl) (by kernel_rfl) (by kernel_rfl) (fun _ _ _ h => h) (by decide) ?ry22 (fun _ => ⟨d0, d1⟩) ?rm22
          case ry22 => first | exact Or.inl ⟨by rfl, by intro w'; go_simp; first | done | rfl⟩
          case rm22 =>
          simp only [Act.put, List.setIfInBounds_toArray, List.set_cons_zero, List.set_cons_succ]
          refine anyT_take 1 33 ?rv23 #[true, true, false, false, false, false, false, false] rfl rfl rfl (by kernel_rfl) (by kernel_rfl) (by kernel_rfl) (fun _ _ _ h => h) (by kernel_rfl) (by decide) (by kernel_rfl) ?ry23 (⟨d0, d1⟩) ?rm23
          case ry23 => first | exact Or.inl ⟨by rfl, by intro w' hw'; (try dsimp only at hw'); go_simp; first | done | rfl⟩
          case rm23 =>
          simp only [Act.put, List.setIfInBounds_toArray, List.set_cons_zero, List.set_cons_succ]
          refine anyT_put 2 34 ?rv24 #[true, true, true, false, false, false, false, false] rfl rfl rfl (by kernel_rfl) (by kernel_rfl) (by kernel_rfl) (fun _ _ _ h => h) (by decide) ?ry24 (fun _ => ⟨d0, d1⟩) ?rm24
          case ry24 => first | exact Or.inl ⟨by rfl, by intro w'; go_simp; first | done | rfl⟩
          case rm24 =>
          simp only [Act.put, List.setIfInBounds_toArray, List.set_cons_zero, List.set_cons_succ]
          refine anyT_take 3 35 ?rv25 #[true, true, true, true, false, false, false, false] rfl rfl rfl (by kernel_rfl) (by kernel_rfl) (by kernel_rfl) (fun _ _ _ h => h) (by kernel_rfl) (by decide) (by kernel_rfl) ?ry25 (⟨d0, d1⟩) ?rm25
          case ry25 => first | exact Or.inl ⟨by rfl, by intro w' hw'; (try dsimp only at hw'); go_simp; first | done | rfl⟩
          case rm25 =>
          simp only [Act.put, List.setIfInBounds_toArray, List.set_cons_zero, List.set_cons_succ]
          refine anyT_br2 4 6 #[true, true, true, true, true, false, false, false] #[true, true, true, true, false, false, true, false] (by kernel_rfl) rfl rfl rfl rfl (fun K hK => ?ba26) (fun K hK => ?bb26)
          case ba26 =>
            go_simp
            go_wp2_with (go_at_call 28; refine (copied_n (some ⟨bs, os, none⟩) sc sz n HN.out.symm (by rw [← HN.out]; omega) (v1.drew) ((HI.out.1.below (hb.out.trans (hbW.out.mono hb.out.size))).mono (Nat.le_trans hb.out.size hbW.out.size))).mono ?_; rintro e w2 ⟨g, gc, rfl, hG, hBc⟩)
            have hbWa : Hid (Below v1.heap.size v1 w2) := hbW.out.trans (hBc.mono hbW.out.size)
            have pc := HP'.out.go hbWa.out
            try (have rB : Abx w2 v1.heap.size (.bool false) (.slice none 0 0) (.slice none 0 0) := RB.out.go hBc)
            try (have r0 := rB.c0)
            try (have r1 := rB.c1)
            try (have r2 := rB.c2)
            try (have f0 := rB.fr 0)
            try (have f1 := rB.fr 1)
            try (have f2 := rB.fr 2)
            refine hK.out _ _ (fun _ => ⟨pc.c0, pc.c1⟩) ?_
            clear hK K
            refine anyT_put 5 37 ?rv27 #[true, true, true, true, true, true, false, false] rfl rfl rfl (by kernel_rfl) (by kernel_rfl) (by kernel_rfl) (fun _ _ _ h => h) (by decide) ?ry27 (fun _ => ⟨pc.c0, pc.c1⟩) ?rm27
            case ry27 => first | exact Or.inl ⟨by rfl, by intro w'; go_simp; first | done | rfl⟩
            case rm27 =>
            simp only [Act.put, List.setIfInBounds_toArray, List.set_cons_zero, List.set_cons_succ]
            refine anyT_one 6 #[true, true, true, true, true, true, true, false] (by kernel_rfl) rfl rfl (fun K hK => ?_)
            go_simp
            have hbWab : Hid (Below v1.heap.size v1 (w2.alloc (.cells #[.bool false, .slice none 0 0, .slice none 0 0] 24))) := hbWa.out.alloc hbWa.out.size _
            have pda := HP'.out.go hbWab.out
            have RB : Hid (Abx (w2.alloc (.cells #[.bool false, .slice none 0 0, .slice none 0 0] 24)) w2.heap.size (.bool false) (.slice none 0 0) (.slice none 0 0)) := Abx.new _ _ _ _
            refine hK.out _ _ (fun _ => ⟨pda.c0, pda.c1⟩) ?_
            clear hK K
            refine anyT_one 7 #[true, true, true, true, true, true, true, true] (by kernel_rfl) rfl rfl (fun K hK => ?_)
            go_simp
            refine hK.out _ _ (fun h => absurd h (by decide)) ?_
            clear hK K
            refine anyT_done (by kernel_rfl) ?_
            go_wp2_with fail
            go_meet
            first | exact ⟨_, g, gc, rfl, out6_a hG hbWa.out⟩ | exact ⟨_, g, gc, rfl, out6_b (by have h := hG; rw [World.size_alloc] at h; exact h) rB hbWba.out⟩
          case bb26 =>
            go_simp
            have hbWb : Hid (Below v1.heap.size v1 ((v1.drew).alloc (.cells #[.bool false, .slice none 0 0, .slice none 0 0] 24))) := hbW.out.alloc hbW.out.size _
            have pd := HP'.out.go hbWb.out
            have RB : Hid (Abx ((v1.drew).alloc (.cells #[.bool false, .slice none 0 0, .slice none 0 0] 24)) (v1.drew).heap.size (.bool false) (.slice none 0 0) (.slice none 0 0)) := Abx.new _ _ _ _
            refine hK.out _ _ (fun _ => ⟨pd.c0, pd.c1⟩) ?_
            clear hK K
            refine anyT_one 4 #[true, true, true, true, true, false, true, false] (by kernel_rfl) rfl rfl (fun K hK => ?_)
            go_simp
            go_wp2_with (go_at_call 28; refine (copied_n (some ⟨bs, os, none⟩) sc sz n HN.out.symm (by rw [← HN.out]; omega) ((v1.drew).alloc (.cells #[.bool false, .slice none 0 0, .slice none 0 0] 24)) ((HI.out.1.below (hb.out.trans (hbWb.out.mono hb.out.size))).mono (Nat.le_trans hb.out.size hbWb.out.size))).mono ?_; rintro e w2 ⟨g, gc, rfl, hG, hBc⟩)
            have hbWba : Hid (Below v1.heap.size v1 w2) := hbWb.out.trans (hBc.mono hbWb.out.size)
            have pcb := HP'.out.go hbWba.out
            try (have rB : Abx w2 v1.heap.size (.bool false) (.slice none 0 0) (.slice none 0 0) := RB.out.go hBc)
            try (have r0 := rB.c0)
            try (have r1 := rB.c1)
            try (have r2 := rB.c2)
            try (have f0 := rB.fr 0)
            try (have f1 := rB.fr 1)
            try (have f2 := rB.fr 2)
            refine hK.out _ _ (fun _ => ⟨pcb.c0, pcb.c1⟩) ?_
            clear hK K
            refine anyT_put 5 37 ?rv31 #[true, true, true, true, true, true, true, false] rfl rfl rfl (by kernel_rfl) (by kernel_rfl) (by kernel_rfl) (fun _ _ _ h => h) (by decide) ?ry31 (fun _ => ⟨pcb.c0, pcb.c1⟩) ?rm31
            case ry31 => first | exact Or.inl ⟨by rfl, by intro w'; go_simp; first | done | rfl⟩
            case rm31 =>
            simp only [Act.put, List.setIfInBounds_toArray, List.set_cons_zero, List.set_cons_succ]
            refine anyT_one 7 #[true, true, true, true, true, true, true, true] (by kernel_rfl) rfl rfl (fun K hK => ?_)
            go_simp
            refine hK.out _ _ (fun h => absurd h (by decide)) ?_
            clear hK K
            refine anyT_done (by kernel_rfl) ?_
            go_wp2_with fail
            go_meet
            first | exact ⟨_, g, gc, rfl, out6_a hG hbWa.out⟩ | exact ⟨_, g, gc, rfl, out6_b (by have h := hG; rw [World.size_alloc] at h; exact h) rB hbWba.out⟩
        case rest =>
          obtain ⟨B, g, gc, rfl, hO⟩ := hcut
          obtain ⟨v2, hv2⟩ : ∃ v2, v2 = wc := ⟨_, rfl⟩
          subst hv2
          have hb2 : Hid (Below w.heap.size w v2) := hb.out.trans (hO.2.2.2.mono hb.out.size)
          have HO : Hid (Abx v2 w.heap.size (.bool c) (.slice (some ⟨bs, os, none⟩) n sc) (.slice da dz.length dc) ∧ Abx v2 (w.heap.size + 1) (.bool false) (.slice none 0 0) (.slice none 0 0) ∧ Abx v2 B (.bool c) (.slice g n gc) (.slice none 0 0) ∧ SepInts v1.heap.size v2.heap.size B v2 g sz) := ⟨HP'.out.go hO.2.2.2, HR.out.go hO.2.2.2, hO.2.1, hO.2.2.1⟩
          have hBl : w.heap.size + 1 < B := by have := hO.1; omega
          have hB2 : B < v2.heap.size := hO.2.1.lt
          have hv12 : v1.heap.size ≤ v2.heap.size := hO.2.2.2.size
          have hbv : w.heap.size ≤ v1.heap.size := hb.out.size
          clear d0 d1
          have hSep := hO.2.2.1
          rcases hSep with e0 | ⟨bt, ot, rfl, l0, lB, hbt, hcT, hfT⟩
          · rw [e0] at hxl; simp at hxl
          have ct := hcT xn hxl
          have fT := hfT xn
          have o1 := HO.out.2.2.1.c1
          obtain ⟨S, hS⟩ : ∃ S, S = sz.set xn q0 := ⟨_, rfl⟩
          have HS : Hid (S = kpS m xn sz ∧ S.length = n) := ⟨by rw [hS]; unfold kpS; rw [HQ0.out], by rw [hS, List.length_set]; exact HN.out.symm⟩
          obtain ⟨v3, hv3⟩ : ∃ v3, v3 = (v2.setCell ⟨bt, ot + xn, none⟩ (.int .i64 q0)).drew := ⟨_, rfl⟩
          have HV3 : Hid (v3 = (v2.setCell ⟨bt, ot + xn, none⟩ (.int .i64 q0)).drew) := hv3
          have hB23 : Below v1.heap.size v2 v3 := by rw [hv3]; exact (((Below.refl _ v2).mono hv12).setCell (p := ⟨bt, ot + xn, none⟩) l0 _).drew
          have hs23 : v3.heap.size = v2.heap.size := by rw [hv3]; simp [World.setCell]
          have HO3 : Hid (Abx v3 w.heap.size (.bool c) (.slice (some ⟨bs, os, none⟩) n sc) (.slice da dz.length dc) ∧ Abx v3 (w.heap.size + 1) (.bool false) (.slice none 0 0) (.slice none 0 0) ∧ Abx v3 B (.bool c) (.slice (some ⟨bt, ot, none⟩) n gc) (.slice none 0 0) ∧ SepInts v1.heap.size v3.heap.size B v3 (some ⟨bt, ot, none⟩) S ∧ Below w.heap.size w v3) := by
            refine ⟨HO.out.1.bel hB23 (by omega), HO.out.2.1.bel hB23 (by omega), ?_, ?_, hb2.out.trans (hB23.mono hbv)⟩
            · rw [hv3]; exact (HO.out.2.2.1.ot (Ne.symm lB) _).dr
            · rw [hs23, hv3, hS]; exact (SepInts.put HO.out.2.2.2 hxl _).dr
          clear hcT hfT hO hS hv3 hB23
          go_wp2_with fail
          refine anyT_begin 5 (fun w' => w'.cell? ⟨B, 1, none⟩ = some (.slice (some ⟨bt, ot, none⟩) n gc)) 7 #[false, false, false, false, false, false, false] (by kernel_rfl) rfl rfl ?_
          refine anyT_put 0 38 ?rv33 #[true, false, false, false, false, false, false] rfl rfl rfl (by kernel_rfl) (by kernel_rfl) (by kernel_rfl) (fun _ _ _ h => h) (by decide) ?ry33 (fun _ => o1) ?rm33
          case ry33 => first | exact Or.inl ⟨by rfl, by intro w'; go_simp; first | done | rfl⟩
          case rm33 =>
          simp only [Act.put, List.setIfInBounds_toArray, List.set_cons_zero, List.set_cons_succ]
          refine anyT_take 1 39 ?rv34 #[true, true, false, false, false, false, false] rfl rfl rfl (by kernel_rfl) (by kernel_rfl) (by kernel_rfl) (fun _ _ _ h => h) (by kernel_rfl) (by decide) (by kernel_rfl) ?ry34 (o1) ?rm34
          case ry34 => first | exact Or.inl ⟨by rfl, by intro w' hw'; (try dsimp only at hw'); go_simp; first | done | rfl⟩
          case rm34 =>
          simp only [Act.put, List.setIfInBounds_toArray, List.set_cons_zero, List.set_cons_succ]
          refine anyT_put 2 40 ?rv35 #[true, true, true, false, false, false, false] rfl rfl rfl (by kernel_rfl) (by kernel_rfl) (by kernel_rfl) (fun _ _ _ h => h) (by decide) ?ry35 (fun _ => o1) ?rm35
          case ry35 => first | exact Or.inl ⟨by rfl, by intro w'; go_simp; first | done | rfl⟩
          case rm35 =>
          simp only [Act.put, List.setIfInBounds_toArray, List.set_cons_zero, List.set_cons_succ]
          refine anyT_put 3 41 ?rv36 #[true, true, true, true, false, false, false] rfl rfl rfl (by kernel_rfl) (by kernel_rfl) (by kernel_rfl) (fun _ _ _ h => h) (by decide) ?ry36 (fun _ => o1) ?rm36
          case ry36 => first | exact Or.inl ⟨by rfl, by intro w'; go_simp; first | done | rfl⟩
          case rm36 =>
          simp only [Act.put, List.setIfInBounds_toArray, List.set_cons_zero, List.set_cons_succ]
          refine anyT_one 4 #[true, true, true, true, true, false, false] (by kernel_rfl) rfl rfl (fun K hK => ?_)
          go_simp
          go_wp2_with (go_at_call 38; refine (sum_n ma mc m l HM.out q0 HQ0.out (by rw [HM.out]; exact hl9) HK.out v2.heap.size v2.drew ((HI.out.2.2.below hb2.out).mono hb2.out.size)).mono ?_; rintro e w3 ⟨rfl, rfl⟩)
          refine hK.out _ _ (fun _ => o1) ?_
          clear hK K
          refine anyT_one 5 #[true, true, true, true, true, true, false] (by kernel_rfl) rfl rfl (fun K hK => ?_)
          go_simp
          refine hK.out _ _ (fun h => absurd h (by decide)) ?_
          clear hK K
          refine anyT_one 6 #[true, true, true, true, true, true, true] (by kernel_rfl) rfl rfl (fun K hK => ?_)
          go_simp
          refine hK.out _ _ (fun h => absurd h (by decide)) ?_
          clear hK K
          refine anyT_done (by kernel_rfl) ?_
          rw [← HV3.out]
          clear ct fT o1
          obtain ⟨D, hD⟩ : ∃ D, D = kpD m xn sz dz := ⟨_, rfl⟩
          have HD : Hid (D = kpD m xn sz dz ∧ (D.length : Int) = prod (kpS m xn sz) ∧ (dz.length : Int) = prod sz) := ⟨hD, by rw [hD]; exact TA_len (kp_err HE.out), (flawE_zero HF.out.1).2.1⟩
          have hl4 := HF.out.2.2.2
          have hD4 : D.length ≤ 4096 := by have := (errOf_zero.1 (kp_err HE.out)).2.2; have := HD.out.2.1; omega
          clear hD
          go_wp2_with fail
          go_loopw [10] (fun i wx => ∃ (k cn : Nat) (v : Value), k ≤ dz.length ∧ i = .int .i64 k ∧ (cn : Int) = kc m (nth sz xn) (stp sz xn) k ∧ cn ≤ D.length ∧ Abx wx w.heap.size (.bool c) (.slice (some ⟨bs, os, none⟩) n sc) (.slice da dz.length dc) ∧ Abx wx (w.heap.size + 1) (.bool false) (.slice none 0 0) (.slice none 0 0) ∧ Abx wx B (.bool c) (.slice (some ⟨bt, ot, none⟩) n gc) v
              ∧ wx.ownsRow v3.heap.size 3 1 v (D.take cn).length ((D.take cn).map (Value.int .i64)) ∧ SepInts v1.heap.size v3.heap.size B wx (some ⟨bt, ot, none⟩) S ∧ v3.heap.size ≤ wx.heap.size ∧ Below w.heap.size w wx) (fun i _ => dz.length - (intOf i).toNat)
          case atStart => exact ⟨0, 0, .slice none 0 0, Nat.zero_le _, rfl, (kc_zero ((errOf_zero.1 HF.out.2.1).2.1.nth xn).1).symm, Nat.zero_le _, HO3.out.1, HO3.out.2.1, HO3.out.2.2.1, World.ownsRow_nil _ _ _ _, HO3.out.2.2.2.1, Nat.le_refl _, HO3.out.2.2.2.2⟩
          case round =>
            obtain ⟨k, cn, v, hk, rfl, hkc, hcn, hP, hR, hU, hown, hSp, hsx, hBx⟩ := hrel
            have HC : Hid ((cn : Int) = kc m (nth sz xn) (stp sz xn) k) := hkc
            have p2 := hP.c2
            have p1 := hP.c1
            by_cases hlt : k < dz.length
            · have HKk : Hid ((k : Int) < prod sz) := by show _ < _; rw [← HD.out.2.2]; omega
              have HQ : Hid (Abx wr w.heap.size (.bool c) (.slice (some ⟨bs, os, none⟩) n sc) (.slice da dz.length dc) ∧ Abx wr (w.heap.size + 1) (.bool false) (.slice none 0 0) (.slice none 0 0) ∧ Abx wr B (.bool c) (.slice (some ⟨bt, ot, none⟩) n gc) v ∧ SepInts v1.heap.size v3.heap.size B wr (some ⟨bt, ot, none⟩) S ∧ Below w.heap.size w wr) := ⟨hP, hR, hU, hSp, hBx⟩
              clear hP hR hU hSp hBx hkc
              go_wp2_with fail
              refine (coords_n (some ⟨bs, os, none⟩) sc sz n k HN.out.symm HF.out.2.1 HKk.out wr ((HI.out.1.below HQ.out.2.2.2.2).mono HQ.out.2.2.2.2.size)).mono ?_
              rintro e w2 ⟨ta, tc, rfl, hA, hB3⟩
              have hcin := cr_fact HF.out.2.1 HKk.out
              have HRd : Hid _ := kc_round HE.out HKk.out
              obtain ⟨t, ht⟩ : ∃ t, t = cr sz k := ⟨_, rfl⟩
              rw [← ht] at hA hcin HRd
              have hxt : xn < t.length := by rw [insB_len hcin.1]; exact hxl
              rcases hA with e0 | ⟨b1, o1, rfl, l1, hb1, hcT, hfT⟩
              · rw [e0] at hxt; simp at hxt
              have hxi := ins_at hcin.1 (x := xn) hxl
              rw [← HLz.out, HM.out] at hxi
              obtain ⟨i, hi⟩ : ∃ i : Nat, nth t xn = i := ⟨(nth t xn).toNat, by omega⟩
              have hil : i < l := by omega
              have ct := hcT xn hxt
              rw [hi] at ct
              rw [hi, Int.toNat_natCast, ← HC.out] at HRd
              have HB3 : Hid (Below wr.heap.size wr w2) := hB3
              have HBw2 : Hid (Below w.heap.size w w2) := HQ.out.2.2.2.2.trans (hB3.mono HQ.out.2.2.2.2.size)
              obtain ⟨bm, om, rfl, hbm, hcM⟩ := (HI.out.2.2.below HBw2.out).at (q := i) (by rw [HM.out]; exact hil)
              have cm := hcM i (by rw [HM.out]; exact hil)
              obtain ⟨y, hy⟩ : ∃ y, y = nth m i := ⟨_, rfl⟩
              rw [← hy] at cm HRd
              have A2 := HQ.out.1.go hB3
              have U2 := HQ.out.2.2.1.go hB3
              have hown2 := own_go hown hB3
              have hsz2 : v3.heap.size ≤ w2.heap.size := Nat.le_trans hsx hB3.size
              have HXn : Hid (nth m i = y) := hy.symm
              have hx64 : xn ≤ 6 := by omega
              clear hcT hfT hB3 hcin hxi hcM ht hi hy hown p1 p2
              by_cases h1 : y = 1
              · have tz : (y == 1) = true := by simp [h1]
                obtain ⟨hR1', hR2'⟩ := HRd.out
                obtain ⟨hz1, hz2, hz3⟩ := hR2' h1
                rw [h1] at hR1'
                rw [Int.toNat_natCast] at hz3
                have hcl : cn < D.length := by have := HD.out.2.1; omega
                have HV : Hid (nth dz k = nth D cn) := by show _ = _; rw [HD.out.1]; exact hz3.symm
                have HC2 : Hid (((cn + 1 : Nat) : Int) = kc m (nth sz xn) (stp sz xn) ((k + 1 : Nat) : Int)) := by show _ = _; rw [show ((k + 1 : Nat) : Int) = (k : Int) + 1 by omega, hR1']; omega
                obtain ⟨bd, od, rfl, hbd, hcD⟩ := (HI.out.2.1.below HBw2.out).at hlt
                have cd := hcD k hlt
                have o6 := U2.c2
                have d6 := A2.c2
                have hw2 : w.heap.size ≤ w2.heap.size := HBw2.out.size
                clear h1 hR1' hR2' hz1 hz2 hz3 hcD HRd
                go_wp2_with fail
                refine anyT_begin 9 (fun w' => w'.cell? ⟨B, 2, none⟩ = some v ∧ w'.cell? ⟨w.heap.size, 2, none⟩ = some (.slice (some ⟨bd, od, none⟩) dz.length dc) ∧ w'.cell? ⟨bd, od + k, none⟩ = some (.int .i64 (nth dz k))) 11 #[false, false, false, false, false, false, false, false, false, false, false] (by kernel_rfl) rfl rfl ?_
                refine anyT_put 0 63 ?rv40 #[true, false, false, false, false, false, false, false, false, false, false] rfl rfl rfl (by kernel_rfl) (by kernel_rfl) (by kernel_rfl) (fun _ _ _ h => h) (by decide) ?ry40 (fun _ => ⟨o6, d6, cd⟩) ?rm40
                case ry40 => first | exact Or.inl ⟨by rfl, by intro w'; go_simp; first | done | rfl⟩
                case rm40 =>
                simp only [Act.put, List.setIfInBounds_toArray, List.set_cons_zero, List.set_cons_succ]
                refine anyT_take 1 64 ?rv41 #[true, true, false, false, false, false, false, false, false, false, false] rfl rfl rfl (by kernel_rfl) (by kernel_rfl) (by kernel_rfl) (fun _ _ _ h => h) (by kernel_rfl) (by decide) (by kernel_rfl) ?ry41 (⟨o6, d6, cd⟩) ?rm41
                case ry41 => first | exact Or.inl ⟨by rfl, by intro w' hw'; (try dsimp only at hw'); go_simp; first | done | rfl⟩
                case rm41 =>
                simp only [Act.put, List.setIfInBounds_toArray, List.set_cons_zero, List.set_cons_succ]
                refine anyT_put 2 65 ?rv42 #[true, true, true, false, false, false, false, false, false, false, false] rfl rfl rfl (by kernel_rfl) (by kernel_rfl) (by kernel_rfl) (fun _ _ _ h => h) (by decide) ?ry42 (fun _ => ⟨o6, d6, cd⟩) ?rm42
                case ry42 => first | exact Or.inl ⟨by rfl, by intro w'; go_simp; first | done | rfl⟩
                case rm42 =>
                simp only [Act.put, List.setIfInBounds_toArray, List.set_cons_zero, List.set_cons_succ]
                refine anyT_take 3 66 ?rv43 #[true, true, true, true, false, false, false, false, false, false, false] rfl rfl rfl (by kernel_rfl) (by kernel_rfl) (by kernel_rfl) (fun _ _ _ h => h) (by kernel_rfl) (by decide) (by kernel_rfl) ?ry43 (⟨o6, d6, cd⟩) ?rm43
                case ry43 => first | exact Or.inl ⟨by rfl, by intro w' hw'; (try dsimp only at hw'); go_simp; first | done | rfl⟩
                case rm43 =>
                simp only [Act.put, List.setIfInBounds_toArray, List.set_cons_zero, List.set_cons_succ]
                refine anyT_put 4 67 ?rv44 #[true, true, true, true, true, false, false, false, false, false, false] rfl rfl rfl (by kernel_rfl) (by kernel_rfl) (by kernel_rfl) (fun _ _ _ h => h) (by decide) ?ry44 (fun _ => ⟨o6, d6, cd⟩) ?rm44
                case ry44 => first | exact Or.inl ⟨by rfl, by intro w'; go_simp; first | done | rfl⟩
                case rm44 =>
                simp only [Act.put, List.setIfInBounds_toArray, List.set_cons_zero, List.set_cons_succ]
                refine anyT_put 5 68 ?rv45 #[true, true, true, true, true, true, false, false, false, false, false] rfl rfl rfl (by kernel_rfl) (by kernel_rfl) (by kernel_rfl) (fun _ _ _ h => h) (by decide) ?ry45 (fun _ => ⟨o6, d6, cd⟩) ?rm45
                case ry45 => first | exact Or.inl ⟨by rfl, by intro w'; go_simp; first | done | rfl⟩
                case rm45 =>
                simp only [Act.put, List.setIfInBounds_toArray, List.set_cons_zero, List.set_cons_succ]
                refine anyT_take 6 69 ?rv46 #[true, true, true, true, true, true, true, false, false, false, false] rfl rfl rfl (by kernel_rfl) (by kernel_rfl) (by kernel_rfl) (fun _ _ _ h => h) (by kernel_rfl) (by decide) (by kernel_rfl) ?ry46 (⟨o6, d6, cd⟩) ?rm46
                case ry46 => first | exact Or.inl ⟨by rfl, by intro w' hw'; (try dsimp only at hw'); go_simp; first | done | rfl⟩
                case rm46 =>
                simp only [Act.put, List.setIfInBounds_toArray, List.set_cons_zero, List.set_cons_succ]
                refine anyT_one 7 #[true, true, true, true, true, true, true, true, false, false, false] (by kernel_rfl) rfl rfl (fun K hK => ?_)
                go_simp
                have k0 := A2.al (.cells #[.int .i64 (nth dz k)] 3)
                have k1 := U2.al (.cells #[.int .i64 (nth dz k)] 3)
                have k2 : (w2.alloc (.cells #[.int .i64 (nth dz k)] 3)).cell? ⟨bd, od + k, none⟩ = some (.int .i64 (nth dz k)) := (World.cell?_alloc_lt w2 _ ⟨bd, od + k, none⟩ (by show bd < w2.heap.size; omega)).trans cd
                refine hK.out _ _ (fun _ => ⟨k1.c2, k0.c2, k2⟩) ?_
                clear hK K
                refine anyT_one 8 #[true, true, true, true, true, true, true, true, true, false, false] (by kernel_rfl) rfl rfl (fun K hK => ?_)
                refine app_step 71 rfl rfl _ _ rfl _ v3.heap.size w2.heap.size v (D.take cn) (nth dz k) rfl rfl ((hown2.alloc _).drew) (heap_alloc_new w2 _) (by rw [take_lenR _ hcn]; omega) (by simp; omega) ?_
                intro g1 gc1 w4 hown1 hB4
                have P7 := k0.dr.bel hB4 (by omega)
                have HO1 : Hid (Abx w4 B (.bool c) (.slice (some ⟨bt, ot, none⟩) n gc) v) := k1.dr.bel hB4 (by omega)
                have x2 := HO1.out.c2
                have xf := HO1.out.fr 2
                have xd : w4.cell? ⟨bd, od + k, none⟩ = some (.int .i64 (nth dz k)) := (hB4.cell (p := ⟨bd, od + k, none⟩) (by show bd < _; omega)).trans k2
                refine hK.out _ _ (fun _ => ⟨x2, P7.c2, xd⟩) ?_
                clear hK K
                simp only [Act.put, List.setIfInBounds_toArray, List.set_cons_zero, List.set_cons_succ]
                refine anyT_one 9 #[true, true, true, true, true, true, true, true, true, true, false] (by kernel_rfl) rfl rfl (fun K hK => ?_)
                go_simp
                refine hK.out _ _ (fun h => absurd h (by decide)) ?_
                clear hK K
                refine anyT_one 10 #[true, true, true, true, true, true, true, true, true, true, true] (by kernel_rfl) rfl rfl (fun K hK => ?_)
                go_simp
                refine hK.out _ _ (fun h => absurd h (by decide)) ?_
                clear hK K
                refine anyT_done (by kernel_rfl) ?_
                go_wp2_with fail
                rw [HV.out, ← take_snoc D cn (by omega), take_lenR D hcn] at hown1
                have hz4 := hB4.size
                simp at hz4
                refine ⟨⟨k + 1, cn + 1, .slice (some ⟨g1, 0, none⟩) (cn + 1) gc1, by omega, by go_num, HC2.out, by omega, P7.ot (by show w.heap.size ≠ B; omega) _, ?_, HO1.out.s2 _, ?_, ?_, by simp [World.setCell]; omega, ?_⟩, by simp [intOf]; omega⟩
                · exact (((HQ.out.2.1.go HB3.out).al _).dr.bel hB4 (by omega)).ot (by show w.heap.size + 1 ≠ B; omega) _
                · rw [take_lenR D (show cn + 1 ≤ D.length by omega)]
                  exact ownsRow_setCell_below hown1 (by show B < v3.heap.size; omega) _
                · exact (((((HQ.out.2.2.2.1.bel (HB3.out.mono hsx)).al (by omega) _).dr).bel hB4)).set 2 _
                · exact (((HBw2.out.alloc HBw2.out.size _).drew.trans (hB4.mono (by omega)))).setCell (p := ⟨B, 2, none⟩) (by show w.heap.size ≤ B; omega) _
              · have tz : (y == 1) = false := by simp [h1]
                have hy0 : y = 0 := by have h := mskB_nth HK.out (j := i) (by rw [HM.out]; exact hil); rw [HXn.out] at h; exact h.resolve_right h1
                have HC2 : Hid ((cn : Int) = kc m (nth sz xn) (stp sz xn) ((k + 1 : Nat) : Int)) := by show _ = _; rw [show ((k + 1 : Nat) : Int) = (k : Int) + 1 by omega, HRd.out.1, hy0]; omega
                clear h1 hy0 HRd
                go_wp2_with fail
                exact ⟨⟨k + 1, cn, v, by omega, by go_num, HC2.out, hcn, A2, HQ.out.2.1.go HB3.out, U2, hown2, HQ.out.2.2.2.1.bel (HB3.out.mono hsx), hsz2, HBw2.out⟩, by simp [intOf]; omega⟩
            · have hkq : k = dz.length := by omega
              have hcD : cn = D.length := by
                have h := HC.out
                rw [hkq, HD.out.2.2, kc_all HE.out, ← HD.out.2.1] at h
                omega
              subst hcD
              rw [List.take_length] at hown
              obtain ⟨g1, gc1, rfl, hN1⟩ := owns_new hown
              have o0 := hU.c0
              have o1 := hU.c1
              have o2 := hU.c2
              have r_0 := hR.c0
              have r_1 := hR.c1
              have r_2 := hR.c2
              have f_0 := hR.fr 0
              have f_1 := hR.fr 1
              have f_2 := hR.fr 2
              clear hown hkq hkc
              go_wp2_with fail
              have FF := hR.set3 (.bool c) (.slice (some ⟨bt, ot, none⟩) n gc) (.slice g1 D.length gc1)
              have q0' := FF.c0
              have q1' := FF.c1
              have q2' := FF.c2
              refine bodyPost_ret (v := .tuple #[.agg #[.bool c, .slice (some ⟨bt, ot, none⟩) n gc, .slice g1 D.length gc1], .int .i64 0]) (by simp [results, Tryd.results15, go_sem, q0', q1', q2']) rfl ?_
              have hX := ((hSp.new hsx).set3 (b := w.heap.size + 1) (by omega) (.bool c) (.slice (some ⟨bt, ot, none⟩) n gc) (.slice g1 D.length gc1)).low (lo' := w.heap.size) (by omega)
              have hY := (hN1.set3 (b := w.heap.size + 1) (by omega) (.bool c) (.slice (some ⟨bt, ot, none⟩) n gc) (.slice g1 D.length gc1)).low (lo' := w.heap.size) (by omega)
              have hZ := bel_set3 hBx (b := w.heap.size + 1) (by omega) (.bool c) (.slice (some ⟨bt, ot, none⟩) n gc) (.slice g1 D.length gc1)
              have hUR := UR.ok (c := c) (xc := gc) (yc := gc1) HE.out hX hY hZ
              have hE1 := HS.out
              have hE2 := HD.out.1
              obtain ⟨rfl, hE3⟩ := hE1
              obtain rfl := hE2
              rw [hE3] at hUR
              exact hUR
    · have tl : ((l : Int) != z0) = true := by simpa using hlz
      have HE : Hid (kpE m xn c sz dz = 4) := by show _ = _; unfold kpE; rw [if_neg (by simpa using HA.out), if_pos (by rw [Int.toNat_natCast, HM.out, HZ0.out]; exact hlz)]
      clear hlz
      have r_0 := HR.out.c0
      have r_1 := HR.out.c1
      have r_2 := HR.out.c2
      have f_0 := HR.out.fr 0
      have f_1 := HR.out.fr 1
      have f_2 := HR.out.fr 2
      go_wp2_with fail
      have FF := HR.out.set3 (.bool false) (.slice none 0 0) (.slice none 0 0)
      have q0 := FF.c0
      have q1 := FF.c1
      have q2 := FF.c2
      exact bodyPost_ret (v := .tuple #[.agg #[.bool false, .slice none 0 0, .slice none 0 0], .int .i64 4]) (by simp [results, Tryd.results15, go_sem, q0, q1, q2]) rfl (UR.no HE.out (by decide) (bel_set3 hb.out (by omega) _ _ _))
  · have t0 : (axE x c sz dz != 0) = true := by simpa using he
    have HE : Hid (kpE m x c sz dz = axE x c sz dz) := by show _ = _; unfold kpE; rw [if_pos he]
    have HA : Hid (axE x c sz dz ≠ 0) := he
    clear he
    have r_0 := HR.out.c0
    have r_1 := HR.out.c1
    have r_2 := HR.out.c2
    have f_0 := HR.out.fr 0
    have f_1 := HR.out.fr 1
    have f_2 := HR.out.fr 2
    go_wp2_with fail
    have FF := HR.out.set3 (.bool false) (.slice none 0 0) (.slice none 0 0)
    have q0 := FF.c0
    have q1 := FF.c1
    have q2 := FF.c2
    exact bodyPost_ret (v := .tuple #[.agg #[.bool false, .slice none 0 0, .slice none 0 0], .int .i64 (axE x c sz dz)]) (by simp [results, Tryd.results15, go_sem, q0, q1, q2]) rfl (UR.no HE.out HA.out (bel_set3 hb.out (by omega) _ _ _))
end Go.Proofs.YtldjgacnjogbnaaDoor
