/-
  What the reference picks.
-/
import Derived.Test.YtlflacoiidhgoaaDoorRnm
namespace Go.Proofs.YtlflacoiidhgoaaDoor
open Go.RowKit
set_option linter.unusedVariables false

set_option maxRecDepth 100000 in
set_option maxHeartbeats 8000000 in
theorem picked_any (c : Bool) (sa : Option Addr) (sc : Nat) (sz : List Int) (da : Option Addr) (dc : Nat) (dz : List Int) (ba : Option Addr) (bc : Nat) (bs : List ArV) (h1 : sz.length ≤ 9223372036854775807) (h2 : dz.length ≤ 9223372036854775807) (h3 : bs.length ≤ 9223372036854775807) (w : World) (hs : IsInts w.heap.size w sa sz) (hd : IsInts w.heap.size w da dz) (hb : IsAs w.heap.size w ba bs) :
    Calls Tryd.prog 5 #[.agg #[.bool c, .slice sa sz.length sc, .slice da dz.length dc], .slice ba bs.length bc] w (UR (pkE c sz dz (bya bs)) (onc (pkE c sz dz (bya bs)) c) (onl (pkE c sz dz (bya bs)) (pkS (bya bs))) (onl (pkE c sz dz (bya bs)) (pkD sz dz (bya bs))) w) := by
  have HI : Hid (IsInts w.heap.size w sa sz ∧ IsInts w.heap.size w da dz ∧ IsAs w.heap.size w ba bs) := ⟨hs, hd, hb⟩
  clear hs hd hb
  have hb0 : Hid (Below w.heap.size w ((w.alloc (.cells #[.bool c, .slice sa sz.length sc, .slice da dz.length dc] 24)).alloc (.cells #[.bool false, .slice none 0 0, .slice none 0 0] 24))) := ((Below.refl _ w).alloc (Nat.le_refl _) _).alloc (by simp) _
  have pa := (Abx.new w (.bool c) (.slice sa sz.length sc) (.slice da dz.length dc)).al (.cells #[.bool false, .slice none 0 0, .slice none 0 0] 24)
  have pr := Abx.new1 w (.cells #[.bool c, .slice sa sz.length sc, .slice da dz.length dc] 24) (.bool false) (.slice none 0 0) (.slice none 0 0)
  have p0 := pa.c0
  have p1 := pa.c1
  have p2 := pa.c2
  go_enter Tryd.func5, Tryd.ntmps5
  go_wp2_with fail
  refine (all_any c sa sc sz da dc dz ba bc bs h1 h2 h3 _ ((HI.out.1.below hb0.out).mono hb0.out.size) ((HI.out.2.1.below hb0.out).mono hb0.out.size) ((HI.out.2.2.below hb0.out).mono hb0.out.size)).mono ?_
  rintro e v1 ⟨rfl, hB⟩
  have HB1 : Hid (Below w.heap.size w v1) := hb0.out.trans (hB.mono hb0.out.size)
  have HP : Hid (Abx v1 w.heap.size (.bool c) (.slice sa sz.length sc) (.slice da dz.length dc)) := pa.go hB
  have HR : Hid (Abx v1 (w.heap.size + 1) (.bool false) (.slice none 0 0) (.slice none 0 0)) := pr.go hB
  have hR1 : w.heap.size + 1 < v1.heap.size := HR.out.lt
  clear hB pa pr p0 p1 p2 hb0
  by_cases he : alE c sz dz (bya bs) = 0
  · rw [he]
    have HF : Hid (flawE c sz dz = 0 ∧ flL (bya bs) = 0) := alE_zero he
    have HPE : Hid (pkE c sz dz (bya bs) = nmE sz (bya bs)) := pkE_nm he
    have p0 := HP.out.c0
    have p1 := HP.out.c1
    have p2 := HP.out.c2
    clear he
    go_wp2_with fail
    refine (named_any c sa sc sz da dc dz ba bc bs h3 HF.out.1 HF.out.2 v1 ((HI.out.1.below HB1.out).mono HB1.out.size) ((HI.out.2.2.below HB1.out).mono HB1.out.size)).mono ?_
    rintro e v2 ⟨g, gc, ga, gd, rfl, hS, hPl, hB⟩
    have HB2 : Hid (Below w.heap.size w v2) := HB1.out.trans (hB.mono HB1.out.size)
    have HP2 : Hid (Abx v2 w.heap.size (.bool c) (.slice sa sz.length sc) (.slice da dz.length dc)) := HP.out.go hB
    have HR2 : Hid (Abx v2 (w.heap.size + 1) (.bool false) (.slice none 0 0) (.slice none 0 0)) := HR.out.go hB
    have hR2 : w.heap.size + 1 < v2.heap.size := HR2.out.lt
    have hv12 : v1.heap.size ≤ v2.heap.size := hB.size
    clear hB p0 p1 p2 HP HR
    by_cases hn : nmE sz (bya bs) = 0
    · rw [onl_ok hn] at hS hPl
      rw [onl_ok hn, onl_ok hn, hn]
      have HE : Hid (pkE c sz dz (bya bs) = 0) := by show _ = _; rw [HPE.out, hn]
      obtain ⟨S, hS0⟩ : ∃ S, S = pkS (bya bs) := ⟨_, rfl⟩
      obtain ⟨P, hP0⟩ : ∃ P, P = plL sz (bya bs) := ⟨_, rfl⟩
      obtain ⟨D, hD0⟩ : ∃ D, D = pkD sz dz (bya bs) := ⟨_, rfl⟩
      rw [← hS0, ← hP0]
      rw [← hS0] at hS
      rw [← hP0] at hPl
      have HS : Hid (S = pkS (bya bs) ∧ P = plL sz (bya bs) ∧ D = pkD sz dz (bya bs)) := ⟨hS0, hP0, hD0⟩
      obtain ⟨q, hq⟩ : ∃ q, q = P.length := ⟨_, rfl⟩
      have HL : Hid (q = P.length ∧ D.length = q ∧ (prod (pkS (bya bs))).toNat = q) := ⟨hq, by rw [hq, hD0, hP0]; unfold pkD; rw [TA_length, plL_length], by rw [hq, hP0, plL_length]⟩
      have hSl : S.length ≤ 6 ∧ D.length ≤ 4096 := by rw [hS0, hD0]; exact pk_len HE.out
      have hDq : D.length ≤ q ∧ q ≤ D.length := by have := HL.out.2.1; omega
      have hdz4 : dz.length ≤ 4096 := (flawE_short HF.out.1).2
      have HPb : Hid (∀ k, k < q → 0 ≤ nth P k ∧ nth P k < dz.length ∧ nth D k = nth dz (nth P k).toNat) := fun k hk => by
        have hk' : k < (prod (pkS (bya bs))).toNat := by rw [HL.out.2.2]; exact hk
        have hb := pkP_bd HE.out hk'
        rw [hP0, plL_nth _ _ hk', hD0, pkD_nth hk']
        exact ⟨hb.1, by rw [(flawE_zero HF.out.1).2.1]; exact hb.2, rfl⟩
      rw [← hq]
      obtain ⟨B, hB⟩ : ∃ B, B = v2.heap.size := ⟨_, rfl⟩
      obtain ⟨v3, hv3⟩ : ∃ v3, v3 = v2.alloc (.cells #[.bool c, .slice g S.length gc, .slice none 0 0] 24) := ⟨_, rfl⟩
      have HV3 : Hid (v3 = v2.alloc (.cells #[.bool c, .slice g S.length gc, .slice none 0 0] 24) ∧ B = v2.heap.size) := ⟨hv3, hB⟩
      have HO : Hid (Abx v3 w.heap.size (.bool c) (.slice sa sz.length sc) (.slice da dz.length dc) ∧ Abx v3 (w.heap.size + 1) (.bool false) (.slice none 0 0) (.slice none 0 0) ∧ Abx v3 B (.bool c) (.slice g S.length gc) (.slice none 0 0) ∧ SepInts v1.heap.size v3.heap.size B v3 g S ∧ SepInts v1.heap.size v3.heap.size B v3 ga P ∧ Below w.heap.size w v3) := by
        rw [hv3, hB]
        exact ⟨HP2.out.al _, HR2.out.al _, Abx.new v2 _ _ _, ((SepInts.of_new hS.1 (.inr (Nat.le_refl _))).al (Nat.le_refl _) _).high (by simp), ((SepInts.of_new hPl (.inr (Nat.le_refl _))).al (Nat.le_refl _) _).high (by simp), HB2.out.alloc HB2.out.size _⟩
      have hBl : w.heap.size + 1 < B := by rw [hB]; exact hR2
      have hB3 : B < v3.heap.size := HO.out.2.2.1.lt
      have hv13 : v1.heap.size ≤ v3.heap.size := by rw [hv3]; simp; omega
      have a0 := HP2.out.c0
      clear hn hS hPl hS0 hP0 hD0 hq hv3 hB
      go_wp2_with fail
      rw [← HV3.out.2, ← HV3.out.1]
      clear a0
      go_loopw [10] (fun i wx => ∃ (k : Nat) (v : Value), k ≤ q ∧ i = .int .i64 k ∧ Abx wx w.heap.size (.bool c) (.slice sa sz.length sc) (.slice da dz.length dc) ∧ Abx wx (w.heap.size + 1) (.bool false) (.slice none 0 0) (.slice none 0 0) ∧ Abx wx B (.bool c) (.slice g S.length gc) v
          ∧ wx.ownsRow v3.heap.size 3 1 v (D.take k).length ((D.take k).map (Value.int .i64)) ∧ SepInts v1.heap.size v3.heap.size B wx g S ∧ SepInts v1.heap.size v3.heap.size B wx ga P ∧ v3.heap.size ≤ wx.heap.size ∧ Below w.heap.size w wx) (fun i _ => q - (intOf i).toNat)
      case atStart => exact ⟨0, .slice none 0 0, Nat.zero_le _, rfl, HO.out.1, HO.out.2.1, HO.out.2.2.1, World.ownsRow_nil _ _ _ _, HO.out.2.2.2.1, HO.out.2.2.2.2.1, Nat.le_refl _, HO.out.2.2.2.2.2⟩
      case round =>
        obtain ⟨k, v, hk, rfl, hP, hR, hU, hown, hSp, hSq, hsx, hBx⟩ := hrel
        by_cases hlt : k < q
        · obtain ⟨hL1, hL2, hL3⟩ := HPb.out k hlt
          obtain ⟨L, hL⟩ : ∃ L : Nat, nth P k = L := ⟨(nth P k).toNat, by omega⟩
          rw [hL, Int.toNat_natCast] at hL3
          have hLd : L < dz.length := by omega
          have HQ : Hid (Abx wr w.heap.size (.bool c) (.slice sa sz.length sc) (.slice da dz.length dc) ∧ Abx wr (w.heap.size + 1) (.bool false) (.slice none 0 0) (.slice none 0 0) ∧ Abx wr B (.bool c) (.slice g S.length gc) v ∧ SepInts v1.heap.size v3.heap.size B wr g S ∧ SepInts v1.heap.size v3.heap.size B wr ga P ∧ Below w.heap.size w wr) := ⟨hP, hR, hU, hSp, hSq, hBx⟩
          have hkP : k < P.length := by rw [← HL.out.1]; exact hlt
          rcases hSq with e0 | ⟨bp, op, rfl, l0, lB, hbp, hcP, hfP⟩
          · rw [e0] at hkP; simp at hkP
          have cp := hcP k hkP
          rw [hL] at cp
          obtain ⟨bd, od, rfl, hbd, hcD⟩ := (HI.out.2.1.below hBx).at hLd
          have cd := hcD L hLd
          have HV : Hid (nth dz L = nth D k) := hL3.symm
          have o6 := hU.c2
          have d6 := hP.c2
          have hkD : k ≤ D.length := by omega
          have hwr : w.heap.size ≤ wr.heap.size := hBx.size
          clear hL1 hL2 hL3 hL hP hR hU hSp hBx hcP hfP hcD
          go_wp2_with fail
          refine anyT_begin 12 (fun w' => w'.cell? ⟨B, 2, none⟩ = some v ∧ w'.cell? ⟨w.heap.size, 2, none⟩ = some (.slice (some ⟨bd, od, none⟩) dz.length dc) ∧ w'.cell? ⟨bp, op + k, none⟩ = some (.int .i64 (L : Int)) ∧ w'.cell? ⟨bd, od + L, none⟩ = some (.int .i64 (nth dz L))) 14 #[false, false, false, false, false, false, false, false, false, false, false, false, false, false] (by kernel_rfl) rfl rfl ?_
          refine anyT_put 0 39 ?rv23 #[true, false, false, false, false, false, false, false, false, false, false, false, false, false] rfl rfl rfl (by kernel_rfl) (by kernel_rfl) (by kernel_rfl) (fun _ _ _ h => h) (by decide) ?ry23 (fun _ => ⟨o6, d6, cp, cd⟩) ?rm23
          case ry23 => first | exact Or.inl ⟨by rfl, by intro w'; go_simp; first | done | rfl⟩
          case rm23 =>
          simp only [Act.put, List.setIfInBounds_toArray, List.set_cons_zero, List.set_cons_succ]
          refine anyT_take 1 40 ?rv24 #[true, true, false, false, false, false, false, false, false, false, false, false, false, false] rfl rfl rfl (by kernel_rfl) (by kernel_rfl) (by kernel_rfl) (fun _ _ _ h => h) (by kernel_rfl) (by decide) (by kernel_rfl) ?ry24 (⟨o6, d6, cp, cd⟩) ?rm24
          case ry24 => first | exact Or.inl ⟨by rfl, by intro w' hw'; (try dsimp only at hw'); go_simp; first | done | rfl⟩
          case rm24 =>
          simp only [Act.put, List.setIfInBounds_toArray, List.set_cons_zero, List.set_cons_succ]
          refine anyT_put 2 41 ?rv25 #[true, true, true, false, false, false, false, false, false, false, false, false, false, false] rfl rfl rfl (by kernel_rfl) (by kernel_rfl) (by kernel_rfl) (fun _ _ _ h => h) (by decide) ?ry25 (fun _ => ⟨o6, d6, cp, cd⟩) ?rm25
          case ry25 => first | exact Or.inl ⟨by rfl, by intro w'; go_simp; first | done | rfl⟩
          case rm25 =>
          simp only [Act.put, List.setIfInBounds_toArray, List.set_cons_zero, List.set_cons_succ]
          refine anyT_take 3 42 ?rv26 #[true, true, true, true, false, false, false, false, false, false, false, false, false, false] rfl rfl rfl (by kernel_rfl) (by kernel_rfl) (by kernel_rfl) (fun _ _ _ h => h) (by kernel_rfl) (by decide) (by kernel_rfl) ?ry26 (⟨o6, d6, cp, cd⟩) ?rm26
          case ry26 => first | exact Or.inl ⟨by rfl, by intro w' hw'; (try dsimp only at hw'); go_simp; first | done | rfl⟩
          case rm26 =>
          simp only [Act.put, List.setIfInBounds_toArray, List.set_cons_zero, List.set_cons_succ]
          refine anyT_put 4 43 ?rv27 #[true, true, true, true, true, false, false, false, false, false, false, false, false, false] rfl rfl rfl (by kernel_rfl) (by kernel_rfl) (by kernel_rfl) (fun _ _ _ h => h) (by decide) ?ry27 (fun _ => ⟨o6, d6, cp, cd⟩) ?rm27
          case ry27 => first | exact Or.inl ⟨by rfl, by intro w'; go_simp; first | done | rfl⟩
          case rm27 =>
          simp only [Act.put, List.setIfInBounds_toArray, List.set_cons_zero, List.set_cons_succ]
          refine anyT_put 5 44 ?rv28 #[true, true, true, true, true, true, false, false, false, false, false, false, false, false] rfl rfl rfl (by kernel_rfl) (by kernel_rfl) (by kernel_rfl) (fun _ _ _ h => h) (by decide) ?ry28 (fun _ => ⟨o6, d6, cp, cd⟩) ?rm28
          case ry28 => first | exact Or.inl ⟨by rfl, by intro w'; go_simp; first | done | rfl⟩
          case rm28 =>
          simp only [Act.put, List.setIfInBounds_toArray, List.set_cons_zero, List.set_cons_succ]
          refine anyT_put 6 45 ?rv29 #[true, true, true, true, true, true, true, false, false, false, false, false, false, false] rfl rfl rfl (by kernel_rfl) (by kernel_rfl) (by kernel_rfl) (fun _ _ _ h => h) (by decide) ?ry29 (fun _ => ⟨o6, d6, cp, cd⟩) ?rm29
          case ry29 => first | exact Or.inl ⟨by rfl, by intro w'; go_simp; first | done | rfl⟩
          case rm29 =>
          simp only [Act.put, List.setIfInBounds_toArray, List.set_cons_zero, List.set_cons_succ]
          refine anyT_take 7 46 ?rv30 #[true, true, true, true, true, true, true, true, false, false, false, false, false, false] rfl rfl rfl (by kernel_rfl) (by kernel_rfl) (by kernel_rfl) (fun _ _ _ h => h) (by kernel_rfl) (by decide) (by kernel_rfl) ?ry30 (⟨o6, d6, cp, cd⟩) ?rm30
          case ry30 => first | exact Or.inl ⟨by rfl, by intro w' hw'; (try dsimp only at hw'); go_simp; first | done | rfl⟩
          case rm30 =>
          simp only [Act.put, List.setIfInBounds_toArray, List.set_cons_zero, List.set_cons_succ]
          refine anyT_put 8 47 ?rv31 #[true, true, true, true, true, true, true, true, true, false, false, false, false, false] rfl rfl rfl (by kernel_rfl) (by kernel_rfl) (by kernel_rfl) (fun _ _ _ h => h) (by decide) ?ry31 (fun _ => ⟨o6, d6, cp, cd⟩) ?rm31
          case ry31 => first | exact Or.inl ⟨by rfl, by intro w'; go_simp; first | done | rfl⟩
          case rm31 =>
          simp only [Act.put, List.setIfInBounds_toArray, List.set_cons_zero, List.set_cons_succ]
          refine anyT_take 9 48 ?rv32 #[true, true, true, true, true, true, true, true, true, true, false, false, false, false] rfl rfl rfl (by kernel_rfl) (by kernel_rfl) (by kernel_rfl) (fun _ _ _ h => h) (by kernel_rfl) (by decide) (by kernel_rfl) ?ry32 (⟨o6, d6, cp, cd⟩) ?rm32
          case ry32 => first | exact Or.inl ⟨by rfl, by intro w' hw'; (try dsimp only at hw'); go_simp; first | done | rfl⟩
          case rm32 =>
          simp only [Act.put, List.setIfInBounds_toArray, List.set_cons_zero, List.set_cons_succ]
          refine anyT_one 10 #[true, true, true, true, true, true, true, true, true, true, true, false, false, false] (by kernel_rfl) rfl rfl (fun K hK => ?_)
          go_simp
          have k0 := HQ.out.1.al (.cells #[.int .i64 (nth dz L)] 3)
          have k1 := HQ.out.2.2.1.al (.cells #[.int .i64 (nth dz L)] 3)
          have k2 : (wr.alloc (.cells #[.int .i64 (nth dz L)] 3)).cell? ⟨bd, od + L, none⟩ = some (.int .i64 (nth dz L)) := (World.cell?_alloc_lt wr _ ⟨bd, od + L, none⟩ (by show bd < wr.heap.size; omega)).trans cd
          have k3 : (wr.alloc (.cells #[.int .i64 (nth dz L)] 3)).cell? ⟨bp, op + k, none⟩ = some (.int .i64 (L : Int)) := (World.cell?_alloc_lt wr _ ⟨bp, op + k, none⟩ (by show bp < wr.heap.size; omega)).trans cp
          refine hK.out _ _ (fun _ => ⟨k1.c2, k0.c2, k3, k2⟩) ?_
          clear hK K
          refine anyT_one 11 #[true, true, true, true, true, true, true, true, true, true, true, true, false, false] (by kernel_rfl) rfl rfl (fun K hK => ?_)
          refine app_step 50 rfl rfl _ _ rfl _ v3.heap.size wr.heap.size v (D.take k) (nth dz L) rfl rfl ((hown.alloc _).drew) (heap_alloc_new wr _) (by rw [take_lenR _ hkD]; omega) (by simp; omega) ?_
          intro g1 gc1 w4 hown1 hB4
          have P7 := k0.dr.bel hB4 (by omega)
          have HO1 : Hid (Abx w4 B (.bool c) (.slice g S.length gc) v) := k1.dr.bel hB4 (by omega)
          have x2 := HO1.out.c2
          have xf := HO1.out.fr 2
          have xd : w4.cell? ⟨bd, od + L, none⟩ = some (.int .i64 (nth dz L)) := (hB4.cell (p := ⟨bd, od + L, none⟩) (by show bd < _; omega)).trans k2
          have xp : w4.cell? ⟨bp, op + k, none⟩ = some (.int .i64 (L : Int)) := (hB4.cell (p := ⟨bp, op + k, none⟩) (by show bp < _; omega)).trans k3
          refine hK.out _ _ (fun _ => ⟨x2, P7.c2, xp, xd⟩) ?_
          clear hK K
          simp only [Act.put, List.setIfInBounds_toArray, List.set_cons_zero, List.set_cons_succ]
          refine anyT_one 12 #[true, true, true, true, true, true, true, true, true, true, true, true, true, false] (by kernel_rfl) rfl rfl (fun K hK => ?_)
          go_simp
          refine hK.out _ _ (fun h => absurd h (by decide)) ?_
          clear hK K
          refine anyT_one 13 #[true, true, true, true, true, true, true, true, true, true, true, true, true, true] (by kernel_rfl) rfl rfl (fun K hK => ?_)
          go_simp
          refine hK.out _ _ (fun h => absurd h (by decide)) ?_
          clear hK K
          refine anyT_done (by kernel_rfl) ?_
          go_wp2_with fail
          rw [HV.out, ← take_snoc D k (by omega), take_lenR D hkD] at hown1
          have hz4 := hB4.size
          simp at hz4
          refine ⟨⟨k + 1, .slice (some ⟨g1, 0, none⟩) (k + 1) gc1, by omega, by go_num, P7.ot (by show w.heap.size ≠ B; omega) _, ?_, HO1.out.s2 _, ?_, ?_, ?_, by simp [World.setCell]; omega, ?_⟩, by simp [intOf]; omega⟩
          · exact ((HQ.out.2.1.al _).dr.bel hB4 (by omega)).ot (by show w.heap.size + 1 ≠ B; omega) _
          · rw [take_lenR D (show k + 1 ≤ D.length by omega)]
            exact ownsRow_setCell_below hown1 (by show B < v3.heap.size; omega) _
          · exact (((HQ.out.2.2.2.1.al (by omega) _).dr).bel hB4).set 2 _
          · exact (((HQ.out.2.2.2.2.1.al (by omega) _).dr).bel hB4).set 2 _
          · exact (((HQ.out.2.2.2.2.2.alloc HQ.out.2.2.2.2.2.size _).drew.trans (hB4.mono (by omega)))).setCell (p := ⟨B, 2, none⟩) (by show w.heap.size ≤ B; omega) _
        · obtain rfl : k = q := by omega
          rw [List.take_of_length_le (by omega)] at hown
          obtain ⟨g1, gc1, rfl, hN1⟩ := owns_new hown
          have o0 := hU.c0
          have o1 := hU.c1
          have o2 := hU.c2
          have r_0 := hR.c0
          have r_1 := hR.c1
          have r_2 := hR.c2
          have f_0 := hR.fr 0
          have f_1 := hR.fr 1
          have f_2 := hR.fr 2
          clear hown hlt
          go_wp2_with fail
          have FF := hR.set3 (.bool c) (.slice g S.length gc) (.slice g1 D.length gc1)
          have q0' := FF.c0
          have q1' := FF.c1
          have q2' := FF.c2
          refine bodyPost_ret (v := .tuple #[.agg #[.bool c, .slice g S.length gc, .slice g1 D.length gc1], .int .i64 0]) (by simp [results, Tryd.results5, go_sem, q0', q1', q2']) rfl ?_
          have hX := ((hSp.new hsx).set3 (b := w.heap.size + 1) (by omega) (.bool c) (.slice g S.length gc) (.slice g1 D.length gc1)).low (lo' := w.heap.size) (by omega)
          have hY := (hN1.set3 (b := w.heap.size + 1) (by omega) (.bool c) (.slice g S.length gc) (.slice g1 D.length gc1)).low (lo' := w.heap.size) (by omega)
          have hZ := bel_set3 hBx (b := w.heap.size + 1) (by omega) (.bool c) (.slice g S.length gc) (.slice g1 D.length gc1)
          have hUR := UR.ok (c := c) (xc := gc) (yc := gc1) HE.out hX hY hZ
          have hE1 := HS.out.1
          have hE2 := HS.out.2.2
          rw [← hE1, ← hE2]
          exact hUR
    · have t0 : (nmE sz (bya bs) != 0) = true := by simpa using hn
      have HE : Hid (pkE c sz dz (bya bs) = nmE sz (bya bs)) := HPE.out
      have HA : Hid (nmE sz (bya bs) ≠ 0) := hn
      clear hn
      have r_0 := HR2.out.c0
      have r_1 := HR2.out.c1
      have r_2 := HR2.out.c2
      have f_0 := HR2.out.fr 0
      have f_1 := HR2.out.fr 1
      have f_2 := HR2.out.fr 2
      go_wp2_with fail
      have FF := HR2.out.set3 (.bool false) (.slice none 0 0) (.slice none 0 0)
      have q0 := FF.c0
      have q1 := FF.c1
      have q2 := FF.c2
      exact bodyPost_ret (v := .tuple #[.agg #[.bool false, .slice none 0 0, .slice none 0 0], .int .i64 (nmE sz (bya bs))]) (by simp [results, Tryd.results5, go_sem, q0, q1, q2]) rfl (UR.no HE.out HA.out (bel_set3 HB2.out (by omega) _ _ _))
  · have t0 : (alE c sz dz (bya bs) != 0) = true := by simpa using he
    have HE : Hid (pkE c sz dz (bya bs) = alE c sz dz (bya bs)) := pkE_al he
    have HA : Hid (alE c sz dz (bya bs) ≠ 0) := he
    clear he
    have r_0 := HR.out.c0
    have r_1 := HR.out.c1
    have r_2 := HR.out.c2
    have f_0 := HR.out.fr 0
    have f_1 := HR.out.fr 1
    have f_2 := HR.out.fr 2
    go_wp2_with fail
    have FF := HR.out.set3 (.bool false) (.slice none 0 0) (.slice none 0 0)
    have q0 := FF.c0
    have q1 := FF.c1
    have q2 := FF.c2
    exact bodyPost_ret (v := .tuple #[.agg #[.bool false, .slice none 0 0, .slice none 0 0], .int .i64 (alE c sz dz (bya bs))]) (by simp [results, Tryd.results5, go_sem, q0, q1, q2]) rfl (UR.no HE.out HA.out (bel_set3 HB1.out (by omega) _ _ _))
end Go.Proofs.YtlflacoiidhgoaaDoor
