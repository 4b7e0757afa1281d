/-
  What the program's Union tells.
-/
import Derived.Test.YteieliajdfbipaaSkl
import Derived.Test.YteieliajdfbipaaSkp
import Derived.Test.YteieliajdfbipaaSekq
import Derived.Test.YteieliajdfbipaaUbm
import Derived.Test.YteieliajdfbipaaBase
namespace Go.Proofs.Yteieliajdfbipaa
open Go.RowKit
set_option linter.unusedVariables false

theorem line8_l (c : Bool) (a : Option Addr) (cap : Nat) (zs : List Int) (l : Nat) (hl : zs.length = l) (w : World) :
    Calls Try.prog 23 #[.bool c, .slice a l cap] w fun e w' => ∃ sa sc, e = .returned (.agg #[.bool c, .slice sa 1 sc, .slice a l cap]) ∧ NewC w.heap.size w' sa [(zs.length : Int)] sc ∧ Below w.heap.size w w' := by
  subst hl
  exact line8_any c a cap zs w
set_option maxRecDepth 100000 in
set_option maxHeartbeats 4000000 in
theorem un_holds : CUn := by
  intro c sa sc sz da dc dz c' sa' sc' sz' da' dc' dz' w h1 h2 h1' h2' hs hd hs' hd' T T'
  have HI : Hid (IsInts w.heap.size w sa sz ∧ IsInts w.heap.size w da dz ∧ IsInts w.heap.size w sa' sz' ∧ IsInts w.heap.size w da' dz') := ⟨hs, hd, hs', hd'⟩
  have HT : Hid ((∀ j, In64 (nth dz j)) ∧ ∀ j, In64 (nth dz' j)) := ⟨T, T'⟩
  clear hs hd hs' hd' T T'
  have pa := ((Abx.new w (.bool c) (.slice sa sz.length sc) (.slice da dz.length dc)).al (.cells #[.bool c', .slice sa' sz'.length sc', .slice da' dz'.length dc'] 24)).al (.cells #[.bool false, .slice none 0 0, .slice none 0 0] 24)
  have pb := (Abx.new1 w (.cells #[.bool c, .slice sa sz.length sc, .slice da dz.length dc] 24) (.bool c') (.slice sa' sz'.length sc') (.slice da' dz'.length dc')).al (.cells #[.bool false, .slice none 0 0, .slice none 0 0] 24)
  have a0 := pa.c0
  have a1 := pa.c1
  have a2 := pa.c2
  have b0 := pb.c0
  have b1 := pb.c1
  have b2 := pb.c2
  clear pa pb
  obtain ⟨W1, hW1⟩ : ∃ W1, W1 = (((w.alloc (.cells #[.bool c, .slice sa sz.length sc, .slice da dz.length dc] 24)).alloc (.cells #[.bool c', .slice sa' sz'.length sc', .slice da' dz'.length dc'] 24)).alloc (.cells #[.bool false, .slice none 0 0, .slice none 0 0] 24)).alloc (.cells #[.bool c', .slice sa' sz'.length sc', .slice da' dz'.length dc'] 24) := ⟨_, rfl⟩
  have HB0 : Hid (Below w.heap.size w W1) := by rw [hW1]; exact ((((Below.refl _ w).alloc (Nat.le_refl _) _).alloc (by simp) _).alloc (by simp; omega) _).alloc (by simp; omega) _
  have PA : Hid (Abx W1 w.heap.size (.bool c) (.slice sa sz.length sc) (.slice da dz.length dc)) := by rw [hW1]; exact (((Abx.new w _ _ _).al _).al _).al _
  have PB : Hid (Abx W1 (w.heap.size + 1) (.bool c') (.slice sa' sz'.length sc') (.slice da' dz'.length dc')) := by rw [hW1]; exact ((Abx.new1 w _ _ _ _).al _).al _
  have PR : Hid (Abx W1 (w.heap.size + 1 + 1) (.bool false) (.slice none 0 0) (.slice none 0 0)) := by
    rw [hW1]
    have := Abx.new1 (w.alloc (.cells #[.bool c, .slice sa sz.length sc, .slice da dz.length dc] 24)) (.cells #[.bool c', .slice sa' sz'.length sc', .slice da' dz'.length dc'] 24) (.bool false) (.slice none 0 0) (.slice none 0 0)
    rw [World.size_alloc] at this
    exact this.al _
  have PS : Hid (Abx W1 (w.heap.size + 1 + 1 + 1) (.bool c') (.slice sa' sz'.length sc') (.slice da' dz'.length dc')) := by
    rw [hW1]
    have := Abx.new1 ((w.alloc (.cells #[.bool c, .slice sa sz.length sc, .slice da dz.length dc] 24)).alloc (.cells #[.bool c', .slice sa' sz'.length sc', .slice da' dz'.length dc'] 24)) (.cells #[.bool false, .slice none 0 0, .slice none 0 0] 24) (.bool c') (.slice sa' sz'.length sc') (.slice da' dz'.length dc')
    rw [World.size_alloc, World.size_alloc] at this
    exact this
  have hp := chklines_any c sa sc sz da dc dz (some ⟨w.heap.size + 1 + 1 + 1, 0, none⟩) 1 [(c', (((sa', sc'), sz'), ((da', dc'), dz')))] h1 h2 (by simp) W1 ((HI.out.1.below HB0.out).mono HB0.out.size) ((HI.out.2.1.below HB0.out).mono HB0.out.size) (isBs_one PS.out h1' h2' ((HI.out.2.2.1.below HB0.out).mono HB0.out.size) ((HI.out.2.2.2.below HB0.out).mono HB0.out.size))
  rw [List.length_singleton, lnE_one] at hp
  obtain ⟨M, hM⟩ : ∃ M, M = shD c' dz' c dz false := ⟨_, rfl⟩
  obtain ⟨D, hD⟩ : ∃ D, D = unD c dz c' dz' := ⟨_, rfl⟩
  have HD : Hid (D = dz ++ M ∧ D.length = dz.length + M.length) := by
    have e : D = dz ++ M := by rw [hD, hM]; rfl
    exact ⟨e, by rw [e, List.length_append]⟩
  have HM : Hid (M = shD c' dz' c dz false ∧ M.length ≤ dz'.length) := ⟨hM, by rw [hM]; exact shD_le⟩
  rw [← hD]
  have HU : Hid (D = unD c dz c' dz') := hD
  clear hM hD
  by_cases h0 : lsE c sz dz c' sz' dz' = 0
  · have HE0 : Hid (unE c sz dz c' sz' dz' = if c ≠ c' then 6 else if 4096 < (unD c dz c' dz').length then 7 else 0) := by show _ = _; unfold unE; rw [if_neg (not_not_intro h0)]
    have er0 : errV 0 = .nilIface := rfl
    rw [h0, er0] at hp
    have hl4 : dz.length ≤ 4096 := (flawE_short (lsE_zero.1 h0).1).2
    have hl4' : dz'.length ≤ 4096 := (flawE_short (lsE_zero.1 h0).2.1).2
    clear h0 er0
    by_cases hc : c = c'
    · have HE1 : Hid (unE c sz dz c' sz' dz' = if 4096 < D.length then 7 else 0) := by show _ = _; rw [HE0.out, if_neg (not_not_intro hc), HU.out]
      have hcc : (c == c') = true := by simpa using hc
      clear hc HE0
      have hm4 : M.length ≤ 4096 := Nat.le_trans HM.out.2 hl4'
      go_enter Try.func12, Try.ntmps12
      go_wp2_with fail
      rw [← hW1]
      clear hW1 a0 a1 a2 b0 b1 b2
      refine hp.mono ?_
      clear hp
      rintro e v1 ⟨rfl, hC⟩
      have HB1 : Hid (Below w.heap.size w v1) := HB0.out.trans (hC.mono HB0.out.size)
      have PA1 : Hid (Abx v1 w.heap.size (.bool c) (.slice sa sz.length sc) (.slice da dz.length dc)) := PA.out.go hC
      have PB1 : Hid (Abx v1 (w.heap.size + 1) (.bool c') (.slice sa' sz'.length sc') (.slice da' dz'.length dc')) := PB.out.go hC
      have PR1 : Hid (Abx v1 (w.heap.size + 1 + 1) (.bool false) (.slice none 0 0) (.slice none 0 0)) := PR.out.go hC
      clear hC PA PB PR PS HB0
      have a0 := PA1.out.c0
      have a1 := PA1.out.c1
      have a2 := PA1.out.c2
      have b0 := PB1.out.c0
      have b1 := PB1.out.c1
      have b2 := PB1.out.c2
      go_wp2_with fail
      refine (apart_any c' sa' sc' sz' da' dc' dz' c sa sc sz da dc dz hl4' hl4 v1 ((HI.out.2.2.2.below HB1.out).mono HB1.out.size) ((HI.out.2.1.below HB1.out).mono HB1.out.size) HT.out.2 HT.out.1).mono ?_
      rintro e v2 ⟨gm, gmc, rfl, hN2, hB2⟩
      rw [← HM.out.1] at hN2 ⊢
      have HN2 : Hid (NewC v1.heap.size v2 gm M gmc) := hN2
      have HB2 : Hid (Below w.heap.size w v2) := HB1.out.trans (hB2.mono HB1.out.size)
      have PA2 : Hid (Abx v2 w.heap.size (.bool c) (.slice sa sz.length sc) (.slice da dz.length dc)) := PA1.out.go hB2
      have PR2 : Hid (Abx v2 (w.heap.size + 1 + 1) (.bool false) (.slice none 0 0) (.slice none 0 0)) := PR1.out.go hB2
      have z1 : w.heap.size + 1 + 1 < v1.heap.size := PR1.out.lt
      have z2 : v1.heap.size ≤ v2.heap.size := hB2.size
      clear hN2 hB2 a0 a1 a2 b0 b1 b2 hcc
      have a0 := PA2.out.c0
      have a1 := PA2.out.c1
      have a2 := PA2.out.c2
      by_cases hg : (4096 : Int) < (dz.length : Int) + (M.length : Int)
      · have HN : Hid (unE c sz dz c' sz' dz' = 7) := by show _ = _; rw [HE1.out, if_pos (by rw [HD.out.2]; omega)]
        clear HE1
        have r0 := PR2.out.c0
        have r1 := PR2.out.c1
        have r2 := PR2.out.c2
        have f0 := PR2.out.fr 0
        have f1 := PR2.out.fr 1
        have f2 := PR2.out.fr 2
        go_wp2_with fail
        have F := PR2.out.set3 (.bool false) (.slice none 0 0) (.slice none 0 0)
        have q0 := F.c0
        have q1 := F.c1
        have q2 := F.c2
        exact bodyPost_ret (v := .tuple #[.agg #[.bool false, .slice none 0 0, .slice none 0 0], .iface 37 (.int .i64 7)]) (by simp [results, Try.results12, go_sem, q0, q1, q2]) rfl (ub_no HN.out (by decide) (bel_set3 HB2.out (by omega) _ _ _))
      · have HN : Hid (unE c sz dz c' sz' dz' = 0) := by show _ = _; rw [HE1.out, if_neg (by rw [HD.out.2]; omega)]
        clear HE1
        have HSd : Hid (IsInts v2.heap.size v2 da dz) := (HI.out.2.1.below HB2.out).mono HB2.out.size
        go_wp2_with (at_builtin; refine app_all rfl _ _ rfl _ v2.heap.size (.slice none 0 0) [] 0 rfl da dz dz.length dc rfl rfl rfl (World.ownsRow_nil _ _ _ _) HSd.out (by omega) (Nat.le_refl _) ?_; intro g gc v3 hown3 hN3 hB3; rw [Nat.zero_add, List.nil_append] at hown3; have HO3 : Hid (v3.ownsRow v2.heap.size 3 1 (.slice g dz.length gc) dz.length (dz.map (Value.int .i64))) := hown3; have HB3 : Hid (Below w.heap.size w v3) := HB2.out.trans (hB3.mono HB2.out.size); have z3 : v2.heap.size ≤ v3.heap.size := hB3.size; have PA3 : Hid (Abx v3 w.heap.size (.bool c) (.slice sa sz.length sc) (.slice da dz.length dc)) := PA2.out.go hB3; have PR3 : Hid (Abx v3 (w.heap.size + 1 + 1) (.bool false) (.slice none 0 0) (.slice none 0 0)) := PR2.out.go hB3; have HM3 : Hid (IsInts v3.heap.size v3 gm M) := ((HN2.out.go hB3).ints).1; clear hown3 hN3 hB3 a0 a1 a2; have a0 := PA3.out.c0)
        have HBd : Hid (Below w.heap.size w v3.drew) := HB3.out.drew
        refine anyT_begin 6 (fun w' => w'.cell? ⟨w.heap.size, 0, none⟩ = some (.bool c)) 8 #[false, false, false, false, false, false, false, false] (by kernel_rfl) rfl rfl ?_
        refine anyT_put 0 39 ?rv0 #[true, false, false, false, false, false, false, false] rfl rfl rfl (by kernel_rfl) (by kernel_rfl) (by kernel_rfl) (fun _ _ _ h => h) (by decide) ?ry0 (fun _ => a0) ?rm0
        case ry0 => first | exact Or.inl ⟨by rfl, by intro w'; go_simp; first | done | rfl⟩
        case rm0 =>
        simp only [Act.put, List.setIfInBounds_toArray, List.set_cons_zero, List.set_cons_succ]
        refine anyT_take 1 40 ?rv1 #[true, true, false, false, false, false, false, false] rfl rfl rfl (by kernel_rfl) (by kernel_rfl) (by kernel_rfl) (fun _ _ _ h => h) (by kernel_rfl) (by decide) (by kernel_rfl) ?ry1 (a0) ?rm1
        case ry1 => first | exact Or.inl ⟨by rfl, by intro w' hw'; (try dsimp only at hw'); go_simp; first | done | rfl⟩
        case rm1 =>
        simp only [Act.put, List.setIfInBounds_toArray, List.set_cons_zero, List.set_cons_succ]
        refine anyT_put 2 41 ?rv2 #[true, true, true, false, false, false, false, false] rfl rfl rfl (by kernel_rfl) (by kernel_rfl) (by kernel_rfl) (fun _ _ _ h => h) (by decide) ?ry2 (fun _ => a0) ?rm2
        case ry2 => first | exact Or.inl ⟨by rfl, by intro w'; go_simp; first | done | rfl⟩
        case rm2 =>
        simp only [Act.put, List.setIfInBounds_toArray, List.set_cons_zero, List.set_cons_succ]
        refine anyT_put 3 42 ?rv3 #[true, true, true, true, false, false, false, false] rfl rfl rfl (by kernel_rfl) (by kernel_rfl) (by kernel_rfl) (fun _ _ _ h => h) (by decide) ?ry3 (fun _ => a0) ?rm3
        case ry3 => first | exact Or.inl ⟨by rfl, by intro w'; go_simp; first | done | rfl⟩
        case rm3 =>
        simp only [Act.put, List.setIfInBounds_toArray, List.set_cons_zero, List.set_cons_succ]
        refine anyT_one 4 #[true, true, true, true, true, false, false, false] (by kernel_rfl) rfl rfl (fun K hK => ?_)
        refine app_all_step 43 rfl rfl _ _ rfl _ v2.heap.size (.slice g dz.length gc) dz dz.length rfl gm M M.length gmc rfl rfl rfl HO3.out HM3.out (by omega) z3 ?_
        intro g4 gc4 w4 hown4 hN4 hB4
        have P4 := (PA3.out.dr).bel hB4 (by omega)
        have R4 := (PR3.out.dr).bel hB4 (by omega)
        refine hK.out _ _ (fun _ => P4.c0) ?_
        clear hK K
        simp only [Act.put, List.setIfInBounds_toArray, List.set_cons_zero, List.set_cons_succ]
        refine anyT_one 5 #[true, true, true, true, true, true, false, false] (by kernel_rfl) rfl rfl (fun K hK => ?_)
        go_simp
        go_wp2_with (go_at_call 23; refine (line8_l c g4 gc4 (dz ++ M) (dz.length + M.length) (by rw [List.length_append]) w4).mono ?_; rintro e w5 ⟨xa, xc, rfl, hX, hB5⟩)
        have P5 := P4.go hB5
        have R5 := R4.go hB5
        have r0 := R5.c0
        have r1 := R5.c1
        have r2 := R5.c2
        have f0 := R5.fr 0
        have f1 := R5.fr 1
        have f2 := R5.fr 2
        refine hK.out _ _ (fun _ => P5.c0) ?_
        clear hK K
        refine anyT_one 6 #[true, true, true, true, true, true, true, false] (by kernel_rfl) rfl rfl (fun K hK => ?_)
        go_simp
        refine hK.out _ _ (fun h => absurd h (by decide)) ?_
        clear hK K
        refine anyT_one 7 #[true, true, true, true, true, true, true, true] (by kernel_rfl) rfl rfl (fun K hK => ?_)
        go_simp
        refine hK.out _ _ (fun h => absurd h (by decide)) ?_
        clear hK K
        refine anyT_done (by kernel_rfl) ?_
        go_wp2_with fail
        have F := R5.set3 (.bool c) (.slice xa 1 xc) (.slice g4 (dz.length + M.length) gc4)
        have q0 := F.c0
        have q1 := F.c1
        have q2 := F.c2
        have z4 : v2.heap.size ≤ w4.heap.size := Nat.le_trans z3 hB4.size
        have z5 := HB2.out.size
        refine bodyPost_ret (v := .tuple #[.agg #[.bool c, .slice xa 1 xc, .slice g4 (dz.length + M.length) gc4], .nilIface]) (by simp [results, Try.results12, go_sem, q0, q1, q2]) rfl ?_
        rw [← HD.out.1] at hX hN4
        rw [show dz.length + M.length = D.length from HD.out.2.symm]
        exact ub_ok (S := [(D.length : Int)]) (D := D) HN.out ((hX.set3 (by omega) _ _ _).low (by omega)) (((hN4.go hB5).set3 (by omega) _ _ _).low (by omega)) (bel_set3 ((HBd.out.trans (hB4.mono z5)).trans (hB5.mono (by omega))) (by omega) _ _ _)
    · have HN : Hid (unE c sz dz c' sz' dz' = 6) := by show _ = _; rw [HE0.out, if_pos hc]
      have hcc : (c == c') = false := by simpa using hc
      clear hc HE0
      go_enter Try.func12, Try.ntmps12
      go_wp2_with fail
      rw [← hW1]
      clear hW1 a0 a1 a2 b0 b1 b2
      refine hp.mono ?_
      clear hp
      rintro e v1 ⟨rfl, hC⟩
      have HB1 : Hid (Below w.heap.size w v1) := HB0.out.trans (hC.mono HB0.out.size)
      have PA1 : Hid (Abx v1 w.heap.size (.bool c) (.slice sa sz.length sc) (.slice da dz.length dc)) := PA.out.go hC
      have PB1 : Hid (Abx v1 (w.heap.size + 1) (.bool c') (.slice sa' sz'.length sc') (.slice da' dz'.length dc')) := PB.out.go hC
      have PR1 : Hid (Abx v1 (w.heap.size + 1 + 1) (.bool false) (.slice none 0 0) (.slice none 0 0)) := PR.out.go hC
      clear hC PA PB PR PS HB0
      have a0 := PA1.out.c0
      have b0 := PB1.out.c0
      have r0 := PR1.out.c0
      have r1 := PR1.out.c1
      have r2 := PR1.out.c2
      have f0 := PR1.out.fr 0
      have f1 := PR1.out.fr 1
      have f2 := PR1.out.fr 2
      go_wp2_with fail
      have F := PR1.out.set3 (.bool false) (.slice none 0 0) (.slice none 0 0)
      have q0 := F.c0
      have q1 := F.c1
      have q2 := F.c2
      exact bodyPost_ret (v := .tuple #[.agg #[.bool false, .slice none 0 0, .slice none 0 0], .iface 37 (.int .i64 6)]) (by simp [results, Try.results12, go_sem, q0, q1, q2]) rfl (ub_no HN.out (by decide) (bel_set3 HB1.out (by omega) _ _ _))
  · have HE : Hid (unE c sz dz c' sz' dz' = lsE c sz dz c' sz' dz' ∧ lsE c sz dz c' sz' dz' ≠ 0) := ⟨by unfold unE; rw [if_pos h0], h0⟩
    rw [errV_pos h0] at hp
    clear h0
    go_enter Try.func12, Try.ntmps12
    go_wp2_with fail
    rw [← hW1]
    clear hW1 a0 a1 a2 b0 b1 b2
    refine hp.mono ?_
    clear hp
    rintro e v1 ⟨rfl, hC⟩
    have HB1 : Hid (Below w.heap.size w v1) := HB0.out.trans (hC.mono HB0.out.size)
    have PA1 : Hid (Abx v1 w.heap.size (.bool c) (.slice sa sz.length sc) (.slice da dz.length dc)) := PA.out.go hC
    have PB1 : Hid (Abx v1 (w.heap.size + 1) (.bool c') (.slice sa' sz'.length sc') (.slice da' dz'.length dc')) := PB.out.go hC
    have PR1 : Hid (Abx v1 (w.heap.size + 1 + 1) (.bool false) (.slice none 0 0) (.slice none 0 0)) := PR.out.go hC
    clear hC PA PB PR PS HB0
    have r0 := PR1.out.c0
    have r1 := PR1.out.c1
    have r2 := PR1.out.c2
    have f0 := PR1.out.fr 0
    have f1 := PR1.out.fr 1
    have f2 := PR1.out.fr 2
    go_wp2_with fail
    have F := PR1.out.set3 (.bool false) (.slice none 0 0) (.slice none 0 0)
    have q0 := F.c0
    have q1 := F.c1
    have q2 := F.c2
    exact bodyPost_ret (v := .tuple #[.agg #[.bool false, .slice none 0 0, .slice none 0 0], .iface 37 (.int .i64 (lsE c sz dz c' sz' dz'))]) (by simp [results, Try.results12, go_sem, q0, q1, q2]) rfl (ub_no HE.out.1 HE.out.2 (bel_set3 HB1.out (by omega) _ _ _))
end Go.Proofs.Yteieliajdfbipaa
