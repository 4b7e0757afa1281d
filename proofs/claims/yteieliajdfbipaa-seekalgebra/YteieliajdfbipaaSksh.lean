/-
  What the program's Without and Meet tell.
-/
import Derived.Test.YteieliajdfbipaaSkl
import Derived.Test.YteieliajdfbipaaSkp
import Derived.Test.YteieliajdfbipaaSekq
import Derived.Test.YteieliajdfbipaaUbm
import Derived.Test.YteieliajdfbipaaBase
namespace Go.Proofs.Yteieliajdfbipaa
open Go.RowKit
set_option linter.unusedVariables false

set_option maxRecDepth 100000 in
set_option maxHeartbeats 4000000 in
theorem wo_holds : CWo := by
  intro c sa sc sz da dc dz c' sa' sc' sz' da' dc' dz' w h1 h2 h1' h2' hs hd hs' hd' T T'
  have HI : Hid (IsInts w.heap.size w sa sz ∧ IsInts w.heap.size w da dz ∧ IsInts w.heap.size w sa' sz' ∧ IsInts w.heap.size w da' dz') := ⟨hs, hd, hs', hd'⟩
  have HT : Hid ((∀ j, In64 (nth dz j)) ∧ ∀ j, In64 (nth dz' j)) := ⟨T, T'⟩
  clear hs hd hs' hd' T T'
  have pa := ((Abx.new w (.bool c) (.slice sa sz.length sc) (.slice da dz.length dc)).al (.cells #[.bool c', .slice sa' sz'.length sc', .slice da' dz'.length dc'] 24)).al (.cells #[.bool false, .slice none 0 0, .slice none 0 0] 24)
  have pb := (Abx.new1 w (.cells #[.bool c, .slice sa sz.length sc, .slice da dz.length dc] 24) (.bool c') (.slice sa' sz'.length sc') (.slice da' dz'.length dc')).al (.cells #[.bool false, .slice none 0 0, .slice none 0 0] 24)
  have a0 := pa.c0
  have a1 := pa.c1
  have a2 := pa.c2
  have b0 := pb.c0
  have b1 := pb.c1
  have b2 := pb.c2
  clear pa pb
  obtain ⟨W1, hW1⟩ : ∃ W1, W1 = (((w.alloc (.cells #[.bool c, .slice sa sz.length sc, .slice da dz.length dc] 24)).alloc (.cells #[.bool c', .slice sa' sz'.length sc', .slice da' dz'.length dc'] 24)).alloc (.cells #[.bool false, .slice none 0 0, .slice none 0 0] 24)).alloc (.cells #[.bool c', .slice sa' sz'.length sc', .slice da' dz'.length dc'] 24) := ⟨_, rfl⟩
  have HB0 : Hid (Below w.heap.size w W1) := by rw [hW1]; exact ((((Below.refl _ w).alloc (Nat.le_refl _) _).alloc (by simp) _).alloc (by simp; omega) _).alloc (by simp; omega) _
  have PA : Hid (Abx W1 w.heap.size (.bool c) (.slice sa sz.length sc) (.slice da dz.length dc)) := by rw [hW1]; exact (((Abx.new w _ _ _).al _).al _).al _
  have PB : Hid (Abx W1 (w.heap.size + 1) (.bool c') (.slice sa' sz'.length sc') (.slice da' dz'.length dc')) := by rw [hW1]; exact ((Abx.new1 w _ _ _ _).al _).al _
  have PR : Hid (Abx W1 (w.heap.size + 1 + 1) (.bool false) (.slice none 0 0) (.slice none 0 0)) := by
    rw [hW1]
    have := Abx.new1 (w.alloc (.cells #[.bool c, .slice sa sz.length sc, .slice da dz.length dc] 24)) (.cells #[.bool c', .slice sa' sz'.length sc', .slice da' dz'.length dc'] 24) (.bool false) (.slice none 0 0) (.slice none 0 0)
    rw [World.size_alloc] at this
    exact this.al _
  have PS : Hid (Abx W1 (w.heap.size + 1 + 1 + 1) (.bool c') (.slice sa' sz'.length sc') (.slice da' dz'.length dc')) := by
    rw [hW1]
    have := Abx.new1 ((w.alloc (.cells #[.bool c, .slice sa sz.length sc, .slice da dz.length dc] 24)).alloc (.cells #[.bool c', .slice sa' sz'.length sc', .slice da' dz'.length dc'] 24)) (.cells #[.bool false, .slice none 0 0, .slice none 0 0] 24) (.bool c') (.slice sa' sz'.length sc') (.slice da' dz'.length dc')
    rw [World.size_alloc, World.size_alloc] at this
    exact this
  have hp := chklines_any c sa sc sz da dc dz (some ⟨w.heap.size + 1 + 1 + 1, 0, none⟩) 1 [(c', (((sa', sc'), sz'), ((da', dc'), dz')))] h1 h2 (by simp) W1 ((HI.out.1.below HB0.out).mono HB0.out.size) ((HI.out.2.1.below HB0.out).mono HB0.out.size) (isBs_one PS.out h1' h2' ((HI.out.2.2.1.below HB0.out).mono HB0.out.size) ((HI.out.2.2.2.below HB0.out).mono HB0.out.size))
  rw [List.length_singleton, lnE_one] at hp
  by_cases h0 : lsE c sz dz c' sz' dz' = 0
  · have HN : Hid (lsE c sz dz c' sz' dz' = 0) := h0
    have er0 : errV 0 = .nilIface := rfl
    rw [h0, er0] at hp
    have hl4 : dz.length ≤ 4096 := (flawE_short (lsE_zero.1 h0).1).2
    have hl4' : dz'.length ≤ 4096 := (flawE_short (lsE_zero.1 h0).2.1).2
    clear h0 er0
    go_enter Try.func13, Try.ntmps13
    go_wp2_with fail
    rw [← hW1]
    clear hW1 a0 a1 a2 b0 b1 b2
    refine hp.mono ?_
    clear hp
    rintro e v1 ⟨rfl, hC⟩
    have HB1 : Hid (Below w.heap.size w v1) := HB0.out.trans (hC.mono HB0.out.size)
    have PA1 : Hid (Abx v1 w.heap.size (.bool c) (.slice sa sz.length sc) (.slice da dz.length dc)) := PA.out.go hC
    have PB1 : Hid (Abx v1 (w.heap.size + 1) (.bool c') (.slice sa' sz'.length sc') (.slice da' dz'.length dc')) := PB.out.go hC
    have PR1 : Hid (Abx v1 (w.heap.size + 1 + 1) (.bool false) (.slice none 0 0) (.slice none 0 0)) := PR.out.go hC
    clear hC PA PB PR PS HB0
    have a0 := PA1.out.c0
    have a1 := PA1.out.c1
    have a2 := PA1.out.c2
    have b0 := PB1.out.c0
    have b1 := PB1.out.c1
    have b2 := PB1.out.c2
    go_wp2_with fail
    have HBd : Hid (Below w.heap.size w v1.drew) := HB1.out.drew
    have PRv1 := PR1
    refine anyT_begin 6 (fun w' => w'.cell? ⟨w.heap.size, 0, none⟩ = some (.bool c) ∧ w'.cell? ⟨w.heap.size, 1, none⟩ = some (.slice sa sz.length sc) ∧ w'.cell? ⟨w.heap.size, 2, none⟩ = some (.slice da dz.length dc) ∧ w'.cell? ⟨w.heap.size + 1, 0, none⟩ = some (.bool c') ∧ w'.cell? ⟨w.heap.size + 1, 1, none⟩ = some (.slice sa' sz'.length sc') ∧ w'.cell? ⟨w.heap.size + 1, 2, none⟩ = some (.slice da' dz'.length dc')) 8 #[false, false, false, false, false, false, false, false] (by kernel_rfl) rfl rfl ?_
    refine anyT_put 0 15 ?rv8 #[true, false, false, false, false, false, false, false] rfl rfl rfl (by kernel_rfl) (by kernel_rfl) (by kernel_rfl) (fun _ _ _ h => h) (by decide) ?ry8 (fun _ => ⟨a0, a1, a2, b0, b1, b2⟩) ?rm8
    case ry8 => first | exact Or.inl ⟨by rfl, by intro w'; go_simp; first | done | rfl⟩
    case rm8 =>
    simp only [Act.put, List.setIfInBounds_toArray, List.set_cons_zero, List.set_cons_succ]
    refine anyT_take 1 16 ?rv9 #[true, true, false, false, false, false, false, false] rfl rfl rfl (by kernel_rfl) (by kernel_rfl) (by kernel_rfl) (fun _ _ _ h => h) (by kernel_rfl) (by decide) (by kernel_rfl) ?ry9 (⟨a0, a1, a2, b0, b1, b2⟩) ?rm9
    case ry9 => first | exact Or.inl ⟨by rfl, by intro w' hw'; (try dsimp only at hw'); go_simp; first | done | rfl⟩
    case rm9 =>
    simp only [Act.put, List.setIfInBounds_toArray, List.set_cons_zero, List.set_cons_succ]
    refine anyT_take 2 17 ?rv10 #[true, true, true, false, false, false, false, false] rfl rfl rfl (by kernel_rfl) (by kernel_rfl) (by kernel_rfl) (fun _ _ _ h => h) (by kernel_rfl) (by decide) (by kernel_rfl) ?ry10 (⟨a0, a1, a2, b0, b1, b2⟩) ?rm10
    case ry10 => first | exact Or.inl ⟨by rfl, by intro w' hw'; (try dsimp only at hw'); go_simp; first | done | rfl⟩
    case rm10 =>
    simp only [Act.put, List.setIfInBounds_toArray, List.set_cons_zero, List.set_cons_succ]
    refine anyT_take 3 18 ?rv11 #[true, true, true, true, false, false, false, false] rfl rfl rfl (by kernel_rfl) (by kernel_rfl) (by kernel_rfl) (fun _ _ _ h => h) (by kernel_rfl) (by decide) (by kernel_rfl) ?ry11 (⟨a0, a1, a2, b0, b1, b2⟩) ?rm11
    case ry11 => first | exact Or.inl ⟨by rfl, by intro w' hw'; (try dsimp only at hw'); go_simp; first | done | rfl⟩
    case rm11 =>
    simp only [Act.put, List.setIfInBounds_toArray, List.set_cons_zero, List.set_cons_succ]
    refine anyT_one 4 #[true, true, true, true, true, false, false, false] (by kernel_rfl) rfl rfl (fun K hK => ?_)
    go_simp
    go_wp2_with (go_at_call 27; refine (apart_any c sa sc sz da dc dz c' sa' sc' sz' da' dc' dz' hl4 hl4' v1.drew ((HI.out.2.1.below HBd.out).mono HBd.out.size) ((HI.out.2.2.2.below HBd.out).mono HBd.out.size) HT.out.1 HT.out.2).mono ?_; rintro e w2 ⟨g, gc, rfl, hN2, hB2⟩)
    have P2 := PA1.out.dr.go hB2
    have Q2 := PB1.out.dr.go hB2
    refine hK.out _ _ (fun _ => ⟨P2.c0, P2.c1, P2.c2, Q2.c0, Q2.c1, Q2.c2⟩) ?_
    clear hK K
    refine anyT_one 5 #[true, true, true, true, true, true, false, false] (by kernel_rfl) rfl rfl (fun K hK => ?_)
    go_simp
    go_wp2_with (go_at_call 23; refine (line8_any c g gc (shD c dz c' dz' false) w2).mono ?_; rintro e w3 ⟨xa, xc, rfl, hX, hB3⟩)
    have P3 := P2.go hB3
    have Q3 := Q2.go hB3
    have R3 := (PR1.out.dr.go hB2).go hB3
    have r0 := R3.c0
    have r1 := R3.c1
    have r2 := R3.c2
    have f0 := R3.fr 0
    have f1 := R3.fr 1
    have f2 := R3.fr 2
    refine hK.out _ _ (fun _ => ⟨P3.c0, P3.c1, P3.c2, Q3.c0, Q3.c1, Q3.c2⟩) ?_
    clear hK K
    refine anyT_one 6 #[true, true, true, true, true, true, true, false] (by kernel_rfl) rfl rfl (fun K hK => ?_)
    go_simp
    refine hK.out _ _ (fun h => absurd h (by decide)) ?_
    clear hK K
    refine anyT_one 7 #[true, true, true, true, true, true, true, true] (by kernel_rfl) rfl rfl (fun K hK => ?_)
    go_simp
    refine hK.out _ _ (fun h => absurd h (by decide)) ?_
    clear hK K
    refine anyT_done (by kernel_rfl) ?_
    go_wp2_with fail
    have F := R3.set3 (.bool c) (.slice xa 1 xc) (.slice g (shD c dz c' dz' false).length gc)
    have q0 := F.c0
    have q1 := F.c1
    have q2 := F.c2
    have z1 : w.heap.size + 1 + 1 < v1.drew.heap.size := PRv1.out.lt
    have z2 := hB2.size
    have z3 := HBd.out.size
    refine bodyPost_ret (v := .tuple #[.agg #[.bool c, .slice xa 1 xc, .slice g (shD c dz c' dz' false).length gc], .nilIface]) (by simp [results, Try.results13, go_sem, q0, q1, q2]) rfl ?_
    exact ub_ok (S := [((shD c dz c' dz' false).length : Int)]) (D := (shD c dz c' dz' false)) HN.out ((hX.set3 (Nat.lt_of_lt_of_le z1 z2) _ _ _).low (Nat.le_trans z3 z2)) (((hN2.go hB3).set3 z1 _ _ _).low z3) (bel_set3 (HBd.out.trans ((hB2.mono z3).trans (hB3.mono (Nat.le_trans z3 z2)))) (by omega) _ _ _)
  · have H0 : Hid (lsE c sz dz c' sz' dz' ≠ 0) := h0
    rw [errV_pos h0] at hp
    clear h0
    go_enter Try.func13, Try.ntmps13
    go_wp2_with fail
    rw [← hW1]
    clear hW1 a0 a1 a2 b0 b1 b2
    refine hp.mono ?_
    clear hp
    rintro e v1 ⟨rfl, hC⟩
    have HB1 : Hid (Below w.heap.size w v1) := HB0.out.trans (hC.mono HB0.out.size)
    have PA1 : Hid (Abx v1 w.heap.size (.bool c) (.slice sa sz.length sc) (.slice da dz.length dc)) := PA.out.go hC
    have PB1 : Hid (Abx v1 (w.heap.size + 1) (.bool c') (.slice sa' sz'.length sc') (.slice da' dz'.length dc')) := PB.out.go hC
    have PR1 : Hid (Abx v1 (w.heap.size + 1 + 1) (.bool false) (.slice none 0 0) (.slice none 0 0)) := PR.out.go hC
    clear hC PA PB PR PS HB0
    have r0 := PR1.out.c0
    have r1 := PR1.out.c1
    have r2 := PR1.out.c2
    have f0 := PR1.out.fr 0
    have f1 := PR1.out.fr 1
    have f2 := PR1.out.fr 2
    go_wp2_with fail
    have F := PR1.out.set3 (.bool false) (.slice none 0 0) (.slice none 0 0)
    have q0 := F.c0
    have q1 := F.c1
    have q2 := F.c2
    exact bodyPost_ret (v := .tuple #[.agg #[.bool false, .slice none 0 0, .slice none 0 0], .iface 37 (.int .i64 (lsE c sz dz c' sz' dz'))]) (by simp [results, Try.results13, go_sem, q0, q1, q2]) rfl (ub_no rfl H0.out (bel_set3 HB1.out (by omega) _ _ _))
set_option maxRecDepth 100000 in
set_option maxHeartbeats 4000000 in
theorem mt_holds : CMt := by
  intro c sa sc sz da dc dz c' sa' sc' sz' da' dc' dz' w h1 h2 h1' h2' hs hd hs' hd' T T'
  have HI : Hid (IsInts w.heap.size w sa sz ∧ IsInts w.heap.size w da dz ∧ IsInts w.heap.size w sa' sz' ∧ IsInts w.heap.size w da' dz') := ⟨hs, hd, hs', hd'⟩
  have HT : Hid ((∀ j, In64 (nth dz j)) ∧ ∀ j, In64 (nth dz' j)) := ⟨T, T'⟩
  clear hs hd hs' hd' T T'
  have pa := ((Abx.new w (.bool c) (.slice sa sz.length sc) (.slice da dz.length dc)).al (.cells #[.bool c', .slice sa' sz'.length sc', .slice da' dz'.length dc'] 24)).al (.cells #[.bool false, .slice none 0 0, .slice none 0 0] 24)
  have pb := (Abx.new1 w (.cells #[.bool c, .slice sa sz.length sc, .slice da dz.length dc] 24) (.bool c') (.slice sa' sz'.length sc') (.slice da' dz'.length dc')).al (.cells #[.bool false, .slice none 0 0, .slice none 0 0] 24)
  have a0 := pa.c0
  have a1 := pa.c1
  have a2 := pa.c2
  have b0 := pb.c0
  have b1 := pb.c1
  have b2 := pb.c2
  clear pa pb
  obtain ⟨W1, hW1⟩ : ∃ W1, W1 = (((w.alloc (.cells #[.bool c, .slice sa sz.length sc, .slice da dz.length dc] 24)).alloc (.cells #[.bool c', .slice sa' sz'.length sc', .slice da' dz'.length dc'] 24)).alloc (.cells #[.bool false, .slice none 0 0, .slice none 0 0] 24)).alloc (.cells #[.bool c', .slice sa' sz'.length sc', .slice da' dz'.length dc'] 24) := ⟨_, rfl⟩
  have HB0 : Hid (Below w.heap.size w W1) := by rw [hW1]; exact ((((Below.refl _ w).alloc (Nat.le_refl _) _).alloc (by simp) _).alloc (by simp; omega) _).alloc (by simp; omega) _
  have PA : Hid (Abx W1 w.heap.size (.bool c) (.slice sa sz.length sc) (.slice da dz.length dc)) := by rw [hW1]; exact (((Abx.new w _ _ _).al _).al _).al _
  have PB : Hid (Abx W1 (w.heap.size + 1) (.bool c') (.slice sa' sz'.length sc') (.slice da' dz'.length dc')) := by rw [hW1]; exact ((Abx.new1 w _ _ _ _).al _).al _
  have PR : Hid (Abx W1 (w.heap.size + 1 + 1) (.bool false) (.slice none 0 0) (.slice none 0 0)) := by
    rw [hW1]
    have := Abx.new1 (w.alloc (.cells #[.bool c, .slice sa sz.length sc, .slice da dz.length dc] 24)) (.cells #[.bool c', .slice sa' sz'.length sc', .slice da' dz'.length dc'] 24) (.bool false) (.slice none 0 0) (.slice none 0 0)
    rw [World.size_alloc] at this
    exact this.al _
  have PS : Hid (Abx W1 (w.heap.size + 1 + 1 + 1) (.bool c') (.slice sa' sz'.length sc') (.slice da' dz'.length dc')) := by
    rw [hW1]
    have := Abx.new1 ((w.alloc (.cells #[.bool c, .slice sa sz.length sc, .slice da dz.length dc] 24)).alloc (.cells #[.bool c', .slice sa' sz'.length sc', .slice da' dz'.length dc'] 24)) (.cells #[.bool false, .slice none 0 0, .slice none 0 0] 24) (.bool c') (.slice sa' sz'.length sc') (.slice da' dz'.length dc')
    rw [World.size_alloc, World.size_alloc] at this
    exact this
  have hp := chklines_any c sa sc sz da dc dz (some ⟨w.heap.size + 1 + 1 + 1, 0, none⟩) 1 [(c', (((sa', sc'), sz'), ((da', dc'), dz')))] h1 h2 (by simp) W1 ((HI.out.1.below HB0.out).mono HB0.out.size) ((HI.out.2.1.below HB0.out).mono HB0.out.size) (isBs_one PS.out h1' h2' ((HI.out.2.2.1.below HB0.out).mono HB0.out.size) ((HI.out.2.2.2.below HB0.out).mono HB0.out.size))
  rw [List.length_singleton, lnE_one] at hp
  by_cases h0 : lsE c sz dz c' sz' dz' = 0
  · have HN : Hid (lsE c sz dz c' sz' dz' = 0) := h0
    have er0 : errV 0 = .nilIface := rfl
    rw [h0, er0] at hp
    have hl4 : dz.length ≤ 4096 := (flawE_short (lsE_zero.1 h0).1).2
    have hl4' : dz'.length ≤ 4096 := (flawE_short (lsE_zero.1 h0).2.1).2
    clear h0 er0
    go_enter Try.func14, Try.ntmps14
    go_wp2_with fail
    rw [← hW1]
    clear hW1 a0 a1 a2 b0 b1 b2
    refine hp.mono ?_
    clear hp
    rintro e v1 ⟨rfl, hC⟩
    have HB1 : Hid (Below w.heap.size w v1) := HB0.out.trans (hC.mono HB0.out.size)
    have PA1 : Hid (Abx v1 w.heap.size (.bool c) (.slice sa sz.length sc) (.slice da dz.length dc)) := PA.out.go hC
    have PB1 : Hid (Abx v1 (w.heap.size + 1) (.bool c') (.slice sa' sz'.length sc') (.slice da' dz'.length dc')) := PB.out.go hC
    have PR1 : Hid (Abx v1 (w.heap.size + 1 + 1) (.bool false) (.slice none 0 0) (.slice none 0 0)) := PR.out.go hC
    clear hC PA PB PR PS HB0
    have a0 := PA1.out.c0
    have a1 := PA1.out.c1
    have a2 := PA1.out.c2
    have b0 := PB1.out.c0
    have b1 := PB1.out.c1
    have b2 := PB1.out.c2
    go_wp2_with fail
    refine (finder_any c' (.slice sa' sz'.length sc') da' dc' dz' c hl4' v1 ((HI.out.2.2.2.below HB1.out).mono HB1.out.size) HT.out.2).mono ?_
    rintro e v3 ⟨p, rfl, hF, hC⟩
    have HBv3 : Hid (Below w.heap.size w v3) := HB1.out.trans (hC.mono HB1.out.size)
    have HF : Hid (Finds v1.heap.size v3 p c' c dz') := hF
    have PAv3 : Hid (Abx v3 w.heap.size (.bool c) (.slice sa sz.length sc) (.slice da dz.length dc)) := PA1.out.go hC
    have PRv3 : Hid (Abx v3 (w.heap.size + 1 + 1) (.bool false) (.slice none 0 0) (.slice none 0 0)) := PR1.out.go hC
    clear hF hC a0 a1 a2 b0 b1 b2
    obtain ⟨u, hu⟩ : ∃ u, u = v3.alloc (.cells #[FindV p] 38) := ⟨_, rfl⟩
    have HBu : Hid (Below w.heap.size w u) := by rw [hu]; exact HBv3.out.alloc HBv3.out.size _
    have HFu : Hid (Finds v1.heap.size u p c' c dz') := by rw [hu]; exact HF.out.go ((Below.refl _ v3).alloc (Nat.le_refl _) _)
    have HQ : Hid (u.heap[v3.heap.size]? = some (.cells #[FindV p] 38 (0, 0))) := by rw [hu]; exact heap_alloc_new v3 _
    have PAu : Hid (Abx u w.heap.size (.bool c) (.slice sa sz.length sc) (.slice da dz.length dc)) := by rw [hu]; exact PAv3.out.al _
    have PRu : Hid (Abx u (w.heap.size + 1 + 1) (.bool false) (.slice none 0 0) (.slice none 0 0)) := by rw [hu]; exact PRv3.out.al _
    unfold FindV at hu
    go_wp2_with fail
    rw [← hu]
    clear hu
    have a0 := PAu.out.c0
    have a1 := PAu.out.c1
    have a2 := PAu.out.c2
    have HBd : Hid (Below w.heap.size w u.drew) := HBu.out.drew
    refine anyT_begin 6 (fun w' => w'.cell? ⟨w.heap.size, 0, none⟩ = some (.bool c) ∧ w'.cell? ⟨w.heap.size, 1, none⟩ = some (.slice sa sz.length sc) ∧ w'.cell? ⟨w.heap.size, 2, none⟩ = some (.slice da dz.length dc)) 8 #[false, false, false, false, false, false, false, false] (by kernel_rfl) rfl rfl ?_
    refine anyT_put 0 20 ?rv16 #[true, false, false, false, false, false, false, false] rfl rfl rfl (by kernel_rfl) (by kernel_rfl) (by kernel_rfl) (fun _ _ _ h => h) (by decide) ?ry16 (fun _ => ⟨a0, a1, a2⟩) ?rm16
    case ry16 => first | exact Or.inl ⟨by rfl, by intro w'; go_simp; first | done | rfl⟩
    case rm16 =>
    simp only [Act.put, List.setIfInBounds_toArray, List.set_cons_zero, List.set_cons_succ]
    refine anyT_take 1 21 ?rv17 #[true, true, false, false, false, false, false, false] rfl rfl rfl (by kernel_rfl) (by kernel_rfl) (by kernel_rfl) (fun _ _ _ h => h) (by kernel_rfl) (by decide) (by kernel_rfl) ?ry17 (⟨a0, a1, a2⟩) ?rm17
    case ry17 => first | exact Or.inl ⟨by rfl, by intro w' hw'; (try dsimp only at hw'); go_simp; first | done | rfl⟩
    case rm17 =>
    simp only [Act.put, List.setIfInBounds_toArray, List.set_cons_zero, List.set_cons_succ]
    refine anyT_take 2 22 ?rv18 #[true, true, true, false, false, false, false, false] rfl rfl rfl (by kernel_rfl) (by kernel_rfl) (by kernel_rfl) (fun _ _ _ h => h) (by kernel_rfl) (by decide) (by kernel_rfl) ?ry18 (⟨a0, a1, a2⟩) ?rm18
    case ry18 => first | exact Or.inl ⟨by rfl, by intro w' hw'; (try dsimp only at hw'); go_simp; first | done | rfl⟩
    case rm18 =>
    simp only [Act.put, List.setIfInBounds_toArray, List.set_cons_zero, List.set_cons_succ]
    refine anyT_put 3 23 ?rv19 #[true, true, true, true, false, false, false, false] rfl rfl rfl (by kernel_rfl) (by kernel_rfl) (by kernel_rfl) (fun _ _ _ h => h) (by decide) ?ry19 (fun _ => ⟨a0, a1, a2⟩) ?rm19
    case ry19 => first | exact Or.inl ⟨by rfl, by intro w'; go_simp; first | done | rfl⟩
    case rm19 =>
    simp only [Act.put, List.setIfInBounds_toArray, List.set_cons_zero, List.set_cons_succ]
    refine anyT_one 4 #[true, true, true, true, true, false, false, false] (by kernel_rfl) rfl rfl (fun K hK => ?_)
    go_simp
    go_wp2_with (go_at_call 24; refine (kept_any c (.slice sa sz.length sc) da dc dz 28 [.pointer (some ⟨v3.heap.size, 0, none⟩)] (enters_of Try.func28 (by kernel_rfl) rfl) (fun i => hsB c' dz' c (nth dz i)) hl4 u.drew ((HI.out.2.1.below HBd.out).mono HBd.out.size) (fun i hi w' hB => meet1_any v1.heap.size p v3.heap.size c' c dz' _ _ (HT.out.1 i) w' (Finds.go (W := u.drew) HFu.out hB) (cell_of_one (blk_go8 (w := u.drew) HQ.out hB)))).mono ?_; rintro e w2 ⟨g, gc, rfl, hN2, hB2⟩; rw [kpQ_all (has := true) (c := c) (c' := c') (dz' := dz') (fun i => by cases hsB c' dz' c (nth dz i) <;> rfl)] at hN2 ⊢)
    have P2 := PAu.out.dr.go hB2
    refine hK.out _ _ (fun _ => ⟨P2.c0, P2.c1, P2.c2⟩) ?_
    clear hK K
    refine anyT_one 5 #[true, true, true, true, true, true, false, false] (by kernel_rfl) rfl rfl (fun K hK => ?_)
    go_simp
    go_wp2_with (go_at_call 23; refine (line8_any c g gc (shD c dz c' dz' true) w2).mono ?_; rintro e w3 ⟨xa, xc, rfl, hX, hB3⟩)
    have P3 := P2.go hB3
    have R3 := (PRu.out.dr.go hB2).go hB3
    have r0 := R3.c0
    have r1 := R3.c1
    have r2 := R3.c2
    have f0 := R3.fr 0
    have f1 := R3.fr 1
    have f2 := R3.fr 2
    refine hK.out _ _ (fun _ => ⟨P3.c0, P3.c1, P3.c2⟩) ?_
    clear hK K
    refine anyT_one 6 #[true, true, true, true, true, true, true, false] (by kernel_rfl) rfl rfl (fun K hK => ?_)
    go_simp
    refine hK.out _ _ (fun h => absurd h (by decide)) ?_
    clear hK K
    refine anyT_one 7 #[true, true, true, true, true, true, true, true] (by kernel_rfl) rfl rfl (fun K hK => ?_)
    go_simp
    refine hK.out _ _ (fun h => absurd h (by decide)) ?_
    clear hK K
    refine anyT_done (by kernel_rfl) ?_
    go_wp2_with fail
    have F := R3.set3 (.bool c) (.slice xa 1 xc) (.slice g (shD c dz c' dz' true).length gc)
    have q0 := F.c0
    have q1 := F.c1
    have q2 := F.c2
    have z1 : w.heap.size + 1 + 1 < u.drew.heap.size := PRu.out.lt
    have z2 := hB2.size
    have z3 := HBd.out.size
    refine bodyPost_ret (v := .tuple #[.agg #[.bool c, .slice xa 1 xc, .slice g (shD c dz c' dz' true).length gc], .nilIface]) (by simp [results, Try.results14, go_sem, q0, q1, q2]) rfl ?_
    exact ub_ok (S := [((shD c dz c' dz' true).length : Int)]) (D := (shD c dz c' dz' true)) HN.out ((hX.set3 (Nat.lt_of_lt_of_le z1 z2) _ _ _).low (Nat.le_trans z3 z2)) (((hN2.go hB3).set3 z1 _ _ _).low z3) (bel_set3 (HBd.out.trans ((hB2.mono z3).trans (hB3.mono (Nat.le_trans z3 z2)))) (by omega) _ _ _)
  · have H0 : Hid (lsE c sz dz c' sz' dz' ≠ 0) := h0
    rw [errV_pos h0] at hp
    clear h0
    go_enter Try.func14, Try.ntmps14
    go_wp2_with fail
    rw [← hW1]
    clear hW1 a0 a1 a2 b0 b1 b2
    refine hp.mono ?_
    clear hp
    rintro e v1 ⟨rfl, hC⟩
    have HB1 : Hid (Below w.heap.size w v1) := HB0.out.trans (hC.mono HB0.out.size)
    have PA1 : Hid (Abx v1 w.heap.size (.bool c) (.slice sa sz.length sc) (.slice da dz.length dc)) := PA.out.go hC
    have PB1 : Hid (Abx v1 (w.heap.size + 1) (.bool c') (.slice sa' sz'.length sc') (.slice da' dz'.length dc')) := PB.out.go hC
    have PR1 : Hid (Abx v1 (w.heap.size + 1 + 1) (.bool false) (.slice none 0 0) (.slice none 0 0)) := PR.out.go hC
    clear hC PA PB PR PS HB0
    have r0 := PR1.out.c0
    have r1 := PR1.out.c1
    have r2 := PR1.out.c2
    have f0 := PR1.out.fr 0
    have f1 := PR1.out.fr 1
    have f2 := PR1.out.fr 2
    go_wp2_with fail
    have F := PR1.out.set3 (.bool false) (.slice none 0 0) (.slice none 0 0)
    have q0 := F.c0
    have q1 := F.c1
    have q2 := F.c2
    exact bodyPost_ret (v := .tuple #[.agg #[.bool false, .slice none 0 0, .slice none 0 0], .iface 37 (.int .i64 (lsE c sz dz c' sz' dz'))]) (by simp [results, Try.results14, go_sem, q0, q1, q2]) rfl (ub_no rfl H0.out (bel_set3 HB1.out (by omega) _ _ _))
end Go.Proofs.Yteieliajdfbipaa
