/-
  What the program's Nub tells.
-/
import Derived.Test.YteieliajdfbipaaSkl
import Derived.Test.YteieliajdfbipaaSkp
import Derived.Test.YteieliajdfbipaaSekq
import Derived.Test.YteieliajdfbipaaUbm
import Derived.Test.YteieliajdfbipaaBase
namespace Go.Proofs.Yteieliajdfbipaa
open Go.RowKit
set_option linter.unusedVariables false

set_option maxRecDepth 100000 in
set_option maxHeartbeats 4000000 in
theorem nb_holds : CNb := by
  intro c sa sc sz da dc dz w h1 h2 hs hd T
  have HI : Hid (IsInts w.heap.size w sa sz ∧ IsInts w.heap.size w da dz) := ⟨hs, hd⟩
  have HT : Hid (∀ j, In64 (nth dz j)) := T
  clear hs hd T
  have pa := (Abx.new w (.bool c) (.slice sa sz.length sc) (.slice da dz.length dc)).al (.cells #[.bool false, .slice none 0 0, .slice none 0 0] 24)
  have a0 := pa.c0
  have a1 := pa.c1
  have a2 := pa.c2
  clear pa
  obtain ⟨W1, hW1⟩ : ∃ W1, W1 = (w.alloc (.cells #[.bool c, .slice sa sz.length sc, .slice da dz.length dc] 24)).alloc (.cells #[.bool false, .slice none 0 0, .slice none 0 0] 24) := ⟨_, rfl⟩
  have HB0 : Hid (Below w.heap.size w W1) := by rw [hW1]; exact ((Below.refl _ w).alloc (Nat.le_refl _) _).alloc (by simp) _
  have PA : Hid (Abx W1 w.heap.size (.bool c) (.slice sa sz.length sc) (.slice da dz.length dc)) := by rw [hW1]; exact (Abx.new w _ _ _).al _
  have PR : Hid (Abx W1 (w.heap.size + 1) (.bool false) (.slice none 0 0) (.slice none 0 0)) := by rw [hW1]; exact Abx.new1 w _ _ _ _
  have hp := chklines_any c sa sc sz da dc dz none 0 [] h1 h2 (by simp) W1 ((HI.out.1.below HB0.out).mono HB0.out.size) ((HI.out.2.below HB0.out).mono HB0.out.size) (isBs_nil _ _ _)
  rw [List.length_nil, lnE_nil] at hp
  by_cases h0 : nbE c sz dz = 0
  · have HN : Hid (nbE c sz dz = 0) := h0
    have er0 : errV 0 = .nilIface := rfl
    rw [h0, er0] at hp
    have hl4 : dz.length ≤ 4096 := (flawE_short (nbE_zero.1 h0).1).2
    clear h0 er0
    go_enter Try.func10, Try.ntmps10
    go_wp2_with fail
    rw [← hW1]
    clear hW1 a0 a1 a2
    refine hp.mono ?_
    clear hp
    rintro e v1 ⟨rfl, hC⟩
    have HB1 : Hid (Below w.heap.size w v1) := HB0.out.trans (hC.mono HB0.out.size)
    have PA1 : Hid (Abx v1 w.heap.size (.bool c) (.slice sa sz.length sc) (.slice da dz.length dc)) := PA.out.go hC
    have PR1 : Hid (Abx v1 (w.heap.size + 1) (.bool false) (.slice none 0 0) (.slice none 0 0)) := PR.out.go hC
    clear hC PA PR HB0
    have a0 := PA1.out.c0
    have a1 := PA1.out.c1
    have a2 := PA1.out.c2
    go_wp2_with fail
    refine (finder_any c (.slice sa sz.length sc) da dc dz c hl4 v1 ((HI.out.2.below HB1.out).mono HB1.out.size) HT.out).mono ?_
    rintro e v3 ⟨p, rfl, hF, hC⟩
    have HBv3 : Hid (Below w.heap.size w v3) := HB1.out.trans (hC.mono HB1.out.size)
    have HF : Hid (Finds v1.heap.size v3 p c c dz) := hF
    have PAv3 : Hid (Abx v3 w.heap.size (.bool c) (.slice sa sz.length sc) (.slice da dz.length dc)) := PA1.out.go hC
    have PRv3 : Hid (Abx v3 (w.heap.size + 1) (.bool false) (.slice none 0 0) (.slice none 0 0)) := PR1.out.go hC
    clear hF hC a0 a1 a2
    obtain ⟨u, hu⟩ : ∃ u, u = v3.alloc (.cells #[FindV p] 38) := ⟨_, rfl⟩
    have HBu : Hid (Below w.heap.size w u) := by rw [hu]; exact HBv3.out.alloc HBv3.out.size _
    have HFu : Hid (Finds v1.heap.size u p c c dz) := by rw [hu]; exact HF.out.go ((Below.refl _ v3).alloc (Nat.le_refl _) _)
    have HQ : Hid (u.heap[v3.heap.size]? = some (.cells #[FindV p] 38 (0, 0))) := by rw [hu]; exact heap_alloc_new v3 _
    have PAu : Hid (Abx u w.heap.size (.bool c) (.slice sa sz.length sc) (.slice da dz.length dc)) := by rw [hu]; exact PAv3.out.al _
    have PRu : Hid (Abx u (w.heap.size + 1) (.bool false) (.slice none 0 0) (.slice none 0 0)) := by rw [hu]; exact PRv3.out.al _
    unfold FindV at hu
    go_wp2_with fail
    rw [← hu]
    clear hu
    have a0 := PAu.out.c0
    have a1 := PAu.out.c1
    have a2 := PAu.out.c2
    have HBd : Hid (Below w.heap.size w u.drew) := HBu.out.drew
    refine anyT_begin 6 (fun w' => w'.cell? ⟨w.heap.size, 0, none⟩ = some (.bool c) ∧ w'.cell? ⟨w.heap.size, 1, none⟩ = some (.slice sa sz.length sc) ∧ w'.cell? ⟨w.heap.size, 2, none⟩ = some (.slice da dz.length dc)) 8 #[false, false, false, false, false, false, false, false] (by kernel_rfl) rfl rfl ?_
    refine anyT_put 0 16 ?rv0 #[true, false, false, false, false, false, false, false] rfl rfl rfl (by kernel_rfl) (by kernel_rfl) (by kernel_rfl) (fun _ _ _ h => h) (by decide) ?ry0 (fun _ => ⟨a0, a1, a2⟩) ?rm0
    case ry0 => first | exact Or.inl ⟨by rfl, by intro w'; go_simp; first | done | rfl⟩
    case rm0 =>
    simp only [Act.put, List.setIfInBounds_toArray, List.set_cons_zero, List.set_cons_succ]
    refine anyT_take 1 17 ?rv1 #[true, true, false, false, false, false, false, false] rfl rfl rfl (by kernel_rfl) (by kernel_rfl) (by kernel_rfl) (fun _ _ _ h => h) (by kernel_rfl) (by decide) (by kernel_rfl) ?ry1 (⟨a0, a1, a2⟩) ?rm1
    case ry1 => first | exact Or.inl ⟨by rfl, by intro w' hw'; (try dsimp only at hw'); go_simp; first | done | rfl⟩
    case rm1 =>
    simp only [Act.put, List.setIfInBounds_toArray, List.set_cons_zero, List.set_cons_succ]
    refine anyT_take 2 18 ?rv2 #[true, true, true, false, false, false, false, false] rfl rfl rfl (by kernel_rfl) (by kernel_rfl) (by kernel_rfl) (fun _ _ _ h => h) (by kernel_rfl) (by decide) (by kernel_rfl) ?ry2 (⟨a0, a1, a2⟩) ?rm2
    case ry2 => first | exact Or.inl ⟨by rfl, by intro w' hw'; (try dsimp only at hw'); go_simp; first | done | rfl⟩
    case rm2 =>
    simp only [Act.put, List.setIfInBounds_toArray, List.set_cons_zero, List.set_cons_succ]
    refine anyT_put 3 19 ?rv3 #[true, true, true, true, false, false, false, false] rfl rfl rfl (by kernel_rfl) (by kernel_rfl) (by kernel_rfl) (fun _ _ _ h => h) (by decide) ?ry3 (fun _ => ⟨a0, a1, a2⟩) ?rm3
    case ry3 => first | exact Or.inl ⟨by rfl, by intro w'; go_simp; first | done | rfl⟩
    case rm3 =>
    simp only [Act.put, List.setIfInBounds_toArray, List.set_cons_zero, List.set_cons_succ]
    refine anyT_one 4 #[true, true, true, true, true, false, false, false] (by kernel_rfl) rfl rfl (fun K hK => ?_)
    go_simp
    go_wp2_with (go_at_call 24; refine (kept_any c (.slice sa sz.length sc) da dc dz 25 [.pointer (some ⟨v3.heap.size, 0, none⟩)] (enters_of Try.func25 (by kernel_rfl) rfl) (fun i => fdV c c (nth dz i) dz == (i : Int)) hl4 u.drew ((HI.out.2.below HBd.out).mono HBd.out.size) (fun i hi w' hB => nub1_any v1.heap.size p v3.heap.size c c dz i _ (HT.out i) w' (Finds.go (W := u.drew) HFu.out hB) (cell_of_one (blk_go8 (w := u.drew) HQ.out hB)))).mono ?_; rintro e w2 ⟨g, gc, rfl, hN2, hB2⟩; rw [kpQ_nb _ (Nat.le_refl _)] at hN2 ⊢)
    have P2 := PAu.out.dr.go hB2
    refine hK.out _ _ (fun _ => ⟨P2.c0, P2.c1, P2.c2⟩) ?_
    clear hK K
    refine anyT_one 5 #[true, true, true, true, true, true, false, false] (by kernel_rfl) rfl rfl (fun K hK => ?_)
    go_simp
    go_wp2_with (go_at_call 23; refine (line8_any c g gc (nbL dz) w2).mono ?_; rintro e w3 ⟨xa, xc, rfl, hX, hB3⟩)
    have P3 := P2.go hB3
    have R3 := (PRu.out.dr.go hB2).go hB3
    have r0 := R3.c0
    have r1 := R3.c1
    have r2 := R3.c2
    have f0 := R3.fr 0
    have f1 := R3.fr 1
    have f2 := R3.fr 2
    refine hK.out _ _ (fun _ => ⟨P3.c0, P3.c1, P3.c2⟩) ?_
    clear hK K
    refine anyT_one 6 #[true, true, true, true, true, true, true, false] (by kernel_rfl) rfl rfl (fun K hK => ?_)
    go_simp
    refine hK.out _ _ (fun h => absurd h (by decide)) ?_
    clear hK K
    refine anyT_one 7 #[true, true, true, true, true, true, true, true] (by kernel_rfl) rfl rfl (fun K hK => ?_)
    go_simp
    refine hK.out _ _ (fun h => absurd h (by decide)) ?_
    clear hK K
    refine anyT_done (by kernel_rfl) ?_
    go_wp2_with fail
    have F := R3.set3 (.bool c) (.slice xa 1 xc) (.slice g (nbL dz).length gc)
    have q0 := F.c0
    have q1 := F.c1
    have q2 := F.c2
    have z1 : w.heap.size + 1 < u.drew.heap.size := PRu.out.lt
    have z2 := hB2.size
    have z3 := HBd.out.size
    refine bodyPost_ret (v := .tuple #[.agg #[.bool c, .slice xa 1 xc, .slice g (nbL dz).length gc], .nilIface]) (by simp [results, Try.results10, go_sem, q0, q1, q2]) rfl ?_
    exact ub_ok (S := [((nbL dz).length : Int)]) (D := (nbL dz)) HN.out ((hX.set3 (Nat.lt_of_lt_of_le z1 z2) _ _ _).low (Nat.le_trans z3 z2)) (((hN2.go hB3).set3 z1 _ _ _).low z3) (bel_set3 (HBd.out.trans ((hB2.mono z3).trans (hB3.mono (Nat.le_trans z3 z2)))) (by omega) _ _ _)
  · have H0 : Hid (nbE c sz dz ≠ 0) := h0
    rw [errV_pos h0] at hp
    clear h0
    go_enter Try.func10, Try.ntmps10
    go_wp2_with fail
    rw [← hW1]
    clear hW1 a0 a1 a2
    refine hp.mono ?_
    clear hp
    rintro e v1 ⟨rfl, hC⟩
    have HB1 : Hid (Below w.heap.size w v1) := HB0.out.trans (hC.mono HB0.out.size)
    have PA1 : Hid (Abx v1 w.heap.size (.bool c) (.slice sa sz.length sc) (.slice da dz.length dc)) := PA.out.go hC
    have PR1 : Hid (Abx v1 (w.heap.size + 1) (.bool false) (.slice none 0 0) (.slice none 0 0)) := PR.out.go hC
    clear hC PA PR HB0
    have r0 := PR1.out.c0
    have r1 := PR1.out.c1
    have r2 := PR1.out.c2
    have f0 := PR1.out.fr 0
    have f1 := PR1.out.fr 1
    have f2 := PR1.out.fr 2
    go_wp2_with fail
    have F := PR1.out.set3 (.bool false) (.slice none 0 0) (.slice none 0 0)
    have q0 := F.c0
    have q1 := F.c1
    have q2 := F.c2
    exact bodyPost_ret (v := .tuple #[.agg #[.bool false, .slice none 0 0, .slice none 0 0], .iface 37 (.int .i64 (nbE c sz dz))]) (by simp [results, Try.results10, go_sem, q0, q1, q2]) rfl (ub_no rfl H0.out (bel_set3 HB1.out (by omega) _ _ _))
end Go.Proofs.Yteieliajdfbipaa
