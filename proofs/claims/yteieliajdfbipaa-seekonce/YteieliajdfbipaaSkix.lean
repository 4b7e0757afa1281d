/-
  What the program's Index tells.
-/
import Derived.Test.YteieliajdfbipaaSkt
import Derived.Test.YteieliajdfbipaaSkl
import Derived.Test.YteieliajdfbipaaSkp
import Derived.Test.YteieliajdfbipaaSekq
import Derived.Test.YteieliajdfbipaaUbm
namespace Go.Proofs.Yteieliajdfbipaa
open Go.RowKit
set_option linter.unusedVariables false

set_option maxRecDepth 100000 in
set_option maxHeartbeats 4000000 in
theorem ix_holds : CIx := by
  intro c sa sc sz da dc dz c' sa' sc' sz' da' dc' dz' w h1 h2 h1' h2' hs hd hs' hd' T T'
  have HI : Hid (IsInts w.heap.size w sa sz ∧ IsInts w.heap.size w da dz ∧ IsInts w.heap.size w sa' sz' ∧ IsInts w.heap.size w da' dz') := ⟨hs, hd, hs', hd'⟩
  have HT : Hid ((∀ j, In64 (nth dz j)) ∧ ∀ j, In64 (nth dz' j)) := ⟨T, T'⟩
  clear hs hd hs' hd' T T'
  have pa := ((Abx.new w (.bool c) (.slice sa sz.length sc) (.slice da dz.length dc)).al (.cells #[.bool c', .slice sa' sz'.length sc', .slice da' dz'.length dc'] 24)).al (.cells #[.bool false, .slice none 0 0, .slice none 0 0] 24)
  have pb := (Abx.new1 w (.cells #[.bool c, .slice sa sz.length sc, .slice da dz.length dc] 24) (.bool c') (.slice sa' sz'.length sc') (.slice da' dz'.length dc')).al (.cells #[.bool false, .slice none 0 0, .slice none 0 0] 24)
  have a0 := pa.c0
  have a1 := pa.c1
  have a2 := pa.c2
  have b0 := pb.c0
  have b1 := pb.c1
  have b2 := pb.c2
  clear pa pb
  obtain ⟨W1, hW1⟩ : ∃ W1, W1 = (((w.alloc (.cells #[.bool c, .slice sa sz.length sc, .slice da dz.length dc] 24)).alloc (.cells #[.bool c', .slice sa' sz'.length sc', .slice da' dz'.length dc'] 24)).alloc (.cells #[.bool false, .slice none 0 0, .slice none 0 0] 24)).alloc (.cells #[.bool c', .slice sa' sz'.length sc', .slice da' dz'.length dc'] 24) := ⟨_, rfl⟩
  have HB0 : Hid (Below w.heap.size w W1) := by rw [hW1]; exact ((((Below.refl _ w).alloc (Nat.le_refl _) _).alloc (by simp) _).alloc (by simp; omega) _).alloc (by simp; omega) _
  have PA : Hid (Abx W1 w.heap.size (.bool c) (.slice sa sz.length sc) (.slice da dz.length dc)) := by rw [hW1]; exact (((Abx.new w _ _ _).al _).al _).al _
  have PB : Hid (Abx W1 (w.heap.size + 1) (.bool c') (.slice sa' sz'.length sc') (.slice da' dz'.length dc')) := by rw [hW1]; exact ((Abx.new1 w _ _ _ _).al _).al _
  have PR : Hid (Abx W1 (w.heap.size + 1 + 1) (.bool false) (.slice none 0 0) (.slice none 0 0)) := by
    rw [hW1]
    have := Abx.new1 (w.alloc (.cells #[.bool c, .slice sa sz.length sc, .slice da dz.length dc] 24)) (.cells #[.bool c', .slice sa' sz'.length sc', .slice da' dz'.length dc'] 24) (.bool false) (.slice none 0 0) (.slice none 0 0)
    rw [World.size_alloc] at this
    exact this.al _
  have PS : Hid (Abx W1 (w.heap.size + 1 + 1 + 1) (.bool c') (.slice sa' sz'.length sc') (.slice da' dz'.length dc')) := by
    rw [hW1]
    have := Abx.new1 ((w.alloc (.cells #[.bool c, .slice sa sz.length sc, .slice da dz.length dc] 24)).alloc (.cells #[.bool c', .slice sa' sz'.length sc', .slice da' dz'.length dc'] 24)) (.cells #[.bool false, .slice none 0 0, .slice none 0 0] 24) (.bool c') (.slice sa' sz'.length sc') (.slice da' dz'.length dc')
    rw [World.size_alloc, World.size_alloc] at this
    exact this
  have hp := chkall8 c sa sc sz da dc dz (some ⟨w.heap.size + 1 + 1 + 1, 0, none⟩) 1 [(c', (((sa', sc'), sz'), ((da', dc'), dz')))] h1 h2 (by simp) W1 ((HI.out.1.below HB0.out).mono HB0.out.size) ((HI.out.2.1.below HB0.out).mono HB0.out.size) (isBs_one PS.out h1' h2' ((HI.out.2.2.1.below HB0.out).mono HB0.out.size) ((HI.out.2.2.2.below HB0.out).mono HB0.out.size))
  rw [List.length_singleton, bsE_one] at hp
  by_cases h0 : flawsE c sz dz c' sz' dz' = 0
  · have HF0 : Hid (flawE c sz dz = 0 ∧ flawE c' sz' dz' = 0) := flawsE_zero.1 h0
    have er0 : errV 0 = .nilIface := rfl
    have HE : Hid (ixE c sz dz c' sz' dz' = if sz.length ≠ 1 then 3 else 0) := by show _ = _; unfold ixE; rw [if_neg (not_not_intro h0)]
    rw [h0, er0] at hp
    clear h0 er0
    have hl4 : dz.length ≤ 4096 := (flawE_short HF0.out.1).2
    have hl4' : dz'.length ≤ 4096 := (flawE_short HF0.out.2).2
    have hs6 : sz.length ≤ 6 := (flawE_short HF0.out.1).1
    have hs6' : sz'.length ≤ 6 := (flawE_short HF0.out.2).1
    go_enter Try.func6, Try.ntmps6
    go_wp2_with fail
    rw [← hW1]
    clear hW1 a0 a1 a2 b0 b1 b2
    refine hp.mono ?_
    clear hp
    rintro e v1 ⟨rfl, hC⟩
    have HB1 : Hid (Below w.heap.size w v1) := HB0.out.trans (hC.mono HB0.out.size)
    have PA1 : Hid (Abx v1 w.heap.size (.bool c) (.slice sa sz.length sc) (.slice da dz.length dc)) := PA.out.go hC
    have PB1 : Hid (Abx v1 (w.heap.size + 1) (.bool c') (.slice sa' sz'.length sc') (.slice da' dz'.length dc')) := PB.out.go hC
    have PR1 : Hid (Abx v1 (w.heap.size + 1 + 1) (.bool false) (.slice none 0 0) (.slice none 0 0)) := PR.out.go hC
    clear hC PA PB PR PS HB0
    have a0 := PA1.out.c0
    have a1 := PA1.out.c1
    have a2 := PA1.out.c2
    go_wp2_with fail
    refine (isline_any c sa sc sz (.slice da dz.length dc) v1).mono ?_
    rintro e v2 ⟨rfl, hC⟩
    have HB2 : Hid (Below w.heap.size w v2) := HB1.out.trans (hC.mono HB1.out.size)
    have PA2 : Hid (Abx v2 w.heap.size (.bool c) (.slice sa sz.length sc) (.slice da dz.length dc)) := PA1.out.go hC
    have PB2 : Hid (Abx v2 (w.heap.size + 1) (.bool c') (.slice sa' sz'.length sc') (.slice da' dz'.length dc')) := PB1.out.go hC
    have PR2 : Hid (Abx v2 (w.heap.size + 1 + 1) (.bool false) (.slice none 0 0) (.slice none 0 0)) := PR1.out.go hC
    clear hC PA1 PB1 PR1 a0 a1 a2
    by_cases hl : sz.length = 1
    · rw [decide_eq_true hl]
      have HN : Hid (ixE c sz dz c' sz' dz' = 0) := by show _ = _; rw [HE.out, if_neg (not_not_intro hl)]
      clear hl
      have a0 := PA2.out.c0
      have a1 := PA2.out.c1
      have a2 := PA2.out.c2
      have b0 := PB2.out.c0
      have b1 := PB2.out.c1
      have b2 := PB2.out.c2
      go_wp2_with fail
      refine (finder_any c (.slice sa sz.length sc) da dc dz c' hl4 v2 ((HI.out.2.1.below HB2.out).mono HB2.out.size) HT.out.1).mono ?_
      rintro e v3 ⟨p, rfl, hF, hC⟩
      have HBv3 : Hid (Below w.heap.size w v3) := HB2.out.trans (hC.mono HB2.out.size)
      have HF : Hid (Finds v2.heap.size v3 p c c' dz) := hF
      have PAv3 : Hid (Abx v3 w.heap.size (.bool c) (.slice sa sz.length sc) (.slice da dz.length dc)) := PA2.out.go hC
      have PBv3 : Hid (Abx v3 (w.heap.size + 1) (.bool c') (.slice sa' sz'.length sc') (.slice da' dz'.length dc')) := PB2.out.go hC
      have PRv3 : Hid (Abx v3 (w.heap.size + 1 + 1) (.bool false) (.slice none 0 0) (.slice none 0 0)) := PR2.out.go hC
      clear hF hC a0 a1 a2 b0 b1 b2
      obtain ⟨u, hu⟩ : ∃ u, u = v3.alloc (.cells #[FindV p] 38) := ⟨_, rfl⟩
      have HBu : Hid (Below w.heap.size w u) := by rw [hu]; exact HBv3.out.alloc HBv3.out.size _
      have HFu : Hid (Finds v2.heap.size u p c c' dz) := by rw [hu]; exact HF.out.go ((Below.refl _ v3).alloc (Nat.le_refl _) _)
      have HQ : Hid (u.heap[v3.heap.size]? = some (.cells #[FindV p] 38 (0, 0))) := by rw [hu]; exact heap_alloc_new v3 _
      have PAu : Hid (Abx u w.heap.size (.bool c) (.slice sa sz.length sc) (.slice da dz.length dc)) := by rw [hu]; exact PAv3.out.al _
      have PBu : Hid (Abx u (w.heap.size + 1) (.bool c') (.slice sa' sz'.length sc') (.slice da' dz'.length dc')) := by rw [hu]; exact PBv3.out.al _
      have PRu : Hid (Abx u (w.heap.size + 1 + 1) (.bool false) (.slice none 0 0) (.slice none 0 0)) := by rw [hu]; exact PRv3.out.al _
      unfold FindV at hu
      have pb := PBv3.out.al (.cells #[.func (.func 30) #[] #[.pointer (some ⟨p, 0, none⟩)]] 38)
      have b0 := pb.c0
      have b1 := pb.c1
      have b2 := pb.c2
      clear pb
      go_wp2_with fail
      rw [← hu]
      clear hu b0 b1 b2
      refine (tell8_any c' sa' sc' sz' da' dc' dz' 19 [.pointer (some ⟨v3.heap.size, 0, none⟩), .pointer (some ⟨w.heap.size, 0, none⟩)] (enters_of Try.func19 (by kernel_rfl) rfl) (ixD c dz c' dz') ixD_length (by omega) hl4' u ((HI.out.2.2.1.below HBu.out).mono HBu.out.size) ((HI.out.2.2.2.below HBu.out).mono HBu.out.size) (fun i hi w' hB => by rw [ixD_nth hi]; exact index1_any _ p v3.heap.size w.heap.size c c' da dc dz _ (HT.out.2 i) w' (HFu.out.go hB) (cell_of_one (blk_go8 HQ.out hB)) (PAu.out.go hB).c2)).mono ?_
      rintro e v5 ⟨xa, xc, ya, yc, rfl, hX, hY, hC⟩
      have HX : Hid (NewC u.heap.size v5 xa sz' xc ∧ NewC u.heap.size v5 ya (ixD c dz c' dz') yc) := ⟨hX, hY⟩
      have HB5 : Hid (Below w.heap.size w v5) := HBu.out.trans (hC.mono HBu.out.size)
      have PR5 : Hid (Abx v5 (w.heap.size + 1 + 1) (.bool false) (.slice none 0 0) (.slice none 0 0)) := PRu.out.go hC
      have z1 : w.heap.size + 1 + 1 < u.heap.size := PRu.out.lt
      clear hX hY hC
      generalize hD : ixD c dz c' dz' = D at *
      have HDD : Hid (ixD c dz c' dz' = D) := hD
      clear hD
      have r0 := PR5.out.c0
      have r1 := PR5.out.c1
      have r2 := PR5.out.c2
      have f0 := PR5.out.fr 0
      have f1 := PR5.out.fr 1
      have f2 := PR5.out.fr 2
      go_wp2_with fail
      have F := PR5.out.set3 (.bool false) (.slice xa sz'.length xc) (.slice ya D.length yc)
      have q0 := F.c0
      have q1 := F.c1
      have q2 := F.c2
      refine bodyPost_ret (v := .tuple #[.agg #[.bool false, .slice xa sz'.length xc, .slice ya D.length yc], .nilIface]) (by simp [results, Try.results6, go_sem, q0, q1, q2]) rfl ?_
      exact ub_ok HN.out ((HX.out.1.set3 z1 _ _ _).low HBu.out.size) ((HX.out.2.set3 z1 _ _ _).low HBu.out.size) (bel_set3 HB5.out (by omega) _ _ _)
    · rw [decide_eq_false hl]
      have HN : Hid (ixE c sz dz c' sz' dz' = 3) := by show _ = _; rw [HE.out, if_pos hl]
      clear hl
      have r0 := PR2.out.c0
      have r1 := PR2.out.c1
      have r2 := PR2.out.c2
      have f0 := PR2.out.fr 0
      have f1 := PR2.out.fr 1
      have f2 := PR2.out.fr 2
      go_wp2_with fail
      have F := PR2.out.set3 (.bool false) (.slice none 0 0) (.slice none 0 0)
      have q0 := F.c0
      have q1 := F.c1
      have q2 := F.c2
      exact bodyPost_ret (v := .tuple #[.agg #[.bool false, .slice none 0 0, .slice none 0 0], .iface 37 (.int .i64 3)]) (by simp [results, Try.results6, go_sem, q0, q1, q2]) rfl (ub_no HN.out (by decide) (bel_set3 HB2.out (by omega) _ _ _))
  · have HE : Hid (ixE c sz dz c' sz' dz' = flawsE c sz dz c' sz' dz' ∧ flawsE c sz dz c' sz' dz' ≠ 0) := ⟨by unfold ixE; rw [if_pos h0], h0⟩
    rw [errV_pos h0] at hp
    clear h0
    go_enter Try.func6, Try.ntmps6
    go_wp2_with fail
    rw [← hW1]
    clear hW1 a0 a1 a2 b0 b1 b2
    refine hp.mono ?_
    clear hp
    rintro e v1 ⟨rfl, hC⟩
    have HB1 : Hid (Below w.heap.size w v1) := HB0.out.trans (hC.mono HB0.out.size)
    have PA1 : Hid (Abx v1 w.heap.size (.bool c) (.slice sa sz.length sc) (.slice da dz.length dc)) := PA.out.go hC
    have PB1 : Hid (Abx v1 (w.heap.size + 1) (.bool c') (.slice sa' sz'.length sc') (.slice da' dz'.length dc')) := PB.out.go hC
    have PR1 : Hid (Abx v1 (w.heap.size + 1 + 1) (.bool false) (.slice none 0 0) (.slice none 0 0)) := PR.out.go hC
    clear hC PA PB PR PS HB0
    have r0 := PR1.out.c0
    have r1 := PR1.out.c1
    have r2 := PR1.out.c2
    have f0 := PR1.out.fr 0
    have f1 := PR1.out.fr 1
    have f2 := PR1.out.fr 2
    go_wp2_with fail
    have F := PR1.out.set3 (.bool false) (.slice none 0 0) (.slice none 0 0)
    have q0 := F.c0
    have q1 := F.c1
    have q2 := F.c2
    exact bodyPost_ret (v := .tuple #[.agg #[.bool false, .slice none 0 0, .slice none 0 0], .iface 37 (.int .i64 (flawsE c sz dz c' sz' dz'))]) (by simp [results, Try.results6, go_sem, q0, q1, q2]) rfl (ub_no HE.out.1 HE.out.2 (bel_set3 HB1.out (by omega) _ _ _))
end Go.Proofs.Yteieliajdfbipaa
