/-
  What package pick's At tells.
-/
import Derived.Test.YteddkfeiikdekaaPpk
import Derived.Test.YteddkfeiikdekaaPikq
import Derived.Deep.QuietTactic
import Derived.BigQuiet
import Derived.WalkSmall
namespace Go.Proofs.Yteddkfeiikdekaa
open Go.RowKit
set_option linter.unusedVariables false

set_option maxRecDepth 100000 in
set_option maxHeartbeats 8000000 in
theorem at_holds : CAt := by
  intro c sa sc sz da dc dz ba bc bs w h1 h2 h3 hs hd hb
  unfold pkS7 pkD7
  have HI : Hid (IsInts w.heap.size w sa sz ∧ IsInts w.heap.size w da dz ∧ IsAs w.heap.size w ba bs) := ⟨hs, hd, hb⟩
  clear hs hd hb
  have HB0 : Hid (Below w.heap.size w ((w.alloc (.cells #[.bool c, .slice sa sz.length sc, .slice da dz.length dc] 24)).alloc (.cells #[.bool false, .slice none 0 0, .slice none 0 0] 24))) := ((Below.refl _ w).alloc (Nat.le_refl _) _).alloc (by simp) _
  have pa := (Abx.new w (.bool c) (.slice sa sz.length sc) (.slice da dz.length dc)).al (.cells #[.bool false, .slice none 0 0, .slice none 0 0] 24)
  have pr := Abx.new1 w (.cells #[.bool c, .slice sa sz.length sc, .slice da dz.length dc] 24) (.bool false) (.slice none 0 0) (.slice none 0 0)
  have p0 := pa.c0
  have p1 := pa.c1
  have p2 := pa.c2
  have hp := chkall_any c sa sc sz da dc dz ba bc bs h1 h2 h3 ((w.alloc (.cells #[.bool c, .slice sa sz.length sc, .slice da dz.length dc] 24)).alloc (.cells #[.bool false, .slice none 0 0, .slice none 0 0] 24)) ((HI.out.1.below HB0.out).mono HB0.out.size) ((HI.out.2.1.below HB0.out).mono HB0.out.size) ((HI.out.2.2.below HB0.out).mono HB0.out.size)
  by_cases ha : alE c sz dz (bya bs) = 0
  · have HF : Hid (flawE c sz dz = 0 ∧ flL (bya bs) = 0) := alE_zero ha
    have HPE : Hid (pkE c sz dz (bya bs) = nmE sz (bya bs)) := pkE_nm ha
    have er0 : errV 0 = .nilIface := rfl
    rw [ha, er0] at hp
    clear ha er0
    go_enter Try.func21, Try.ntmps21
    go_wp2_with fail
    refine hp.mono ?_
    clear hp
    rintro e v1 ⟨rfl, hC⟩
    have HB1 : Hid (Below w.heap.size w v1) := HB0.out.trans (hC.mono HB0.out.size)
    have HP : Hid (Abx v1 w.heap.size (.bool c) (.slice sa sz.length sc) (.slice da dz.length dc)) := pa.go hC
    have HR : Hid (Abx v1 (w.heap.size + 1) (.bool false) (.slice none 0 0) (.slice none 0 0)) := pr.go hC
    have hR1 : w.heap.size + 1 < v1.heap.size := HR.out.lt
    clear hC pa pr p0 p1 p2 HB0
    have a1 := HP.out.c1
    go_wp2_with fail
    refine (picked_new sa sc sz ba bc bs (flawE_zero HF.out.1).1 h3 HF.out.2 v1 ((HI.out.1.below HB1.out).mono HB1.out.size) ((HI.out.2.2.below HB1.out).mono HB1.out.size)).mono ?_
    rintro e v2 ⟨g, gc, ga, gd, rfl, hS, hPl, hB⟩
    have HB2 : Hid (Below w.heap.size w v2) := HB1.out.trans (hB.mono HB1.out.size)
    have HP2 : Hid (Abx v2 w.heap.size (.bool c) (.slice sa sz.length sc) (.slice da dz.length dc)) := HP.out.go hB
    have HR2 : Hid (Abx v2 (w.heap.size + 1) (.bool false) (.slice none 0 0) (.slice none 0 0)) := HR.out.go hB
    have hR2 : w.heap.size + 1 < v2.heap.size := HR2.out.lt
    have hv12 : v1.heap.size ≤ v2.heap.size := hB.size
    clear hB a1 HP HR
    by_cases hn : nmE sz (bya bs) = 0
    · rw [onl_ok hn] at hS hPl
      rw [onl_ok hn, onl_ok hn, hn]
      have er0 : errV 0 = .nilIface := rfl
      rw [er0]
      have HE : Hid (pkE c sz dz (bya bs) = 0) := by show _ = _; rw [HPE.out, hn]
      obtain ⟨S, hS0⟩ : ∃ S, S = pkS (bya bs) := ⟨_, rfl⟩
      obtain ⟨P, hP0⟩ : ∃ P, P = plL sz (bya bs) := ⟨_, rfl⟩
      obtain ⟨D, hD0⟩ : ∃ D, D = pkD sz dz (bya bs) := ⟨_, rfl⟩
      rw [← hS0, ← hP0]
      rw [← hS0] at hS
      rw [← hP0] at hPl
      have HS : Hid (S = pkS (bya bs) ∧ D = pkD sz dz (bya bs)) := ⟨hS0, hD0⟩
      obtain ⟨q, hq⟩ : ∃ q, q = P.length := ⟨_, rfl⟩
      have HL : Hid (P.length = q ∧ D.length = q ∧ (prod (pkS (bya bs))).toNat = q) := ⟨hq.symm, by rw [hq, hD0, hP0]; unfold pkD; rw [TA_length, plL_length], by rw [hq, hP0, plL_length]⟩
      have hSl : S.length ≤ 6 ∧ q ≤ 4096 := by have := pk_len HE.out; rw [← hD0, HL.out.2.1, ← hS0] at this; exact this
      have hdz4 : dz.length ≤ 4096 := (flawE_short HF.out.1).2
      have HPb : Hid (∀ k, k < q → 0 ≤ nth P k ∧ nth P k < dz.length ∧ nth D k = nth dz (nth P k).toNat) := fun k hk => by
        have hk' : k < (prod (pkS (bya bs))).toNat := by rw [HL.out.2.2]; exact hk
        have hb := pkP_bd HE.out hk'
        rw [hP0, plL_nth _ _ hk', hD0, pkD_nth hk']
        exact ⟨hb.1, by rw [(flawE_zero HF.out.1).2.1]; exact hb.2, rfl⟩
      rw [← hq]
      have HSP : Hid (NewC v1.heap.size v2 g S gc ∧ NewC v1.heap.size v2 ga P gd) := ⟨hS, hPl⟩
      clear hn hS hPl hS0 hP0 hD0 hq er0
      obtain ⟨hSl, hq4⟩ := hSl
      have hmk := run_make_row' (P := Try.prog) 22 3 (.int .i64 0) 8 Try.underlying22 Try.infoInt rfl .i64 .i64 q (by omega) (by omega)
      go_wp2_with fail
      clear hmk
      go_loopw [37] (fun i wr => ∃ k : Nat, k ≤ q ∧ i = .int .i64 k ∧ wr.rowIs v2.heap.size 3 q (upTo (nth D) k) ∧ Below v2.heap.size v2 wr) (fun i _ => q - (intOf i).toNat)
      case atStart =>
        exact ⟨0, Nat.zero_le _, rfl, (World.rowIs_made v2 (.int .i64 0) q 3).congr (fun j _ => by simp [upTo]), (Below.refl _ v2).alloc (Nat.le_refl _) _⟩
      case round =>
        obtain ⟨k, hk, rfl, hrow, hBu⟩ := hrel
        have hA := HP2.out.go hBu
        have hB : Below w.heap.size w wr := HB2.out.trans (hBu.mono HB2.out.size)
        by_cases hlt : k < q
        · obtain ⟨hL1, hL2, hL3⟩ := HPb.out k hlt
          obtain ⟨L, hL⟩ : ∃ L : Nat, nth P k = L := ⟨(nth P k).toNat, by omega⟩
          rw [hL, Int.toNat_natCast] at hL3
          have hLd : L < dz.length := by omega
          have hkP : k < P.length := by rw [HL.out.1]; exact hlt
          obtain ⟨bp, op, rfl, hbp, hcP⟩ := (HSP.out.2.go hBu).ints.1.at hkP
          have cp := hcP k hkP
          rw [hL] at cp
          obtain ⟨bd, od, rfl, hbd, hcD⟩ := (HI.out.2.1.below hB).at hLd
          have cd := hcD L hLd
          have HV : Hid (nth dz L = nth D k) := hL3.symm
          have a2 := hA.c2
          have c2 := hrow.cell hlt
          have f2 := hrow.frozen k
          have HQ : Hid (wr.rowIs v2.heap.size 3 q (upTo (nth D) k) ∧ Below v2.heap.size v2 wr) := ⟨hrow, hBu⟩
          clear hrow hA hBu hB hcP hcD hL1 hL2 hL3 hL
          go_wp2_with fail
          refine ⟨⟨k + 1, by omega, by go_num, upTo_set HQ.out.1 _ HV.out, HQ.out.2.setCell (p := ⟨v2.heap.size, k, none⟩) (Nat.le_refl _) _⟩, by simp [intOf]; omega⟩
        · obtain rfl : k = q := by omega
          have HY : Hid (NewInts v2.heap.size wr (some ⟨v2.heap.size, 0, none⟩) D) := upTo_new hrow (Nat.le_refl _) D HL.out.2.1 (fun j hj => rfl)
          have HR3 : Hid (Abx wr (w.heap.size + 1) (.bool false) (.slice none 0 0) (.slice none 0 0)) := HR2.out.go hBu
          have HX3 : Hid (NewC v1.heap.size wr g S gc) := HSP.out.1.go hBu
          have HB3 : Hid (Below w.heap.size w wr) := hB
          have e0 := hA.c0
          have r0 := HR3.out.c0
          have r1 := HR3.out.c1
          have r2 := HR3.out.c2
          have f0 := HR3.out.fr 0
          have f1 := HR3.out.fr 1
          have f2 := HR3.out.fr 2
          clear hrow hA hB hBu hlt hk
          go_wp2_with fail
          have F := HR3.out.set3 (.bool c) (.slice g S.length gc) (.slice (some ⟨v2.heap.size, 0, none⟩) k k)
          have q0 := F.c0
          have q1 := F.c1
          have q2 := F.c2
          refine bodyPost_ret (v := .tuple #[.agg #[.bool c, .slice g S.length gc, .slice (some ⟨v2.heap.size, 0, none⟩) k k], .nilIface]) (by simp [results, Try.results21, go_sem, q0, q1, q2]) rfl ?_
          have hX := (HX3.out.set3 (b := w.heap.size + 1) (by omega) (.bool c) (.slice g S.length gc) (.slice (some ⟨v2.heap.size, 0, none⟩) k k)).low (lo' := w.heap.size) (by omega)
          have hY := (HY.out.set3 (b := w.heap.size + 1) (by omega) (.bool c) (.slice g S.length gc) (.slice (some ⟨v2.heap.size, 0, none⟩) k k)).low (lo' := w.heap.size) (by omega)
          have hZ := bel_set3 HB3.out (b := w.heap.size + 1) (by omega) (.bool c) (.slice g S.length gc) (.slice (some ⟨v2.heap.size, 0, none⟩) k k)
          have hUB := ub_ok (c := c) (xc := gc) (yc := k) HE.out hX ⟨hY, by rw [HL.out.2.1]; exact Nat.le_refl _⟩ hZ
          rw [HL.out.2.1] at hUB
          rw [← HS.out.1, ← HS.out.2]
          exact hUB
    · have HE : Hid (pkE c sz dz (bya bs) = nmE sz (bya bs)) := HPE.out
      have HA : Hid (nmE sz (bya bs) ≠ 0) := hn
      rw [onl_no hn, onl_no hn, errV_pos hn]
      clear hn hS hPl
      have r0 := HR2.out.c0
      have r1 := HR2.out.c1
      have r2 := HR2.out.c2
      have f0 := HR2.out.fr 0
      have f1 := HR2.out.fr 1
      have f2 := HR2.out.fr 2
      go_wp2_with fail
      have F := HR2.out.set3 (.bool false) (.slice none 0 0) (.slice none 0 0)
      have q0 := F.c0
      have q1 := F.c1
      have q2 := F.c2
      exact bodyPost_ret (v := .tuple #[.agg #[.bool false, .slice none 0 0, .slice none 0 0], .iface 57 (.int .i64 (nmE sz (bya bs)))]) (by simp [results, Try.results21, go_sem, q0, q1, q2]) rfl (ub_no HE.out HA.out (bel_set3 HB2.out (by omega) _ _ _))
  · have HE : Hid (pkE c sz dz (bya bs) = alE c sz dz (bya bs)) := pkE_al ha
    have HA : Hid (alE c sz dz (bya bs) ≠ 0) := ha
    rw [errV_pos ha] at hp
    clear ha
    go_enter Try.func21, Try.ntmps21
    go_wp2_with fail
    refine hp.mono ?_
    clear hp
    rintro e v1 ⟨rfl, hC⟩
    have HB1 : Hid (Below w.heap.size w v1) := HB0.out.trans (hC.mono HB0.out.size)
    have HR : Hid (Abx v1 (w.heap.size + 1) (.bool false) (.slice none 0 0) (.slice none 0 0)) := pr.go hC
    clear hC pa pr p0 p1 p2 HB0
    have r0 := HR.out.c0
    have r1 := HR.out.c1
    have r2 := HR.out.c2
    have f0 := HR.out.fr 0
    have f1 := HR.out.fr 1
    have f2 := HR.out.fr 2
    go_wp2_with fail
    have F := HR.out.set3 (.bool false) (.slice none 0 0) (.slice none 0 0)
    have q0 := F.c0
    have q1 := F.c1
    have q2 := F.c2
    exact bodyPost_ret (v := .tuple #[.agg #[.bool false, .slice none 0 0, .slice none 0 0], .iface 57 (.int .i64 (alE c sz dz (bya bs)))]) (by simp [results, Try.results21, go_sem, q0, q1, q2]) rfl (ub_no HE.out HA.out (bel_set3 HB1.out (by omega) _ _ _))
end Go.Proofs.Yteddkfeiikdekaa
