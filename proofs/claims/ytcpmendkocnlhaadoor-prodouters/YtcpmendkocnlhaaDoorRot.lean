/-
  What the reference tells of Outered.
-/
import Derived.Deep.QuietTactic
import Derived.BigQuiet
import Derived.Test.YtcpmendkocnlhaaDoorRlc
import Derived.Test.YtcpmendkocnlhaaDoorRfd
import Derived.Test.YtcpmendkocnlhaaDoorFlaws
import Derived.Test.YtcpmendkocnlhaaDoorPrdq
import Derived.Test.YtcpmendkocnlhaaDoorPrdp
import Derived.Test.YtcpmendkocnlhaaDoorHold
import Derived.Test.YtcpmendkocnlhaaDoorPair
namespace Go.Proofs.YtcpmendkocnlhaaDoor
open Go.RowKit
set_option linter.unusedVariables false

set_option maxRecDepth 100000 in
set_option maxHeartbeats 8000000 in
theorem outered_f (f : Int) (c c' : Bool) (sa : Option Addr) (sc : Nat) (sz : List Int) (da : Option Addr) (dc : Nat) (dz : List Int) (sa' : Option Addr) (sc' : Nat) (sz' : List Int) (da' : Option Addr) (dc' : Nat) (dz' : List Int) (h1 : sz.length ≤ 9223372036854775807) (h2 : dz.length ≤ 9223372036854775807) (h1' : sz'.length ≤ 9223372036854775807) (h2' : dz'.length ≤ 9223372036854775807) (w : World) (hs : IsInts w.heap.size w sa sz) (hd : IsInts w.heap.size w da dz) (hs' : IsInts w.heap.size w sa' sz') (hd' : IsInts w.heap.size w da' dz') (T : ∀ j, In64 (nth dz j)) (T' : ∀ j, In64 (nth dz' j)) (hf : f < 1 ∨ 16 < f) :
    Calls Tryd.prog 5 #[.int .i64 f, .agg #[.bool c, .slice sa sz.length sc, .slice da dz.length dc], .agg #[.bool c', .slice sa' sz'.length sc', .slice da' dz'.length dc']] w (UR (otE f c sz dz c' sz' dz') false (otS13 f c sz dz c' sz' dz') (otD13 f c sz dz c' sz' dz') w) := by
  unfold otS13 otD13
  have HI : Hid ((IsInts w.heap.size w sa sz ∧ IsInts w.heap.size w da dz) ∧ (IsInts w.heap.size w sa' sz' ∧ IsInts w.heap.size w da' dz')) := ⟨⟨hs, hd⟩, hs', hd'⟩
  have HT : Hid ((∀ j, In64 (nth dz j)) ∧ ∀ j, In64 (nth dz' j)) := ⟨T, T'⟩
  have pa := ((Abx.new w (.bool c) (.slice sa sz.length sc) (.slice da dz.length dc)).al (.cells #[.bool c', .slice sa' sz'.length sc', .slice da' dz'.length dc'] 25)).al (.cells #[.bool false, .slice none 0 0, .slice none 0 0] 25)
  have qa := (Abx.new1 w (.cells #[.bool c, .slice sa sz.length sc, .slice da dz.length dc] 25) (.bool c') (.slice sa' sz'.length sc') (.slice da' dz'.length dc')).al (.cells #[.bool false, .slice none 0 0, .slice none 0 0] 25)
  have ra := Abx.new1 (w.alloc (.cells #[.bool c, .slice sa sz.length sc, .slice da dz.length dc] 25)) (.cells #[.bool c', .slice sa' sz'.length sc', .slice da' dz'.length dc'] 25) (.bool false) (.slice none 0 0) (.slice none 0 0)
  rw [World.size_alloc] at ra
  have HBL : Hid (Below w.heap.size w (((w.alloc (.cells #[.bool c, .slice sa sz.length sc, .slice da dz.length dc] 25)).alloc (.cells #[.bool c', .slice sa' sz'.length sc', .slice da' dz'.length dc'] 25)).alloc (.cells #[.bool false, .slice none 0 0, .slice none 0 0] 25))) := (((Below.refl _ w).alloc (Nat.le_refl _) _).alloc (by simp) _).alloc (by simp; omega) _
  clear hs hd hs' hd' T T' pa qa
  have HE : Hid (otE f c sz dz c' sz' dz' = 1) := by show _ = _; unfold otE; rw [if_pos hf]
  by_cases hf1 : f < 1
  · clear hf
    go_enter Tryd.func5, Tryd.ntmps5
    go_wp2_with fail
    exact bodyPost_ret (v := .tuple #[.agg #[.bool false, .slice none 0 0, .slice none 0 0], .int .i64 1]) (by simp [results, Tryd.results5, go_sem]) rfl (ur12_no HE.out (by decide) HBL.out)
  · have hf2 : 16 < f := by omega
    clear hf
    go_enter Tryd.func5, Tryd.ntmps5
    go_wp2_with fail
    exact bodyPost_ret (v := .tuple #[.agg #[.bool false, .slice none 0 0, .slice none 0 0], .int .i64 1]) (by simp [results, Tryd.results5, go_sem]) rfl (ur12_no HE.out (by decide) HBL.out)
set_option maxRecDepth 100000 in
set_option maxHeartbeats 8000000 in
theorem outered_w (f : Int) (c c' : Bool) (sa : Option Addr) (sc : Nat) (sz : List Int) (da : Option Addr) (dc : Nat) (dz : List Int) (sa' : Option Addr) (sc' : Nat) (sz' : List Int) (da' : Option Addr) (dc' : Nat) (dz' : List Int) (h1 : sz.length ≤ 9223372036854775807) (h2 : dz.length ≤ 9223372036854775807) (h1' : sz'.length ≤ 9223372036854775807) (h2' : dz'.length ≤ 9223372036854775807) (w : World) (hs : IsInts w.heap.size w sa sz) (hd : IsInts w.heap.size w da dz) (hs' : IsInts w.heap.size w sa' sz') (hd' : IsInts w.heap.size w da' dz') (T : ∀ j, In64 (nth dz j)) (T' : ∀ j, In64 (nth dz' j)) (hf : ¬ (f < 1 ∨ 16 < f)) (hw0 : flawsE c sz dz c' sz' dz' ≠ 0) :
    Calls Tryd.prog 5 #[.int .i64 f, .agg #[.bool c, .slice sa sz.length sc, .slice da dz.length dc], .agg #[.bool c', .slice sa' sz'.length sc', .slice da' dz'.length dc']] w (UR (otE f c sz dz c' sz' dz') false (otS13 f c sz dz c' sz' dz') (otD13 f c sz dz c' sz' dz') w) := by
  unfold otS13 otD13
  have hlo : ¬ f < 1 := by omega
  have hhi : ¬ 16 < f := by omega
  have HE : Hid (otE f c sz dz c' sz' dz' = flawsE c sz dz c' sz' dz') := by show _ = _; unfold otE; rw [if_neg hf, if_pos hw0]
  clear hf
  have HI : Hid ((IsInts w.heap.size w sa sz ∧ IsInts w.heap.size w da dz) ∧ (IsInts w.heap.size w sa' sz' ∧ IsInts w.heap.size w da' dz')) := ⟨⟨hs, hd⟩, hs', hd'⟩
  have HT : Hid ((∀ j, In64 (nth dz j)) ∧ ∀ j, In64 (nth dz' j)) := ⟨T, T'⟩
  have pa := ((Abx.new w (.bool c) (.slice sa sz.length sc) (.slice da dz.length dc)).al (.cells #[.bool c', .slice sa' sz'.length sc', .slice da' dz'.length dc'] 25)).al (.cells #[.bool false, .slice none 0 0, .slice none 0 0] 25)
  have qa := (Abx.new1 w (.cells #[.bool c, .slice sa sz.length sc, .slice da dz.length dc] 25) (.bool c') (.slice sa' sz'.length sc') (.slice da' dz'.length dc')).al (.cells #[.bool false, .slice none 0 0, .slice none 0 0] 25)
  have ra := Abx.new1 (w.alloc (.cells #[.bool c, .slice sa sz.length sc, .slice da dz.length dc] 25)) (.cells #[.bool c', .slice sa' sz'.length sc', .slice da' dz'.length dc'] 25) (.bool false) (.slice none 0 0) (.slice none 0 0)
  rw [World.size_alloc] at ra
  have p0 := pa.c0
  have p1 := pa.c1
  have p2 := pa.c2
  have q0 := qa.c0
  have q1 := qa.c1
  have q2 := qa.c2
  obtain ⟨V0, hV0⟩ : ∃ V0, V0 = ((w.alloc (.cells #[.bool c, .slice sa sz.length sc, .slice da dz.length dc] 25)).alloc (.cells #[.bool c', .slice sa' sz'.length sc', .slice da' dz'.length dc'] 25)).alloc (.cells #[.bool false, .slice none 0 0, .slice none 0 0] 25) := ⟨_, rfl⟩
  have HB0 : Hid (Below w.heap.size w V0) := by rw [hV0]; exact (((Below.refl _ w).alloc (Nat.le_refl _) _).alloc (by simp) _).alloc (by simp; omega) _
  have Pa0 : Hid (Abx V0 w.heap.size (.bool c) (.slice sa sz.length sc) (.slice da dz.length dc)) := by rw [hV0]; exact pa
  have Qb0 : Hid (Abx V0 (w.heap.size + 1) (.bool c') (.slice sa' sz'.length sc') (.slice da' dz'.length dc')) := by rw [hV0]; exact qa
  have Rr0 : Hid (Abx V0 (w.heap.size + 1 + 1) (.bool false) (.slice none 0 0) (.slice none 0 0)) := by rw [hV0]; exact ra
  have HW : Hid (V0 = _) := hV0
  have hC := flaws_any c c' sa sc sz da dc dz sa' sc' sz' da' dc' dz' h1 h2 h1' h2' V0 ((HI.out.1.1.below HB0.out).mono HB0.out.size) ((HI.out.1.2.below HB0.out).mono HB0.out.size) ((HI.out.2.1.below HB0.out).mono HB0.out.size) ((HI.out.2.2.below HB0.out).mono HB0.out.size)
  clear hs hd hs' hd' T T' hV0 pa qa ra
  go_enter Tryd.func5, Tryd.ntmps5
  go_wp2_with fail
  rw [← HW.out]
  refine hC.mono ?_
  rintro e w1 ⟨rfl, hb⟩
  have HB1 : Hid (Below w.heap.size w w1) := HB0.out.trans (hb.mono HB0.out.size)
  have Pa1 : Hid (Abx w1 w.heap.size (.bool c) (.slice sa sz.length sc) (.slice da dz.length dc)) := Pa0.out.go hb
  have Qb1 : Hid (Abx w1 (w.heap.size + 1) (.bool c') (.slice sa' sz'.length sc') (.slice da' dz'.length dc')) := Qb0.out.go hb
  have Rr1 : Hid (Abx w1 (w.heap.size + 1 + 1) (.bool false) (.slice none 0 0) (.slice none 0 0)) := Rr0.out.go hb
  clear hb hC p0 p1 p2 q0 q1 q2 HW
  obtain ⟨E, hE⟩ : ∃ E, E = flawsE c sz dz c' sz' dz' := ⟨_, rfl⟩
  rw [← hE] at HE hw0 ⊢
  have t0 : (E != 0) = true := by simp [hw0]
  have HN0 : Hid (E ≠ 0) := hw0
  clear hE hw0
  have r0 := Rr1.out.c0
  have r1 := Rr1.out.c1
  have r2 := Rr1.out.c2
  have f0 := Rr1.out.fr 0
  have f1 := Rr1.out.fr 1
  have f2 := Rr1.out.fr 2
  go_wp2_with fail
  have FF := Rr1.out.set3 (.bool false) (.slice none 0 0) (.slice none 0 0)
  have z0 := FF.c0
  have z1 := FF.c1
  have z2 := FF.c2
  exact bodyPost_ret (v := .tuple #[.agg #[.bool false, .slice none 0 0, .slice none 0 0], .int .i64 E]) (by simp [results, Tryd.results5, go_sem, z0, z1, z2]) rfl (ur12_no HE.out HN0.out (bel_set3 HB1.out (by omega) _ _ _))
set_option maxRecDepth 100000 in
set_option maxHeartbeats 8000000 in
theorem outered_t (f : Int) (c' : Bool) (sa : Option Addr) (sc : Nat) (sz : List Int) (da : Option Addr) (dc : Nat) (dz : List Int) (sa' : Option Addr) (sc' : Nat) (sz' : List Int) (da' : Option Addr) (dc' : Nat) (dz' : List Int) (h1 : sz.length ≤ 9223372036854775807) (h2 : dz.length ≤ 9223372036854775807) (h1' : sz'.length ≤ 9223372036854775807) (h2' : dz'.length ≤ 9223372036854775807) (w : World) (hs : IsInts w.heap.size w sa sz) (hd : IsInts w.heap.size w da dz) (hs' : IsInts w.heap.size w sa' sz') (hd' : IsInts w.heap.size w da' dz') (T : ∀ j, In64 (nth dz j)) (T' : ∀ j, In64 (nth dz' j)) (hf : ¬ (f < 1 ∨ 16 < f)) (hw0 : flawsE true sz dz c' sz' dz' = 0) :
    Calls Tryd.prog 5 #[.int .i64 f, .agg #[.bool true, .slice sa sz.length sc, .slice da dz.length dc], .agg #[.bool c', .slice sa' sz'.length sc', .slice da' dz'.length dc']] w (UR (otE f true sz dz c' sz' dz') false (otS13 f true sz dz c' sz' dz') (otD13 f true sz dz c' sz' dz') w) := by
  unfold otS13 otD13
  have hlo : ¬ f < 1 := by omega
  have hhi : ¬ 16 < f := by omega
  obtain ⟨hfa, hfb⟩ := flawsE_zero.1 hw0
  have HF : Hid (¬ (f < 1 ∨ 16 < f) ∧ flawsE true sz dz c' sz' dz' = 0 ∧ flawE true sz dz = 0 ∧ flawE c' sz' dz' = 0) := ⟨hf, hw0, hfa, hfb⟩
  have hl6 := (errOf_zero.1 (flawE_zero hfa).1).1
  have hl6' := (errOf_zero.1 (flawE_zero hfb).1).1
  clear hf hw0 hfa hfb
  have HI : Hid ((IsInts w.heap.size w sa sz ∧ IsInts w.heap.size w da dz) ∧ (IsInts w.heap.size w sa' sz' ∧ IsInts w.heap.size w da' dz')) := ⟨⟨hs, hd⟩, hs', hd'⟩
  have HT : Hid ((∀ j, In64 (nth dz j)) ∧ ∀ j, In64 (nth dz' j)) := ⟨T, T'⟩
  have pa := ((Abx.new w (.bool true) (.slice sa sz.length sc) (.slice da dz.length dc)).al (.cells #[.bool c', .slice sa' sz'.length sc', .slice da' dz'.length dc'] 25)).al (.cells #[.bool false, .slice none 0 0, .slice none 0 0] 25)
  have qa := (Abx.new1 w (.cells #[.bool true, .slice sa sz.length sc, .slice da dz.length dc] 25) (.bool c') (.slice sa' sz'.length sc') (.slice da' dz'.length dc')).al (.cells #[.bool false, .slice none 0 0, .slice none 0 0] 25)
  have ra := Abx.new1 (w.alloc (.cells #[.bool true, .slice sa sz.length sc, .slice da dz.length dc] 25)) (.cells #[.bool c', .slice sa' sz'.length sc', .slice da' dz'.length dc'] 25) (.bool false) (.slice none 0 0) (.slice none 0 0)
  rw [World.size_alloc] at ra
  have p0 := pa.c0
  have p1 := pa.c1
  have p2 := pa.c2
  have q0 := qa.c0
  have q1 := qa.c1
  have q2 := qa.c2
  obtain ⟨V0, hV0⟩ : ∃ V0, V0 = ((w.alloc (.cells #[.bool true, .slice sa sz.length sc, .slice da dz.length dc] 25)).alloc (.cells #[.bool c', .slice sa' sz'.length sc', .slice da' dz'.length dc'] 25)).alloc (.cells #[.bool false, .slice none 0 0, .slice none 0 0] 25) := ⟨_, rfl⟩
  have HB0 : Hid (Below w.heap.size w V0) := by rw [hV0]; exact (((Below.refl _ w).alloc (Nat.le_refl _) _).alloc (by simp) _).alloc (by simp; omega) _
  have Pa0 : Hid (Abx V0 w.heap.size (.bool true) (.slice sa sz.length sc) (.slice da dz.length dc)) := by rw [hV0]; exact pa
  have Qb0 : Hid (Abx V0 (w.heap.size + 1) (.bool c') (.slice sa' sz'.length sc') (.slice da' dz'.length dc')) := by rw [hV0]; exact qa
  have Rr0 : Hid (Abx V0 (w.heap.size + 1 + 1) (.bool false) (.slice none 0 0) (.slice none 0 0)) := by rw [hV0]; exact ra
  have HW : Hid (V0 = _) := hV0
  have hC := flaws_any true c' sa sc sz da dc dz sa' sc' sz' da' dc' dz' h1 h2 h1' h2' V0 ((HI.out.1.1.below HB0.out).mono HB0.out.size) ((HI.out.1.2.below HB0.out).mono HB0.out.size) ((HI.out.2.1.below HB0.out).mono HB0.out.size) ((HI.out.2.2.below HB0.out).mono HB0.out.size)
  clear hs hd hs' hd' T T' hV0 pa qa ra
  go_enter Tryd.func5, Tryd.ntmps5
  go_wp2_with fail
  rw [← HW.out]
  refine hC.mono ?_
  rintro e w1 ⟨rfl, hb⟩
  have HB1 : Hid (Below w.heap.size w w1) := HB0.out.trans (hb.mono HB0.out.size)
  have Pa1 : Hid (Abx w1 w.heap.size (.bool true) (.slice sa sz.length sc) (.slice da dz.length dc)) := Pa0.out.go hb
  have Qb1 : Hid (Abx w1 (w.heap.size + 1) (.bool c') (.slice sa' sz'.length sc') (.slice da' dz'.length dc')) := Qb0.out.go hb
  have Rr1 : Hid (Abx w1 (w.heap.size + 1 + 1) (.bool false) (.slice none 0 0) (.slice none 0 0)) := Rr0.out.go hb
  clear hb hC p0 p1 p2 q0 q1 q2 HW
  rw [HF.out.2.1]
  have p0 := Pa1.out.c0
  have p1 := Pa1.out.c1
  have p2 := Pa1.out.c2
  have q0 := Qb1.out.c0
  have q1 := Qb1.out.c1
  have q2 := Qb1.out.c2
  have hjo := joined_r sa sc sz sz.length rfl sa' sc' sz' sz'.length rfl (by omega) w1 ((HI.out.1.1.below HB1.out).mono HB1.out.size) ((HI.out.2.1.below HB1.out).mono HB1.out.size)
  go_wp2_with fail
  clear p0 p1 p2 q0 q1 q2
  refine hjo.mono ?_
  rintro e w2 ⟨g, gc, rfl, hN, hb⟩
  clear hjo
  have HB2 : Hid (Below w.heap.size w w2) := HB1.out.trans (hb.mono HB1.out.size)
  have Pa2 : Hid (Abx w2 w.heap.size (.bool true) (.slice sa sz.length sc) (.slice da dz.length dc)) := Pa1.out.go hb
  have Qb2 : Hid (Abx w2 (w.heap.size + 1) (.bool c') (.slice sa' sz'.length sc') (.slice da' dz'.length dc')) := Qb1.out.go hb
  have Rr2 : Hid (Abx w2 (w.heap.size + 1 + 1) (.bool false) (.slice none 0 0) (.slice none 0 0)) := Rr1.out.go hb
  obtain ⟨S, hS⟩ : ∃ S, S = sz ++ sz' := ⟨_, rfl⟩
  obtain ⟨n, hn⟩ : ∃ n, n = sz.length + sz'.length := ⟨_, rfl⟩
  have HS : Hid (S = sz ++ sz' ∧ S.length = n ∧ n = sz.length + sz'.length) := ⟨hS, by rw [hS, hn, List.length_append], hn⟩
  have hn12 : n ≤ 12 := by omega
  have hln : sz.length ≤ n := by omega
  have hlI : (sz.length : Int) ≤ (n : Int) := by omega
  rw [← hn]
  rw [← hS] at hN
  have HM : Hid (MidC w1.heap.size w2.heap.size w2 g S gc) := hN.midc
  have hfault := fault_l g gc S n HS.out.2.1 (by omega) w2.heap.size w2 hN.ints.1
  have hz12 := hb.size
  clear hb hS hn hN
  go_wp2_with fail
  refine hfault.mono ?_
  rintro e w3 ⟨rfl, hw3⟩
  obtain rfl := hw3.symm
  clear hfault hw3
  by_cases he : errOf S = 0
  · obtain ⟨N, hN⟩ : ∃ N, N = (prod S).toNat := ⟨_, rfl⟩
    have hz := errOf_zero.1 he
    have h0N := prod_nonneg hz.2.1
    have HN : Hid ((N : Int) = prod S ∧ errOf S = 0 ∧ N = (prod S).toNat) := ⟨by omega, he, hN⟩
    have hN4 : N ≤ 4096 := by omega
    rw [he]
    clear he hN hz h0N
    have p0 := Pa2.out.c0
    have p1 := Pa2.out.c1
    have p2 := Pa2.out.c2
    have q0 := Qb2.out.c0
    have q1 := Qb2.out.c1
    have q2 := Qb2.out.c2
    by_cases hk : f = 8 ∨ f = 9
    · have hkd : decide (f = 8 ∨ f = 9) = true := by simp [hk]
      clear hk
      go_wp2_with fail
      refine (compares_any f w2).mono ?_
      rintro e w3 ⟨rfl, hw3⟩
      obtain rfl := hw3.symm
      clear hw3
      rw [hkd]
      have hk2 : f = 8 ∨ f = 9 := of_decide_eq_true hkd
      have HK : Hid (f = 8 ∨ f = 9) := hk2
      clear hk2
      clear hkd
      clear p0 p1 p2 q0 q1 q2
      obtain ⟨D, hD⟩ : ∃ D, D = otD f true sz dz c' sz' dz' := ⟨_, rfl⟩
      have HD : Hid (D = otD f true sz dz c' sz' dz' ∧ D.length = N ∧ ∀ k, k < N → nth D k = otC f true sz dz c' sz' dz' (cr S k)) := ⟨hD, by rw [hD]; unfold otD; rw [← HS.out.1, TA_length]; exact HN.out.2.2.symm, fun k hk => by rw [hD]; unfold otD; rw [← HS.out.1, TA_nth (by rw [← HN.out.2.2]; exact hk)]⟩
      obtain ⟨B, hBB⟩ : ∃ B, B = w2.heap.size := ⟨_, rfl⟩
      obtain ⟨u, hu⟩ : ∃ u, u = w2.alloc (.cells #[.bool false, .slice g n gc, .slice none 0 0] 25) := ⟨_, rfl⟩
      have hus : u.heap.size = w2.heap.size + 1 := by rw [hu]; simp
      have HU : Hid (w2.alloc (.cells #[.bool false, .slice g n gc, .slice none 0 0] 25) = u ∧ w2.heap.size = B) := ⟨hu.symm, hBB.symm⟩
      have HUA : Hid (Abx u w.heap.size (.bool true) (.slice sa sz.length sc) (.slice da dz.length dc) ∧ Abx u (w.heap.size + 1) (.bool c') (.slice sa' sz'.length sc') (.slice da' dz'.length dc') ∧ Abx u (w.heap.size + 1 + 1) (.bool false) (.slice none 0 0) (.slice none 0 0) ∧ Abx u B (.bool false) (.slice g n gc) (.slice none 0 0) ∧ MidC w1.heap.size B u g S gc ∧ Below w.heap.size w u) := by
        rw [hu, hBB]
        exact ⟨Pa2.out.al _, Qb2.out.al _, Rr2.out.al _, Abx.new _ _ _ _, HM.out.al (Nat.le_refl _) _, HB2.out.alloc HB2.out.size _⟩
      have hBu : B < u.heap.size := by omega
      have hvB : w1.heap.size ≤ B := by omega
      have hw1 : w.heap.size + 1 + 1 < w1.heap.size := Rr1.out.lt
      have hcells := cells_l g gc S n N HS.out.2.1 HN.out.1.symm (by omega) HN.out.2.1 u.heap.size u (HUA.out.2.2.2.2.1.is (by omega)).1
      clear hD hBB hu hus hz12 Pa2 Qb2 Rr2 HB2 HM Pa1 Qb1 Rr1 HB1 Pa0 Qb0 Rr0 HB0
      go_wp2_with fail
      rw [HU.out.1]
      refine hcells.mono ?_
      rintro e v7 ⟨rfl, hv7⟩
      obtain rfl := hv7.symm
      clear hcells hv7
      go_wp2_with fail
      rw [HU.out.2]
      go_loopw [12] (fun i wq => ∃ (q : Nat) (v : Value), q ≤ N ∧ i = .int .i64 q ∧ (∀ i, i < q → otX f true sz dz c' sz' dz' (cr S i) = 0) ∧ (Abx wq w.heap.size (.bool true) (.slice sa sz.length sc) (.slice da dz.length dc) ∧ Abx wq (w.heap.size + 1) (.bool c') (.slice sa' sz'.length sc') (.slice da' dz'.length dc') ∧ Abx wq (w.heap.size + 1 + 1) (.bool false) (.slice none 0 0) (.slice none 0 0) ∧ Abx wq B (.bool false) (.slice g n gc) v ∧ MidC w1.heap.size B wq g S gc ∧ wq.ownsRow u.heap.size 3 1 v (D.take q).length ((D.take q).map (Value.int .i64)) ∧ u.heap.size ≤ wq.heap.size ∧ Below w.heap.size w wq)) (fun i _ => N - (intOf i).toNat)
      case atStart => exact ⟨0, .slice none 0 0, Nat.zero_le _, rfl, fun i hi => absurd hi (Nat.not_lt_zero _), HUA.out.1, HUA.out.2.1, HUA.out.2.2.1, HUA.out.2.2.2.1, HUA.out.2.2.2.2.1, World.ownsRow_nil _ _ _ _, Nat.le_refl _, HUA.out.2.2.2.2.2⟩
      case round =>
        clear HUA HU
        obtain ⟨q, v, hqN, rfl, hok, hst⟩ := hrel
        by_cases hlq : q < N
        · obtain ⟨t, ht⟩ : ∃ t, t = cr S q := ⟨_, rfl⟩
          have hcr := (cr_fact HN.out.2.1 (i := q) (by rw [← HN.out.1]; omega)).1
          rw [← ht] at hcr
          have htl : t.length = n := by rw [insB_len hcr]; exact HS.out.2.1
          obtain ⟨Q, hQ⟩ : ∃ Q, Q = D.take q := ⟨_, rfl⟩
          rw [← hQ] at hst
          have HQ : Hid (Q.length = q ∧ D.take (q + 1) = Q ++ [nth D q]) := ⟨by rw [hQ, List.length_take, HD.out.2.1]; omega, by rw [hQ, take_snoc D q (by rw [HD.out.2.1]; exact hlq)]⟩
          have HOk : Hid (∀ i, i < q → otX f true sz dz c' sz' dz' (cr S i) = 0) := hok
          have H0 : Hid (Abx wr w.heap.size (.bool true) (.slice sa sz.length sc) (.slice da dz.length dc) ∧ Abx wr (w.heap.size + 1) (.bool c') (.slice sa' sz'.length sc') (.slice da' dz'.length dc') ∧ Abx wr (w.heap.size + 1 + 1) (.bool false) (.slice none 0 0) (.slice none 0 0) ∧ Abx wr B (.bool false) (.slice g n gc) v ∧ MidC w1.heap.size B wr g S gc ∧ wr.ownsRow u.heap.size 3 1 v Q.length (Q.map (Value.int .i64)) ∧ u.heap.size ≤ wr.heap.size ∧ Below w.heap.size w wr) := hst
          have hco := coords_c g gc S n q HS.out.2.1 HN.out.2.1 (by rw [← HN.out.1]; omega) wr (hst.2.2.2.2.1.is (by have := hst.2.2.2.2.2.2.1; omega)).1
          rw [← ht] at hco
          clear hok hst hQ
          go_wp2_with fail
          refine hco.mono ?_
          rintro e w5 ⟨g2, rfl, hg2, hr2, hB1⟩
          have H1 : Hid (Abx w5 w.heap.size (.bool true) (.slice sa sz.length sc) (.slice da dz.length dc) ∧ Abx w5 (w.heap.size + 1) (.bool c') (.slice sa' sz'.length sc') (.slice da' dz'.length dc') ∧ Abx w5 (w.heap.size + 1 + 1) (.bool false) (.slice none 0 0) (.slice none 0 0) ∧ Abx w5 B (.bool false) (.slice g n gc) v ∧ MidC w1.heap.size B w5 g S gc ∧ w5.ownsRow u.heap.size 3 1 v Q.length (Q.map (Value.int .i64)) ∧ u.heap.size ≤ w5.heap.size ∧ Below w.heap.size w w5) := ⟨H0.out.1.go hB1, H0.out.2.1.go hB1, H0.out.2.2.1.go hB1, H0.out.2.2.2.1.go hB1, H0.out.2.2.2.2.1.go (by have := H0.out.2.2.2.2.2.2.1; omega) hB1, own_go H0.out.2.2.2.2.2.1 hB1, Nat.le_trans H0.out.2.2.2.2.2.2.1 hB1.size, H0.out.2.2.2.2.2.2.2.trans (hB1.mono H0.out.2.2.2.2.2.2.2.size)⟩
          have hg2l := hr2.lt
          have HG2 : Hid (w5.rowIs g2 3 n (fun j => .int .i64 (nth t j))) := hr2
          have hb1u : u.heap.size ≤ w5.heap.size := H1.out.2.2.2.2.2.2.1
          clear hco hB1 hr2 H0 hg2
          have hpp := ins_parts (s := sz) (s' := sz') (t := t) (by rw [← HS.out.1]; exact hcr)
          have hfa := flawE_zero HF.out.2.2.1
          have hfb := flawE_zero HF.out.2.2.2
          have hb1 := place_bd hpp.1
          have hb2 := place_bd hpp.2
          obtain ⟨P1, hP1⟩ : ∃ P : Nat, place sz (t.take sz.length) = P := ⟨(place sz (t.take sz.length)).toNat, by omega⟩
          obtain ⟨P2, hP2⟩ : ∃ P : Nat, place sz' (t.drop sz.length) = P := ⟨(place sz' (t.drop sz.length)).toNat, by omega⟩
          have hl1 : P1 < dz.length := by have := hfa.2.1; omega
          have hl2 : P2 < dz'.length := by have := hfb.2.1; omega
          obtain ⟨bd, od, rfl, hbd, hcd⟩ := HI.out.1.2.at hl1
          obtain ⟨be, oe, rfl, hbe, hce⟩ := HI.out.2.2.at hl2
          have hd1 := hcd P1 hl1
          have hd2 := hce P2 hl2
          obtain ⟨x, hx⟩ : ∃ x, x = nth dz P1 := ⟨_, rfl⟩
          obtain ⟨y, hy⟩ : ∃ y, y = nth dz' P2 := ⟨_, rfl⟩
          rw [← hx] at hd1
          rw [← hy] at hd2
          have HXY : Hid (otC f true sz dz c' sz' dz' t = tcV f (true == c') x y ∧ otX f true sz dz c' sz' dz' t = tcE f (true == c') x y ∧ In64 x ∧ In64 y) := by
            refine ⟨?_, ?_, by rw [hx]; exact HT.out.1 _, by rw [hy]; exact HT.out.2 _⟩
            · unfold otC cel; rw [hP1, hP2, Int.toNat_natCast, Int.toNat_natCast, ← hx, ← hy]
            · unfold otX cel; rw [hP1, hP2, Int.toNat_natCast, Int.toNat_natCast, ← hx, ← hy]
          have HWb : Hid (Below w.heap.size w w5) := H1.out.2.2.2.2.2.2.2
          have HX1 : Hid (IsInts w5.heap.size w5 (some ⟨g2, 0, none⟩) (t.take sz.length)) := .inr ⟨g2, 0, rfl, hg2l, fun j hj => by rw [List.length_take] at hj; rw [nth_take _ _ _ (by omega), Nat.zero_add]; exact HG2.out.cell (by omega)⟩
          have HX2 : Hid (IsInts w5.heap.size w5 (some ⟨g2, sz.length, none⟩) (t.drop sz.length)) := .inr ⟨g2, sz.length, rfl, hg2l, fun j hj => by rw [List.length_drop] at hj; rw [nth_drop12]; exact HG2.out.cell (by omega)⟩
          obtain ⟨AD, hAD⟩ : ∃ AD, (if n = sz.length then some (⟨g2, 0, none⟩ : Addr) else some ⟨g2, sz.length, none⟩) = AD := ⟨_, rfl⟩
          have HAI : Hid (IsInts w5.heap.size w5 AD (t.drop sz.length)) := by
            show IsInts _ _ _ _
            rw [← hAD]
            split
            · rename_i e; rw [List.drop_eq_nil_of_le (by omega)]; exact .inl rfl
            · exact HX2.out
          have HP : Hid (place sz (t.take sz.length) = P1 ∧ place sz' (t.drop sz.length) = P2 ∧ errOf sz = 0 ∧ errOf sz' = 0 ∧ insB sz (t.take sz.length) = true ∧ insB sz' (t.drop sz.length) = true ∧ (t.take sz.length).length = sz.length ∧ (t.drop sz.length).length = n - sz.length) := ⟨hP1, hP2, hfa.1, hfb.1, hpp.1, hpp.2, by rw [List.length_take]; omega, by rw [List.length_drop, htl]⟩
          have e1 : w5.cell? ⟨bd, od + P1, none⟩ = some (.int .i64 x) := (HWb.out.cell (p := ⟨bd, od + P1, none⟩) hbd).trans hd1
          have e2 : w5.cell? ⟨be, oe + P2, none⟩ = some (.int .i64 y) := (HWb.out.cell (p := ⟨be, oe + P2, none⟩) hbe).trans hd2
          clear hpp hfa hfb hb1 hb2 hP1 hP2 hcd hce hx hy hd1 hd2 hbd hbe
          have HI2 : Hid (IsInts w5.heap.size w5 sa sz ∧ IsInts w5.heap.size w5 sa' sz') := ⟨(HI.out.1.1.below HWb.out).mono HWb.out.size, (HI.out.2.1.below HWb.out).mono HWb.out.size⟩
          have a0 := H1.out.1.c0
          have a1 := H1.out.1.c1
          have a2 := H1.out.1.c2
          have b0 := H1.out.2.1.c0
          have b1 := H1.out.2.1.c1
          have b2 := H1.out.2.1.c2
          go_wp2_with fail
          refine anyC_begin (fun w' => w'.cell? ⟨w.heap.size, 0, none⟩ = some (.bool true) ∧ w'.cell? ⟨w.heap.size, 1, none⟩ = some (.slice sa sz.length sc) ∧ w'.cell? ⟨w.heap.size, 2, none⟩ = some (.slice (some ⟨bd, od, none⟩) dz.length dc) ∧ w'.cell? ⟨w.heap.size + 1, 0, none⟩ = some (.bool c') ∧ w'.cell? ⟨w.heap.size + 1, 1, none⟩ = some (.slice sa' sz'.length sc') ∧ w'.cell? ⟨w.heap.size + 1, 2, none⟩ = some (.slice (some ⟨be, oe, none⟩) dz'.length dc') ∧ w'.cell? ⟨bd, od + P1, none⟩ = some (.int .i64 x) ∧ w'.cell? ⟨be, oe + P2, none⟩ = some (.int .i64 y)) 13 #[false, false, false, false, false, false, false, false, false, false, false, false, false] (by kernel_rfl) rfl rfl ?_
          refine anyC_put 0 67 ?rv0 #[true, false, false, false, false, false, false, false, false, false, false, false, false] rfl rfl rfl (by kernel_rfl) (by kernel_rfl) (by kernel_rfl) (fun _ _ _ h => h) ?ry0 (⟨a0, a1, a2, b0, b1, b2, e1, e2⟩) ?rm0
          case ry0 => first | exact Or.inl ⟨by rfl, by intro w'; go_simp; first | done | rfl⟩
          case rm0 =>
          simp only [Act.put, List.setIfInBounds_toArray, List.set_cons_zero, List.set_cons_succ]
          refine anyC_take 1 68 ?rv1 #[true, true, false, false, false, false, false, false, false, false, false, false, false] rfl rfl rfl (by kernel_rfl) (by kernel_rfl) (by kernel_rfl) (fun _ _ _ h => h) ?ry1 (⟨a0, a1, a2, b0, b1, b2, e1, e2⟩) ?rm1
          case ry1 => first | exact Or.inl ⟨by rfl, by intro w' hw'; (try dsimp only at hw'); go_simp; first | done | rfl⟩
          case rm1 =>
          simp only [Act.put, List.setIfInBounds_toArray, List.set_cons_zero, List.set_cons_succ]
          refine anyC_put 2 69 ?rv2 #[true, true, true, false, false, false, false, false, false, false, false, false, false] rfl rfl rfl (by kernel_rfl) (by kernel_rfl) (by kernel_rfl) (fun _ _ _ h => h) ?ry2 (⟨a0, a1, a2, b0, b1, b2, e1, e2⟩) ?rm2
          case ry2 => first | exact Or.inl ⟨by rfl, by intro w'; go_simp; first | done | rfl⟩
          case rm2 =>
          simp only [Act.put, List.setIfInBounds_toArray, List.set_cons_zero, List.set_cons_succ]
          refine anyC_take 3 70 ?rv3 #[true, true, true, true, false, false, false, false, false, false, false, false, false] rfl rfl rfl (by kernel_rfl) (by kernel_rfl) (by kernel_rfl) (fun _ _ _ h => h) ?ry3 (⟨a0, a1, a2, b0, b1, b2, e1, e2⟩) ?rm3
          case ry3 => first | exact Or.inl ⟨by rfl, by intro w' hw'; (try dsimp only at hw'); go_simp; first | done | rfl⟩
          case rm3 =>
          simp only [Act.put, List.setIfInBounds_toArray, List.set_cons_zero, List.set_cons_succ]
          refine anyC_put 4 71 ?rv4 #[true, true, true, true, true, false, false, false, false, false, false, false, false] rfl rfl rfl (by kernel_rfl) (by kernel_rfl) (by kernel_rfl) (fun _ _ _ h => h) ?ry4 (⟨a0, a1, a2, b0, b1, b2, e1, e2⟩) ?rm4
          case ry4 => first | exact Or.inl ⟨by rfl, by intro w'; go_simp; first | done | rfl⟩
          case rm4 =>
          simp only [Act.put, List.setIfInBounds_toArray, List.set_cons_zero, List.set_cons_succ]
          refine anyC_put 5 72 ?rv5 #[true, true, true, true, true, true, false, false, false, false, false, false, false] rfl rfl rfl (by kernel_rfl) (by kernel_rfl) (by kernel_rfl) (fun _ _ _ h => h) ?ry5 (⟨a0, a1, a2, b0, b1, b2, e1, e2⟩) ?rm5
          case ry5 => first | exact Or.inl ⟨by rfl, by intro w'; go_simp; first | done | rfl⟩
          case rm5 =>
          simp only [Act.put, List.setIfInBounds_toArray, List.set_cons_zero, List.set_cons_succ]
          refine anyC_take 6 73 ?rv6 #[true, true, true, true, true, true, true, false, false, false, false, false, false] rfl rfl rfl (by kernel_rfl) (by kernel_rfl) (by kernel_rfl) (fun _ _ _ h => h) ?ry6 (⟨a0, a1, a2, b0, b1, b2, e1, e2⟩) ?rm6
          case ry6 => first | exact Or.inl ⟨by rfl, by intro w' hw'; (try dsimp only at hw'); go_simp; first | done | rfl⟩
          case rm6 =>
          simp only [Act.put, List.setIfInBounds_toArray, List.set_cons_zero, List.set_cons_succ]
          refine anyC_put 7 74 ?rv7 #[true, true, true, true, true, true, true, true, false, false, false, false, false] rfl rfl rfl (by kernel_rfl) (by kernel_rfl) (by kernel_rfl) (fun _ _ _ h => h) ?ry7 (⟨a0, a1, a2, b0, b1, b2, e1, e2⟩) ?rm7
          case ry7 => first | exact Or.inl ⟨by rfl, by intro w'; go_simp; first | done | rfl⟩
          case rm7 =>
          simp only [Act.put, List.setIfInBounds_toArray, List.set_cons_zero, List.set_cons_succ]
          refine anyC_put 8 75 ?rv8 #[true, true, true, true, true, true, true, true, true, false, false, false, false] rfl rfl rfl (by kernel_rfl) (by kernel_rfl) (by kernel_rfl) (fun _ _ _ h => h) ?ry8 (⟨a0, a1, a2, b0, b1, b2, e1, e2⟩) ?rm8
          case ry8 => first | exact Or.inl ⟨by rfl, by intro w'; go_simp; first | done | rfl⟩
          case rm8 =>
          simp only [Act.put, List.setIfInBounds_toArray, List.set_cons_zero, List.set_cons_succ]
          refine anyC_one 9 #[true, true, true, true, true, true, true, true, true, true, false, false, false] (by kernel_rfl) rfl rfl (fun K hK => ?_)
          go_simp
          try rw [hAD]
          go_wp2_with (go_at_call 16; refine (where_l sa sc sz sz.length rfl (some ⟨g2, 0, none⟩) _ _ (t.take sz.length) HP.out.2.2.2.2.2.2.1 P1 HP.out.1 (by omega) HP.out.2.2.1 HP.out.2.2.2.2.1 w5.heap.size _ (HI2.out.1.below ((Below.refl _ w5).drew)) (HX1.out.below ((Below.refl _ w5).drew))).mono ?_; rintro e yw ⟨rfl, hyw⟩; obtain rfl := hyw.symm; clear hyw)
          refine hK.out _ _ (⟨a0, a1, a2, b0, b1, b2, e1, e2⟩) ?_
          clear hK K
          refine anyC_put 10 77 ?rv10 #[true, true, true, true, true, true, true, true, true, true, true, false, false] rfl rfl rfl (by kernel_rfl) (by kernel_rfl) (by kernel_rfl) (fun _ _ _ h => h) ?ry10 (⟨a0, a1, a2, b0, b1, b2, e1, e2⟩) ?rm10
          case ry10 => first | exact Or.inl ⟨by rfl, by intro w'; go_simp; first | done | rfl⟩
          case rm10 =>
          simp only [Act.put, List.setIfInBounds_toArray, List.set_cons_zero, List.set_cons_succ]
          refine anyC_take 11 78 ?rv11 #[true, true, true, true, true, true, true, true, true, true, true, true, false] rfl rfl rfl (by kernel_rfl) (by kernel_rfl) (by kernel_rfl) (fun _ _ _ h => h) ?ry11 (⟨a0, a1, a2, b0, b1, b2, e1, e2⟩) ?rm11
          case ry11 => first | exact Or.inl ⟨by rfl, by intro w' hw'; (try dsimp only at hw'); go_simp; first | done | rfl⟩
          case rm11 =>
          simp only [Act.put, List.setIfInBounds_toArray, List.set_cons_zero, List.set_cons_succ]
          refine anyC_put 12 14 ?rv12 #[true, true, true, true, true, true, true, true, true, true, true, true, true] rfl rfl rfl (by kernel_rfl) (by kernel_rfl) (by kernel_rfl) (fun _ _ _ h => h) ?ry12 (⟨a0, a1, a2, b0, b1, b2, e1, e2⟩) ?rm12
          case ry12 => first | exact Or.inl ⟨by rfl, by intro w'; go_simp; first | done | rfl⟩
          case rm12 =>
          simp only [Act.put, List.setIfInBounds_toArray, List.set_cons_zero, List.set_cons_succ]
          refine anyC_done (by kernel_rfl) ?_
          obtain ⟨w6, hw6⟩ : ∃ w6, w6 = w5.drew := ⟨_, rfl⟩
          rw [← hw6]
          have hb56 : Below w5.heap.size w5 w6 := by rw [hw6]; exact (Below.refl _ w5).drew
          replace a0 := cell_to a0 hb56
          replace a1 := cell_to a1 hb56
          replace a2 := cell_to a2 hb56
          replace b0 := cell_to b0 hb56
          replace b1 := cell_to b1 hb56
          replace b2 := cell_to b2 hb56
          replace e1 := cell_to e1 hb56
          replace e2 := cell_to e2 hb56
          clear hw6
          go_wp2_with fail
          refine anyC_begin (fun w' => w'.cell? ⟨w.heap.size, 0, none⟩ = some (.bool true) ∧ w'.cell? ⟨w.heap.size, 1, none⟩ = some (.slice sa sz.length sc) ∧ w'.cell? ⟨w.heap.size, 2, none⟩ = some (.slice (some ⟨bd, od, none⟩) dz.length dc) ∧ w'.cell? ⟨w.heap.size + 1, 0, none⟩ = some (.bool c') ∧ w'.cell? ⟨w.heap.size + 1, 1, none⟩ = some (.slice sa' sz'.length sc') ∧ w'.cell? ⟨w.heap.size + 1, 2, none⟩ = some (.slice (some ⟨be, oe, none⟩) dz'.length dc') ∧ w'.cell? ⟨bd, od + P1, none⟩ = some (.int .i64 x) ∧ w'.cell? ⟨be, oe + P2, none⟩ = some (.int .i64 y)) 13 #[false, false, false, false, false, false, false, false, false, false, false, false, false] (by kernel_rfl) rfl rfl ?_
          refine anyC_put 0 79 ?rv13 #[true, false, false, false, false, false, false, false, false, false, false, false, false] rfl rfl rfl (by kernel_rfl) (by kernel_rfl) (by kernel_rfl) (fun _ _ _ h => h) ?ry13 (⟨a0, a1, a2, b0, b1, b2, e1, e2⟩) ?rm13
          case ry13 => first | exact Or.inl ⟨by rfl, by intro w'; go_simp; first | done | rfl⟩
          case rm13 =>
          simp only [Act.put, List.setIfInBounds_toArray, List.set_cons_zero, List.set_cons_succ]
          refine anyC_take 1 80 ?rv14 #[true, true, false, false, false, false, false, false, false, false, false, false, false] rfl rfl rfl (by kernel_rfl) (by kernel_rfl) (by kernel_rfl) (fun _ _ _ h => h) ?ry14 (⟨a0, a1, a2, b0, b1, b2, e1, e2⟩) ?rm14
          case ry14 => first | exact Or.inl ⟨by rfl, by intro w' hw'; (try dsimp only at hw'); go_simp; first | done | rfl⟩
          case rm14 =>
          simp only [Act.put, List.setIfInBounds_toArray, List.set_cons_zero, List.set_cons_succ]
          refine anyC_put 2 81 ?rv15 #[true, true, true, false, false, false, false, false, false, false, false, false, false] rfl rfl rfl (by kernel_rfl) (by kernel_rfl) (by kernel_rfl) (fun _ _ _ h => h) ?ry15 (⟨a0, a1, a2, b0, b1, b2, e1, e2⟩) ?rm15
          case ry15 => first | exact Or.inl ⟨by rfl, by intro w'; go_simp; first | done | rfl⟩
          case rm15 =>
          simp only [Act.put, List.setIfInBounds_toArray, List.set_cons_zero, List.set_cons_succ]
          refine anyC_take 3 82 ?rv16 #[true, true, true, true, false, false, false, false, false, false, false, false, false] rfl rfl rfl (by kernel_rfl) (by kernel_rfl) (by kernel_rfl) (fun _ _ _ h => h) ?ry16 (⟨a0, a1, a2, b0, b1, b2, e1, e2⟩) ?rm16
          case ry16 => first | exact Or.inl ⟨by rfl, by intro w' hw'; (try dsimp only at hw'); go_simp; first | done | rfl⟩
          case rm16 =>
          simp only [Act.put, List.setIfInBounds_toArray, List.set_cons_zero, List.set_cons_succ]
          refine anyC_put 4 83 ?rv17 #[true, true, true, true, true, false, false, false, false, false, false, false, false] rfl rfl rfl (by kernel_rfl) (by kernel_rfl) (by kernel_rfl) (fun _ _ _ h => h) ?ry17 (⟨a0, a1, a2, b0, b1, b2, e1, e2⟩) ?rm17
          case ry17 => first | exact Or.inl ⟨by rfl, by intro w'; go_simp; first | done | rfl⟩
          case rm17 =>
          simp only [Act.put, List.setIfInBounds_toArray, List.set_cons_zero, List.set_cons_succ]
          refine anyC_put 5 84 ?rv18 #[true, true, true, true, true, true, false, false, false, false, false, false, false] rfl rfl rfl (by kernel_rfl) (by kernel_rfl) (by kernel_rfl) (fun _ _ _ h => h) ?ry18 (⟨a0, a1, a2, b0, b1, b2, e1, e2⟩) ?rm18
          case ry18 => first | exact Or.inl ⟨by rfl, by intro w'; go_simp; first | done | rfl⟩
          case rm18 =>
          simp only [Act.put, List.setIfInBounds_toArray, List.set_cons_zero, List.set_cons_succ]
          refine anyC_take 6 85 ?rv19 #[true, true, true, true, true, true, true, false, false, false, false, false, false] rfl rfl rfl (by kernel_rfl) (by kernel_rfl) (by kernel_rfl) (fun _ _ _ h => h) ?ry19 (⟨a0, a1, a2, b0, b1, b2, e1, e2⟩) ?rm19
          case ry19 => first | exact Or.inl ⟨by rfl, by intro w' hw'; (try dsimp only at hw'); go_simp; first | done | rfl⟩
          case rm19 =>
          simp only [Act.put, List.setIfInBounds_toArray, List.set_cons_zero, List.set_cons_succ]
          refine anyC_put 7 86 ?rv20 #[true, true, true, true, true, true, true, true, false, false, false, false, false] rfl rfl rfl (by kernel_rfl) (by kernel_rfl) (by kernel_rfl) (fun _ _ _ h => h) ?ry20 (⟨a0, a1, a2, b0, b1, b2, e1, e2⟩) ?rm20
          case ry20 => first | exact Or.inl ⟨by rfl, by intro w'; go_simp; first | done | rfl⟩
          case rm20 =>
          simp only [Act.put, List.setIfInBounds_toArray, List.set_cons_zero, List.set_cons_succ]
          refine anyC_put 8 87 ?rv21 #[true, true, true, true, true, true, true, true, true, false, false, false, false] rfl rfl rfl (by kernel_rfl) (by kernel_rfl) (by kernel_rfl) (fun _ _ _ h => h) ?ry21 (⟨a0, a1, a2, b0, b1, b2, e1, e2⟩) ?rm21
          case ry21 => first | exact Or.inl ⟨by rfl, by intro w'; go_simp; first | done | rfl⟩
          case rm21 =>
          simp only [Act.put, List.setIfInBounds_toArray, List.set_cons_zero, List.set_cons_succ]
          refine anyC_one 9 #[true, true, true, true, true, true, true, true, true, true, false, false, false] (by kernel_rfl) rfl rfl (fun K hK => ?_)
          go_simp
          try rw [hAD]
          go_wp2_with (go_at_call 16; refine (where_l sa' sc' sz' sz'.length rfl AD _ _ (t.drop sz.length) HP.out.2.2.2.2.2.2.2 P2 HP.out.2.1 (by omega) HP.out.2.2.2.1 HP.out.2.2.2.2.2.1 w5.heap.size _ (HI2.out.2.below hb56.drew) (HAI.out.below hb56.drew)).mono ?_; rintro e yw ⟨rfl, hyw⟩; obtain rfl := hyw.symm; clear hyw)
          refine hK.out _ _ (⟨a0, a1, a2, b0, b1, b2, e1, e2⟩) ?_
          clear hK K
          refine anyC_put 10 89 ?rv23 #[true, true, true, true, true, true, true, true, true, true, true, false, false] rfl rfl rfl (by kernel_rfl) (by kernel_rfl) (by kernel_rfl) (fun _ _ _ h => h) ?ry23 (⟨a0, a1, a2, b0, b1, b2, e1, e2⟩) ?rm23
          case ry23 => first | exact Or.inl ⟨by rfl, by intro w'; go_simp; first | done | rfl⟩
          case rm23 =>
          simp only [Act.put, List.setIfInBounds_toArray, List.set_cons_zero, List.set_cons_succ]
          refine anyC_take 11 90 ?rv24 #[true, true, true, true, true, true, true, true, true, true, true, true, false] rfl rfl rfl (by kernel_rfl) (by kernel_rfl) (by kernel_rfl) (fun _ _ _ h => h) ?ry24 (⟨a0, a1, a2, b0, b1, b2, e1, e2⟩) ?rm24
          case ry24 => first | exact Or.inl ⟨by rfl, by intro w' hw'; (try dsimp only at hw'); go_simp; first | done | rfl⟩
          case rm24 =>
          simp only [Act.put, List.setIfInBounds_toArray, List.set_cons_zero, List.set_cons_succ]
          refine anyC_put 12 15 ?rv25 #[true, true, true, true, true, true, true, true, true, true, true, true, true] rfl rfl rfl (by kernel_rfl) (by kernel_rfl) (by kernel_rfl) (fun _ _ _ h => h) ?ry25 (⟨a0, a1, a2, b0, b1, b2, e1, e2⟩) ?rm25
          case ry25 => first | exact Or.inl ⟨by rfl, by intro w'; go_simp; first | done | rfl⟩
          case rm25 =>
          simp only [Act.put, List.setIfInBounds_toArray, List.set_cons_zero, List.set_cons_succ]
          refine anyC_done (by kernel_rfl) ?_
          obtain ⟨w7, hw7⟩ : ∃ w7, w7 = w6.drew := ⟨_, rfl⟩
          rw [← hw7]
          have hb57 : Below w5.heap.size w5 w7 := by rw [hw7]; exact hb56.drew
          replace a0 := cell_to a0 (show Below w6.heap.size w6 w7 by rw [hw7]; exact (Below.refl _ w6).drew)
          replace a1 := cell_to a1 (show Below w6.heap.size w6 w7 by rw [hw7]; exact (Below.refl _ w6).drew)
          replace a2 := cell_to a2 (show Below w6.heap.size w6 w7 by rw [hw7]; exact (Below.refl _ w6).drew)
          replace b0 := cell_to b0 (show Below w6.heap.size w6 w7 by rw [hw7]; exact (Below.refl _ w6).drew)
          replace b1 := cell_to b1 (show Below w6.heap.size w6 w7 by rw [hw7]; exact (Below.refl _ w6).drew)
          replace b2 := cell_to b2 (show Below w6.heap.size w6 w7 by rw [hw7]; exact (Below.refl _ w6).drew)
          replace e1 := cell_to e1 (show Below w6.heap.size w6 w7 by rw [hw7]; exact (Below.refl _ w6).drew)
          replace e2 := cell_to e2 (show Below w6.heap.size w6 w7 by rw [hw7]; exact (Below.refl _ w6).drew)
          have H7 : Hid (Abx w7 w.heap.size (.bool true) (.slice sa sz.length sc) (.slice (some ⟨bd, od, none⟩) dz.length dc) ∧ Abx w7 (w.heap.size + 1) (.bool c') (.slice sa' sz'.length sc') (.slice (some ⟨be, oe, none⟩) dz'.length dc') ∧ Abx w7 (w.heap.size + 1 + 1) (.bool false) (.slice none 0 0) (.slice none 0 0) ∧ Abx w7 B (.bool false) (.slice g n gc) v ∧ MidC w1.heap.size B w7 g S gc ∧ w7.ownsRow u.heap.size 3 1 v Q.length (Q.map (Value.int .i64)) ∧ u.heap.size ≤ w7.heap.size ∧ Below w.heap.size w w7) := ⟨H1.out.1.go hb57, H1.out.2.1.go hb57, H1.out.2.2.1.go hb57, H1.out.2.2.2.1.go hb57, H1.out.2.2.2.2.1.go (by have := H1.out.2.2.2.2.2.2.1; omega) hb57, own_go H1.out.2.2.2.2.2.1 hb57, Nat.le_trans H1.out.2.2.2.2.2.2.1 hb57.size, H1.out.2.2.2.2.2.2.2.trans (hb57.mono H1.out.2.2.2.2.2.2.2.size)⟩
          clear hw7 hb56 hb57 H1 e1 e2
          go_wp2_with fail
          refine (twocells_any f true x c' y HXY.out.2.2.1 HXY.out.2.2.2 w7).mono ?_
          rintro e w8 ⟨rfl, hw8⟩
          obtain rfl := hw8.symm
          clear hw8 a0 a1 a2 b0 b1 b2
          obtain ⟨E, hE⟩ : ∃ E, E = tcE f (true == c') x y := ⟨_, rfl⟩
          obtain ⟨Y, hY⟩ : ∃ Y, Y = tcV f (true == c') x y := ⟨_, rfl⟩
          have HEY : Hid (otC f true sz dz c' sz' dz' t = Y ∧ otX f true sz dz c' sz' dz' t = E ∧ (E = 0 ∨ E = 6)) := ⟨by rw [hY]; exact HXY.out.1, by rw [hE]; exact HXY.out.2.1, by rw [hE]; exact tcE_cell HF.out.1 _ _ _⟩
          rw [← hE, ← hY]
          clear hE hY
          by_cases hq : E = 0
          · have t0' : (E != 0) = false := by simp [hq]
            have HV : Hid (Y = nth D q) := by show _ = _; rw [HD.out.2.2 q hlq, ← ht]; exact HEY.out.1.symm
            have HO : Hid (otX f true sz dz c' sz' dz' (cr S q) = 0) := by show _ = _; rw [← ht, HEY.out.2.1]; exact hq
            obtain ⟨X, hX⟩ : ∃ X, X = Y := ⟨_, rfl⟩
            rw [← hX] at HV ⊢
            have HN9 : Hid ((w7.alloc (.cells #[.int .i64 X] 3)).heap[w7.heap.size]? = some (.cells #[.int .i64 X] 3 (0, 0))) := World.alloc_heap_new _ _
            have o2 := H7.out.2.2.2.1.c2
            have o3 := (H7.out.2.2.2.1.al (.cells #[.int .i64 X] 3)).c2
            have hsW := H7.out.2.2.2.2.2.2.1
            clear hq hX
            go_wp2_with (at_builtin; refine app_list rfl _ _ rfl _ u.heap.size w7.heap.size v Q X rfl rfl (H7.out.2.2.2.2.2.1.alloc _) HN9.out (by rw [HQ.out.1]; omega) (by simp; omega) ?_; intro g7 gc7 w7 ho7 hB7; have HO7 : Hid (Abx w7 B (.bool false) (.slice g n gc) v) := (H7.out.2.2.2.1.al _).bel hB7 (by omega); have o5 := HO7.out.c2; have of5 := HO7.out.fr 2)
            have hz7 := hB7.size
            simp at hz7
            refine ⟨⟨q + 1, .slice (some ⟨g7, 0, none⟩) (Q.length + 1) gc7, by omega, by go_num, ?_, ((H7.out.1.al _).bel hB7 (by omega)).ot (by show w.heap.size ≠ B; omega) _, ((H7.out.2.1.al _).bel hB7 (by omega)).ot (by show w.heap.size + 1 ≠ B; omega) _, ((H7.out.2.2.1.al _).bel hB7 (by omega)).ot (by show w.heap.size + 1 + 1 ≠ B; omega) _, HO7.out.s2 _, ?_, ?_, by simp [World.setCell]; omega, ?_⟩, by simp [intOf]; omega⟩
            · intro i hi
              by_cases e : i = q
              · rw [e]; exact HO.out
              · exact HOk.out i (by omega)
            · exact MidC.s1 ⟨((H7.out.2.2.2.2.1.1.al (by omega) _).bel (hB7.mono (by omega))), H7.out.2.2.2.2.1.2⟩ (p := ⟨B, 2, none⟩) (.inr (Nat.le_refl _)) _
            · rw [HQ.out.2, ← HV.out, List.length_append, List.length_singleton]
              exact ownsRow_setCell_below ho7 (by show B < u.heap.size; omega) _
            · exact ((H7.out.2.2.2.2.2.2.2.alloc H7.out.2.2.2.2.2.2.2.size _).trans (hB7.mono (by omega))).setCell (p := ⟨B, 2, none⟩) (by show w.heap.size ≤ B; omega) _
          · have t0' : (E != 0) = true := by simp [hq]
            have hsix : E = 6 := HEY.out.2.2.resolve_left hq
            have HE : Hid (otE f true sz dz c' sz' dz' = 6) := by
              show _ = _
              unfold otE
              rw [if_neg HF.out.1, if_neg (not_not_intro HF.out.2.1), ← HS.out.1, if_neg (not_not_intro HN.out.2.1), if_neg (fun h => by have := HK.out; omega), if_neg fun h2 => hq ?_]
              have := (okT_iff HN.out.2.1).1 h2 t hcr
              rwa [HEY.out.2.1] at this
            rw [hsix] at t0' ⊢
            have HRR : Hid (Abx w7 (w.heap.size + 1 + 1) (.bool false) (.slice none 0 0) (.slice none 0 0) ∧ Below w.heap.size w w7) := ⟨H7.out.2.2.1, H7.out.2.2.2.2.2.2.2⟩
            clear hq hsix
            have r0 := HRR.out.1.c0
            have r1 := HRR.out.1.c1
            have r2 := HRR.out.1.c2
            have f0 := HRR.out.1.fr 0
            have f1 := HRR.out.1.fr 1
            have f2 := HRR.out.1.fr 2
            go_wp2_with fail
            have FF := HRR.out.1.set3 (.bool false) (.slice none 0 0) (.slice none 0 0)
            have z0 := FF.c0
            have z1 := FF.c1
            have z2 := FF.c2
            exact bodyPost_ret (v := .tuple #[.agg #[.bool false, .slice none 0 0, .slice none 0 0], .int .i64 6]) (by simp [results, Tryd.results5, go_sem, z0, z1, z2]) rfl (ur12_no HE.out (by decide) (bel_set3 HRR.out.2 (by omega) _ _ _))
        · obtain rfl : q = N := by omega
          have HX : Hid (otE f true sz dz c' sz' dz' = 0) := by
            show _ = _
            unfold otE
            rw [if_neg HF.out.1, if_neg (not_not_intro HF.out.2.1), ← HS.out.1, if_neg (not_not_intro HN.out.2.1), if_neg (fun h => by have := HK.out; omega), if_pos ((okT_iff HN.out.2.1).2 fun t ht => ?_)]
            have hc := cr_place HN.out.2.1 ht
            have := hok (place S t).toNat (by rw [← HN.out.1] at hc; simpa using hc.2)
            rwa [hc.1] at this
          have htt : D.take q = D := List.take_of_length_le (by rw [HD.out.2.1]; exact Nat.le_refl _)
          rw [htt] at hst
          obtain ⟨hA, hA', hR, hO, hM, hown, hsz, hB⟩ := hst
          obtain ⟨g1, gc1, rfl, hN1⟩ := own_cap hown
          have HQ : Hid (Abx wr (w.heap.size + 1 + 1) (.bool false) (.slice none 0 0) (.slice none 0 0) ∧ NewC u.heap.size wr g1 D gc1 ∧ MidC w1.heap.size B wr g S gc ∧ u.heap.size ≤ wr.heap.size ∧ Below w.heap.size w wr) := ⟨hR, hN1, hM, hsz, hB⟩
          have o0 := hO.c0
          have o1 := hO.c1
          have o2 := hO.c2
          have r0 := hR.c0
          have r1 := hR.c1
          have r2 := hR.c2
          have f0 := hR.fr 0
          have f1 := hR.fr 1
          have f2 := hR.fr 2
          clear hown htt hA hA' hR hO hM hok hsz hB hN1
          go_wp2_with fail
          have FF := HQ.out.1.set3 (.bool false) (.slice g n gc) (.slice g1 D.length gc1)
          have q0 := FF.c0
          have q1 := FF.c1
          have q2 := FF.c2
          refine bodyPost_ret (v := .tuple #[.agg #[.bool false, .slice g n gc, .slice g1 D.length gc1], .int .i64 0]) (by simp [results, Tryd.results5, go_sem, q0, q1, q2]) rfl ?_
          have hX := ((HQ.out.2.2.1.1.new (by have := HQ.out.2.2.2.1; omega)).set3 (b := w.heap.size + 1 + 1) (by omega) (.bool false) (.slice g n gc) (.slice g1 D.length gc1)).low (lo' := w.heap.size) (by omega)
          have hY := (HQ.out.2.1.1.set3 (b := w.heap.size + 1 + 1) (by omega) (.bool false) (.slice g n gc) (.slice g1 D.length gc1)).low (lo' := w.heap.size) (by omega)
          have hU := ur12_ok (e := otE f true sz dz c' sz' dz') (w := w) HX.out (S := S) (D := D) (xc := gc) (yc := gc1) HS.out.2.1 rfl hX hY (bel_set3 HQ.out.2.2.2.2 (b := w.heap.size + 1 + 1) (by omega) (.bool false) (.slice g n gc) (.slice g1 D.length gc1))
          rw [← HS.out.1, ← HD.out.1]
          exact hU
    · have hkd : decide (f = 8 ∨ f = 9) = false := by simp [hk]
      have HE : Hid (otE f true sz dz c' sz' dz' = 6) := by
        show _ = _
        unfold otE
        rw [if_neg HF.out.1, if_neg (not_not_intro HF.out.2.1), if_neg (by rw [← HS.out.1]; exact not_not_intro HN.out.2.1), if_pos ⟨by simp, by omega⟩]
      clear hk
      go_wp2_with fail
      refine (compares_any f w2).mono ?_
      rintro e w3 ⟨rfl, hw3⟩
      obtain rfl := hw3.symm
      clear hw3
      rw [hkd]
      clear hkd
      clear p0 p1 p2 q0 q1 q2
      have r0 := Rr2.out.c0
      have r1 := Rr2.out.c1
      have r2 := Rr2.out.c2
      have f0 := Rr2.out.fr 0
      have f1 := Rr2.out.fr 1
      have f2 := Rr2.out.fr 2
      go_wp2_with fail
      have FF := Rr2.out.set3 (.bool false) (.slice none 0 0) (.slice none 0 0)
      have z0 := FF.c0
      have z1 := FF.c1
      have z2 := FF.c2
      exact bodyPost_ret (v := .tuple #[.agg #[.bool false, .slice none 0 0, .slice none 0 0], .int .i64 6]) (by simp [results, Tryd.results5, go_sem, z0, z1, z2]) rfl (ur12_no HE.out (by decide) (bel_set3 HB2.out (by omega) _ _ _))
  · have HE : Hid (otE f true sz dz c' sz' dz' = errOf S) := by show _ = _; unfold otE; rw [if_neg HF.out.1, if_neg (not_not_intro HF.out.2.1), ← HS.out.1, if_pos he]
    have HNz : Hid (errOf S ≠ 0) := he
    have t0 : (errOf S != 0) = true := by simp [he]
    clear he
    have r0 := Rr2.out.c0
    have r1 := Rr2.out.c1
    have r2 := Rr2.out.c2
    have f0 := Rr2.out.fr 0
    have f1 := Rr2.out.fr 1
    have f2 := Rr2.out.fr 2
    go_wp2_with fail
    have FF := Rr2.out.set3 (.bool false) (.slice none 0 0) (.slice none 0 0)
    have z0 := FF.c0
    have z1 := FF.c1
    have z2 := FF.c2
    exact bodyPost_ret (v := .tuple #[.agg #[.bool false, .slice none 0 0, .slice none 0 0], .int .i64 (errOf S)]) (by simp [results, Tryd.results5, go_sem, z0, z1, z2]) rfl (ur12_no HE.out HNz.out (bel_set3 HB2.out (by omega) _ _ _))
set_option maxRecDepth 100000 in
set_option maxHeartbeats 8000000 in
theorem outered_ft (f : Int) (sa : Option Addr) (sc : Nat) (sz : List Int) (da : Option Addr) (dc : Nat) (dz : List Int) (sa' : Option Addr) (sc' : Nat) (sz' : List Int) (da' : Option Addr) (dc' : Nat) (dz' : List Int) (h1 : sz.length ≤ 9223372036854775807) (h2 : dz.length ≤ 9223372036854775807) (h1' : sz'.length ≤ 9223372036854775807) (h2' : dz'.length ≤ 9223372036854775807) (w : World) (hs : IsInts w.heap.size w sa sz) (hd : IsInts w.heap.size w da dz) (hs' : IsInts w.heap.size w sa' sz') (hd' : IsInts w.heap.size w da' dz') (T : ∀ j, In64 (nth dz j)) (T' : ∀ j, In64 (nth dz' j)) (hf : ¬ (f < 1 ∨ 16 < f)) (hw0 : flawsE false sz dz true sz' dz' = 0) :
    Calls Tryd.prog 5 #[.int .i64 f, .agg #[.bool false, .slice sa sz.length sc, .slice da dz.length dc], .agg #[.bool true, .slice sa' sz'.length sc', .slice da' dz'.length dc']] w (UR (otE f false sz dz true sz' dz') false (otS13 f false sz dz true sz' dz') (otD13 f false sz dz true sz' dz') w) := by
  unfold otS13 otD13
  have hlo : ¬ f < 1 := by omega
  have hhi : ¬ 16 < f := by omega
  obtain ⟨hfa, hfb⟩ := flawsE_zero.1 hw0
  have HF : Hid (¬ (f < 1 ∨ 16 < f) ∧ flawsE false sz dz true sz' dz' = 0 ∧ flawE false sz dz = 0 ∧ flawE true sz' dz' = 0) := ⟨hf, hw0, hfa, hfb⟩
  have hl6 := (errOf_zero.1 (flawE_zero hfa).1).1
  have hl6' := (errOf_zero.1 (flawE_zero hfb).1).1
  clear hf hw0 hfa hfb
  have HI : Hid ((IsInts w.heap.size w sa sz ∧ IsInts w.heap.size w da dz) ∧ (IsInts w.heap.size w sa' sz' ∧ IsInts w.heap.size w da' dz')) := ⟨⟨hs, hd⟩, hs', hd'⟩
  have HT : Hid ((∀ j, In64 (nth dz j)) ∧ ∀ j, In64 (nth dz' j)) := ⟨T, T'⟩
  have pa := ((Abx.new w (.bool false) (.slice sa sz.length sc) (.slice da dz.length dc)).al (.cells #[.bool true, .slice sa' sz'.length sc', .slice da' dz'.length dc'] 25)).al (.cells #[.bool false, .slice none 0 0, .slice none 0 0] 25)
  have qa := (Abx.new1 w (.cells #[.bool false, .slice sa sz.length sc, .slice da dz.length dc] 25) (.bool true) (.slice sa' sz'.length sc') (.slice da' dz'.length dc')).al (.cells #[.bool false, .slice none 0 0, .slice none 0 0] 25)
  have ra := Abx.new1 (w.alloc (.cells #[.bool false, .slice sa sz.length sc, .slice da dz.length dc] 25)) (.cells #[.bool true, .slice sa' sz'.length sc', .slice da' dz'.length dc'] 25) (.bool false) (.slice none 0 0) (.slice none 0 0)
  rw [World.size_alloc] at ra
  have p0 := pa.c0
  have p1 := pa.c1
  have p2 := pa.c2
  have q0 := qa.c0
  have q1 := qa.c1
  have q2 := qa.c2
  obtain ⟨V0, hV0⟩ : ∃ V0, V0 = ((w.alloc (.cells #[.bool false, .slice sa sz.length sc, .slice da dz.length dc] 25)).alloc (.cells #[.bool true, .slice sa' sz'.length sc', .slice da' dz'.length dc'] 25)).alloc (.cells #[.bool false, .slice none 0 0, .slice none 0 0] 25) := ⟨_, rfl⟩
  have HB0 : Hid (Below w.heap.size w V0) := by rw [hV0]; exact (((Below.refl _ w).alloc (Nat.le_refl _) _).alloc (by simp) _).alloc (by simp; omega) _
  have Pa0 : Hid (Abx V0 w.heap.size (.bool false) (.slice sa sz.length sc) (.slice da dz.length dc)) := by rw [hV0]; exact pa
  have Qb0 : Hid (Abx V0 (w.heap.size + 1) (.bool true) (.slice sa' sz'.length sc') (.slice da' dz'.length dc')) := by rw [hV0]; exact qa
  have Rr0 : Hid (Abx V0 (w.heap.size + 1 + 1) (.bool false) (.slice none 0 0) (.slice none 0 0)) := by rw [hV0]; exact ra
  have HW : Hid (V0 = _) := hV0
  have hC := flaws_any false true sa sc sz da dc dz sa' sc' sz' da' dc' dz' h1 h2 h1' h2' V0 ((HI.out.1.1.below HB0.out).mono HB0.out.size) ((HI.out.1.2.below HB0.out).mono HB0.out.size) ((HI.out.2.1.below HB0.out).mono HB0.out.size) ((HI.out.2.2.below HB0.out).mono HB0.out.size)
  clear hs hd hs' hd' T T' hV0 pa qa ra
  go_enter Tryd.func5, Tryd.ntmps5
  go_wp2_with fail
  rw [← HW.out]
  refine hC.mono ?_
  rintro e w1 ⟨rfl, hb⟩
  have HB1 : Hid (Below w.heap.size w w1) := HB0.out.trans (hb.mono HB0.out.size)
  have Pa1 : Hid (Abx w1 w.heap.size (.bool false) (.slice sa sz.length sc) (.slice da dz.length dc)) := Pa0.out.go hb
  have Qb1 : Hid (Abx w1 (w.heap.size + 1) (.bool true) (.slice sa' sz'.length sc') (.slice da' dz'.length dc')) := Qb0.out.go hb
  have Rr1 : Hid (Abx w1 (w.heap.size + 1 + 1) (.bool false) (.slice none 0 0) (.slice none 0 0)) := Rr0.out.go hb
  clear hb hC p0 p1 p2 q0 q1 q2 HW
  rw [HF.out.2.1]
  have p0 := Pa1.out.c0
  have p1 := Pa1.out.c1
  have p2 := Pa1.out.c2
  have q0 := Qb1.out.c0
  have q1 := Qb1.out.c1
  have q2 := Qb1.out.c2
  have hjo := joined_r sa sc sz sz.length rfl sa' sc' sz' sz'.length rfl (by omega) w1 ((HI.out.1.1.below HB1.out).mono HB1.out.size) ((HI.out.2.1.below HB1.out).mono HB1.out.size)
  go_wp2_with fail
  clear p0 p1 p2 q0 q1 q2
  refine hjo.mono ?_
  rintro e w2 ⟨g, gc, rfl, hN, hb⟩
  clear hjo
  have HB2 : Hid (Below w.heap.size w w2) := HB1.out.trans (hb.mono HB1.out.size)
  have Pa2 : Hid (Abx w2 w.heap.size (.bool false) (.slice sa sz.length sc) (.slice da dz.length dc)) := Pa1.out.go hb
  have Qb2 : Hid (Abx w2 (w.heap.size + 1) (.bool true) (.slice sa' sz'.length sc') (.slice da' dz'.length dc')) := Qb1.out.go hb
  have Rr2 : Hid (Abx w2 (w.heap.size + 1 + 1) (.bool false) (.slice none 0 0) (.slice none 0 0)) := Rr1.out.go hb
  obtain ⟨S, hS⟩ : ∃ S, S = sz ++ sz' := ⟨_, rfl⟩
  obtain ⟨n, hn⟩ : ∃ n, n = sz.length + sz'.length := ⟨_, rfl⟩
  have HS : Hid (S = sz ++ sz' ∧ S.length = n ∧ n = sz.length + sz'.length) := ⟨hS, by rw [hS, hn, List.length_append], hn⟩
  have hn12 : n ≤ 12 := by omega
  have hln : sz.length ≤ n := by omega
  have hlI : (sz.length : Int) ≤ (n : Int) := by omega
  rw [← hn]
  rw [← hS] at hN
  have HM : Hid (MidC w1.heap.size w2.heap.size w2 g S gc) := hN.midc
  have hfault := fault_l g gc S n HS.out.2.1 (by omega) w2.heap.size w2 hN.ints.1
  have hz12 := hb.size
  clear hb hS hn hN
  go_wp2_with fail
  refine hfault.mono ?_
  rintro e w3 ⟨rfl, hw3⟩
  obtain rfl := hw3.symm
  clear hfault hw3
  by_cases he : errOf S = 0
  · obtain ⟨N, hN⟩ : ∃ N, N = (prod S).toNat := ⟨_, rfl⟩
    have hz := errOf_zero.1 he
    have h0N := prod_nonneg hz.2.1
    have HN : Hid ((N : Int) = prod S ∧ errOf S = 0 ∧ N = (prod S).toNat) := ⟨by omega, he, hN⟩
    have hN4 : N ≤ 4096 := by omega
    rw [he]
    clear he hN hz h0N
    have p0 := Pa2.out.c0
    have p1 := Pa2.out.c1
    have p2 := Pa2.out.c2
    have q0 := Qb2.out.c0
    have q1 := Qb2.out.c1
    have q2 := Qb2.out.c2
    by_cases hk : f = 8 ∨ f = 9
    · have hkd : decide (f = 8 ∨ f = 9) = true := by simp [hk]
      clear hk
      go_wp2_with fail
      refine (compares_any f w2).mono ?_
      rintro e w3 ⟨rfl, hw3⟩
      obtain rfl := hw3.symm
      clear hw3
      rw [hkd]
      have hk2 : f = 8 ∨ f = 9 := of_decide_eq_true hkd
      have HK : Hid (f = 8 ∨ f = 9) := hk2
      clear hk2
      clear hkd
      clear p0 p1 p2 q0 q1 q2
      obtain ⟨D, hD⟩ : ∃ D, D = otD f false sz dz true sz' dz' := ⟨_, rfl⟩
      have HD : Hid (D = otD f false sz dz true sz' dz' ∧ D.length = N ∧ ∀ k, k < N → nth D k = otC f false sz dz true sz' dz' (cr S k)) := ⟨hD, by rw [hD]; unfold otD; rw [← HS.out.1, TA_length]; exact HN.out.2.2.symm, fun k hk => by rw [hD]; unfold otD; rw [← HS.out.1, TA_nth (by rw [← HN.out.2.2]; exact hk)]⟩
      obtain ⟨B, hBB⟩ : ∃ B, B = w2.heap.size := ⟨_, rfl⟩
      obtain ⟨u, hu⟩ : ∃ u, u = w2.alloc (.cells #[.bool false, .slice g n gc, .slice none 0 0] 25) := ⟨_, rfl⟩
      have hus : u.heap.size = w2.heap.size + 1 := by rw [hu]; simp
      have HU : Hid (w2.alloc (.cells #[.bool false, .slice g n gc, .slice none 0 0] 25) = u ∧ w2.heap.size = B) := ⟨hu.symm, hBB.symm⟩
      have HUA : Hid (Abx u w.heap.size (.bool false) (.slice sa sz.length sc) (.slice da dz.length dc) ∧ Abx u (w.heap.size + 1) (.bool true) (.slice sa' sz'.length sc') (.slice da' dz'.length dc') ∧ Abx u (w.heap.size + 1 + 1) (.bool false) (.slice none 0 0) (.slice none 0 0) ∧ Abx u B (.bool false) (.slice g n gc) (.slice none 0 0) ∧ MidC w1.heap.size B u g S gc ∧ Below w.heap.size w u) := by
        rw [hu, hBB]
        exact ⟨Pa2.out.al _, Qb2.out.al _, Rr2.out.al _, Abx.new _ _ _ _, HM.out.al (Nat.le_refl _) _, HB2.out.alloc HB2.out.size _⟩
      have hBu : B < u.heap.size := by omega
      have hvB : w1.heap.size ≤ B := by omega
      have hw1 : w.heap.size + 1 + 1 < w1.heap.size := Rr1.out.lt
      have hcells := cells_l g gc S n N HS.out.2.1 HN.out.1.symm (by omega) HN.out.2.1 u.heap.size u (HUA.out.2.2.2.2.1.is (by omega)).1
      clear hD hBB hu hus hz12 Pa2 Qb2 Rr2 HB2 HM Pa1 Qb1 Rr1 HB1 Pa0 Qb0 Rr0 HB0
      go_wp2_with fail
      rw [HU.out.1]
      refine hcells.mono ?_
      rintro e v7 ⟨rfl, hv7⟩
      obtain rfl := hv7.symm
      clear hcells hv7
      go_wp2_with fail
      rw [HU.out.2]
      go_loopw [12] (fun i wq => ∃ (q : Nat) (v : Value), q ≤ N ∧ i = .int .i64 q ∧ (∀ i, i < q → otX f false sz dz true sz' dz' (cr S i) = 0) ∧ (Abx wq w.heap.size (.bool false) (.slice sa sz.length sc) (.slice da dz.length dc) ∧ Abx wq (w.heap.size + 1) (.bool true) (.slice sa' sz'.length sc') (.slice da' dz'.length dc') ∧ Abx wq (w.heap.size + 1 + 1) (.bool false) (.slice none 0 0) (.slice none 0 0) ∧ Abx wq B (.bool false) (.slice g n gc) v ∧ MidC w1.heap.size B wq g S gc ∧ wq.ownsRow u.heap.size 3 1 v (D.take q).length ((D.take q).map (Value.int .i64)) ∧ u.heap.size ≤ wq.heap.size ∧ Below w.heap.size w wq)) (fun i _ => N - (intOf i).toNat)
      case atStart => exact ⟨0, .slice none 0 0, Nat.zero_le _, rfl, fun i hi => absurd hi (Nat.not_lt_zero _), HUA.out.1, HUA.out.2.1, HUA.out.2.2.1, HUA.out.2.2.2.1, HUA.out.2.2.2.2.1, World.ownsRow_nil _ _ _ _, Nat.le_refl _, HUA.out.2.2.2.2.2⟩
      case round =>
        clear HUA HU
        obtain ⟨q, v, hqN, rfl, hok, hst⟩ := hrel
        by_cases hlq : q < N
        · obtain ⟨t, ht⟩ : ∃ t, t = cr S q := ⟨_, rfl⟩
          have hcr := (cr_fact HN.out.2.1 (i := q) (by rw [← HN.out.1]; omega)).1
          rw [← ht] at hcr
          have htl : t.length = n := by rw [insB_len hcr]; exact HS.out.2.1
          obtain ⟨Q, hQ⟩ : ∃ Q, Q = D.take q := ⟨_, rfl⟩
          rw [← hQ] at hst
          have HQ : Hid (Q.length = q ∧ D.take (q + 1) = Q ++ [nth D q]) := ⟨by rw [hQ, List.length_take, HD.out.2.1]; omega, by rw [hQ, take_snoc D q (by rw [HD.out.2.1]; exact hlq)]⟩
          have HOk : Hid (∀ i, i < q → otX f false sz dz true sz' dz' (cr S i) = 0) := hok
          have H0 : Hid (Abx wr w.heap.size (.bool false) (.slice sa sz.length sc) (.slice da dz.length dc) ∧ Abx wr (w.heap.size + 1) (.bool true) (.slice sa' sz'.length sc') (.slice da' dz'.length dc') ∧ Abx wr (w.heap.size + 1 + 1) (.bool false) (.slice none 0 0) (.slice none 0 0) ∧ Abx wr B (.bool false) (.slice g n gc) v ∧ MidC w1.heap.size B wr g S gc ∧ wr.ownsRow u.heap.size 3 1 v Q.length (Q.map (Value.int .i64)) ∧ u.heap.size ≤ wr.heap.size ∧ Below w.heap.size w wr) := hst
          have hco := coords_c g gc S n q HS.out.2.1 HN.out.2.1 (by rw [← HN.out.1]; omega) wr (hst.2.2.2.2.1.is (by have := hst.2.2.2.2.2.2.1; omega)).1
          rw [← ht] at hco
          clear hok hst hQ
          go_wp2_with fail
          refine hco.mono ?_
          rintro e w5 ⟨g2, rfl, hg2, hr2, hB1⟩
          have H1 : Hid (Abx w5 w.heap.size (.bool false) (.slice sa sz.length sc) (.slice da dz.length dc) ∧ Abx w5 (w.heap.size + 1) (.bool true) (.slice sa' sz'.length sc') (.slice da' dz'.length dc') ∧ Abx w5 (w.heap.size + 1 + 1) (.bool false) (.slice none 0 0) (.slice none 0 0) ∧ Abx w5 B (.bool false) (.slice g n gc) v ∧ MidC w1.heap.size B w5 g S gc ∧ w5.ownsRow u.heap.size 3 1 v Q.length (Q.map (Value.int .i64)) ∧ u.heap.size ≤ w5.heap.size ∧ Below w.heap.size w w5) := ⟨H0.out.1.go hB1, H0.out.2.1.go hB1, H0.out.2.2.1.go hB1, H0.out.2.2.2.1.go hB1, H0.out.2.2.2.2.1.go (by have := H0.out.2.2.2.2.2.2.1; omega) hB1, own_go H0.out.2.2.2.2.2.1 hB1, Nat.le_trans H0.out.2.2.2.2.2.2.1 hB1.size, H0.out.2.2.2.2.2.2.2.trans (hB1.mono H0.out.2.2.2.2.2.2.2.size)⟩
          have hg2l := hr2.lt
          have HG2 : Hid (w5.rowIs g2 3 n (fun j => .int .i64 (nth t j))) := hr2
          have hb1u : u.heap.size ≤ w5.heap.size := H1.out.2.2.2.2.2.2.1
          clear hco hB1 hr2 H0 hg2
          have hpp := ins_parts (s := sz) (s' := sz') (t := t) (by rw [← HS.out.1]; exact hcr)
          have hfa := flawE_zero HF.out.2.2.1
          have hfb := flawE_zero HF.out.2.2.2
          have hb1 := place_bd hpp.1
          have hb2 := place_bd hpp.2
          obtain ⟨P1, hP1⟩ : ∃ P : Nat, place sz (t.take sz.length) = P := ⟨(place sz (t.take sz.length)).toNat, by omega⟩
          obtain ⟨P2, hP2⟩ : ∃ P : Nat, place sz' (t.drop sz.length) = P := ⟨(place sz' (t.drop sz.length)).toNat, by omega⟩
          have hl1 : P1 < dz.length := by have := hfa.2.1; omega
          have hl2 : P2 < dz'.length := by have := hfb.2.1; omega
          obtain ⟨bd, od, rfl, hbd, hcd⟩ := HI.out.1.2.at hl1
          obtain ⟨be, oe, rfl, hbe, hce⟩ := HI.out.2.2.at hl2
          have hd1 := hcd P1 hl1
          have hd2 := hce P2 hl2
          obtain ⟨x, hx⟩ : ∃ x, x = nth dz P1 := ⟨_, rfl⟩
          obtain ⟨y, hy⟩ : ∃ y, y = nth dz' P2 := ⟨_, rfl⟩
          rw [← hx] at hd1
          rw [← hy] at hd2
          have HXY : Hid (otC f false sz dz true sz' dz' t = tcV f (false == true) x y ∧ otX f false sz dz true sz' dz' t = tcE f (false == true) x y ∧ In64 x ∧ In64 y) := by
            refine ⟨?_, ?_, by rw [hx]; exact HT.out.1 _, by rw [hy]; exact HT.out.2 _⟩
            · unfold otC cel; rw [hP1, hP2, Int.toNat_natCast, Int.toNat_natCast, ← hx, ← hy]
            · unfold otX cel; rw [hP1, hP2, Int.toNat_natCast, Int.toNat_natCast, ← hx, ← hy]
          have HWb : Hid (Below w.heap.size w w5) := H1.out.2.2.2.2.2.2.2
          have HX1 : Hid (IsInts w5.heap.size w5 (some ⟨g2, 0, none⟩) (t.take sz.length)) := .inr ⟨g2, 0, rfl, hg2l, fun j hj => by rw [List.length_take] at hj; rw [nth_take _ _ _ (by omega), Nat.zero_add]; exact HG2.out.cell (by omega)⟩
          have HX2 : Hid (IsInts w5.heap.size w5 (some ⟨g2, sz.length, none⟩) (t.drop sz.length)) := .inr ⟨g2, sz.length, rfl, hg2l, fun j hj => by rw [List.length_drop] at hj; rw [nth_drop12]; exact HG2.out.cell (by omega)⟩
          obtain ⟨AD, hAD⟩ : ∃ AD, (if n = sz.length then some (⟨g2, 0, none⟩ : Addr) else some ⟨g2, sz.length, none⟩) = AD := ⟨_, rfl⟩
          have HAI : Hid (IsInts w5.heap.size w5 AD (t.drop sz.length)) := by
            show IsInts _ _ _ _
            rw [← hAD]
            split
            · rename_i e; rw [List.drop_eq_nil_of_le (by omega)]; exact .inl rfl
            · exact HX2.out
          have HP : Hid (place sz (t.take sz.length) = P1 ∧ place sz' (t.drop sz.length) = P2 ∧ errOf sz = 0 ∧ errOf sz' = 0 ∧ insB sz (t.take sz.length) = true ∧ insB sz' (t.drop sz.length) = true ∧ (t.take sz.length).length = sz.length ∧ (t.drop sz.length).length = n - sz.length) := ⟨hP1, hP2, hfa.1, hfb.1, hpp.1, hpp.2, by rw [List.length_take]; omega, by rw [List.length_drop, htl]⟩
          have e1 : w5.cell? ⟨bd, od + P1, none⟩ = some (.int .i64 x) := (HWb.out.cell (p := ⟨bd, od + P1, none⟩) hbd).trans hd1
          have e2 : w5.cell? ⟨be, oe + P2, none⟩ = some (.int .i64 y) := (HWb.out.cell (p := ⟨be, oe + P2, none⟩) hbe).trans hd2
          clear hpp hfa hfb hb1 hb2 hP1 hP2 hcd hce hx hy hd1 hd2 hbd hbe
          have HI2 : Hid (IsInts w5.heap.size w5 sa sz ∧ IsInts w5.heap.size w5 sa' sz') := ⟨(HI.out.1.1.below HWb.out).mono HWb.out.size, (HI.out.2.1.below HWb.out).mono HWb.out.size⟩
          have a0 := H1.out.1.c0
          have a1 := H1.out.1.c1
          have a2 := H1.out.1.c2
          have b0 := H1.out.2.1.c0
          have b1 := H1.out.2.1.c1
          have b2 := H1.out.2.1.c2
          go_wp2_with fail
          refine anyC_begin (fun w' => w'.cell? ⟨w.heap.size, 0, none⟩ = some (.bool false) ∧ w'.cell? ⟨w.heap.size, 1, none⟩ = some (.slice sa sz.length sc) ∧ w'.cell? ⟨w.heap.size, 2, none⟩ = some (.slice (some ⟨bd, od, none⟩) dz.length dc) ∧ w'.cell? ⟨w.heap.size + 1, 0, none⟩ = some (.bool true) ∧ w'.cell? ⟨w.heap.size + 1, 1, none⟩ = some (.slice sa' sz'.length sc') ∧ w'.cell? ⟨w.heap.size + 1, 2, none⟩ = some (.slice (some ⟨be, oe, none⟩) dz'.length dc') ∧ w'.cell? ⟨bd, od + P1, none⟩ = some (.int .i64 x) ∧ w'.cell? ⟨be, oe + P2, none⟩ = some (.int .i64 y)) 13 #[false, false, false, false, false, false, false, false, false, false, false, false, false] (by kernel_rfl) rfl rfl ?_
          refine anyC_put 0 67 ?rv26 #[true, false, false, false, false, false, false, false, false, false, false, false, false] rfl rfl rfl (by kernel_rfl) (by kernel_rfl) (by kernel_rfl) (fun _ _ _ h => h) ?ry26 (⟨a0, a1, a2, b0, b1, b2, e1, e2⟩) ?rm26
          case ry26 => first | exact Or.inl ⟨by rfl, by intro w'; go_simp; first | done | rfl⟩
          case rm26 =>
          simp only [Act.put, List.setIfInBounds_toArray, List.set_cons_zero, List.set_cons_succ]
          refine anyC_take 1 68 ?rv27 #[true, true, false, false, false, false, false, false, false, false, false, false, false] rfl rfl rfl (by kernel_rfl) (by kernel_rfl) (by kernel_rfl) (fun _ _ _ h => h) ?ry27 (⟨a0, a1, a2, b0, b1, b2, e1, e2⟩) ?rm27
          case ry27 => first | exact Or.inl ⟨by rfl, by intro w' hw'; (try dsimp only at hw'); go_simp; first | done | rfl⟩
          case rm27 =>
          simp only [Act.put, List.setIfInBounds_toArray, List.set_cons_zero, List.set_cons_succ]
          refine anyC_put 2 69 ?rv28 #[true, true, true, false, false, false, false, false, false, false, false, false, false] rfl rfl rfl (by kernel_rfl) (by kernel_rfl) (by kernel_rfl) (fun _ _ _ h => h) ?ry28 (⟨a0, a1, a2, b0, b1, b2, e1, e2⟩) ?rm28
          case ry28 => first | exact Or.inl ⟨by rfl, by intro w'; go_simp; first | done | rfl⟩
          case rm28 =>
          simp only [Act.put, List.setIfInBounds_toArray, List.set_cons_zero, List.set_cons_succ]
          refine anyC_take 3 70 ?rv29 #[true, true, true, true, false, false, false, false, false, false, false, false, false] rfl rfl rfl (by kernel_rfl) (by kernel_rfl) (by kernel_rfl) (fun _ _ _ h => h) ?ry29 (⟨a0, a1, a2, b0, b1, b2, e1, e2⟩) ?rm29
          case ry29 => first | exact Or.inl ⟨by rfl, by intro w' hw'; (try dsimp only at hw'); go_simp; first | done | rfl⟩
          case rm29 =>
          simp only [Act.put, List.setIfInBounds_toArray, List.set_cons_zero, List.set_cons_succ]
          refine anyC_put 4 71 ?rv30 #[true, true, true, true, true, false, false, false, false, false, false, false, false] rfl rfl rfl (by kernel_rfl) (by kernel_rfl) (by kernel_rfl) (fun _ _ _ h => h) ?ry30 (⟨a0, a1, a2, b0, b1, b2, e1, e2⟩) ?rm30
          case ry30 => first | exact Or.inl ⟨by rfl, by intro w'; go_simp; first | done | rfl⟩
          case rm30 =>
          simp only [Act.put, List.setIfInBounds_toArray, List.set_cons_zero, List.set_cons_succ]
          refine anyC_put 5 72 ?rv31 #[true, true, true, true, true, true, false, false, false, false, false, false, false] rfl rfl rfl (by kernel_rfl) (by kernel_rfl) (by kernel_rfl) (fun _ _ _ h => h) ?ry31 (⟨a0, a1, a2, b0, b1, b2, e1, e2⟩) ?rm31
          case ry31 => first | exact Or.inl ⟨by rfl, by intro w'; go_simp; first | done | rfl⟩
          case rm31 =>
          simp only [Act.put, List.setIfInBounds_toArray, List.set_cons_zero, List.set_cons_succ]
          refine anyC_take 6 73 ?rv32 #[true, true, true, true, true, true, true, false, false, false, false, false, false] rfl rfl rfl (by kernel_rfl) (by kernel_rfl) (by kernel_rfl) (fun _ _ _ h => h) ?ry32 (⟨a0, a1, a2, b0, b1, b2, e1, e2⟩) ?rm32
          case ry32 => first | exact Or.inl ⟨by rfl, by intro w' hw'; (try dsimp only at hw'); go_simp; first | done | rfl⟩
          case rm32 =>
          simp only [Act.put, List.setIfInBounds_toArray, List.set_cons_zero, List.set_cons_succ]
          refine anyC_put 7 74 ?rv33 #[true, true, true, true, true, true, true, true, false, false, false, false, false] rfl rfl rfl (by kernel_rfl) (by kernel_rfl) (by kernel_rfl) (fun _ _ _ h => h) ?ry33 (⟨a0, a1, a2, b0, b1, b2, e1, e2⟩) ?rm33
          case ry33 => first | exact Or.inl ⟨by rfl, by intro w'; go_simp; first | done | rfl⟩
          case rm33 =>
          simp only [Act.put, List.setIfInBounds_toArray, List.set_cons_zero, List.set_cons_succ]
          refine anyC_put 8 75 ?rv34 #[true, true, true, true, true, true, true, true, true, false, false, false, false] rfl rfl rfl (by kernel_rfl) (by kernel_rfl) (by kernel_rfl) (fun _ _ _ h => h) ?ry34 (⟨a0, a1, a2, b0, b1, b2, e1, e2⟩) ?rm34
          case ry34 => first | exact Or.inl ⟨by rfl, by intro w'; go_simp; first | done | rfl⟩
          case rm34 =>
          simp only [Act.put, List.setIfInBounds_toArray, List.set_cons_zero, List.set_cons_succ]
          refine anyC_one 9 #[true, true, true, true, true, true, true, true, true, true, false, false, false] (by kernel_rfl) rfl rfl (fun K hK => ?_)
          go_simp
          try rw [hAD]
          go_wp2_with (go_at_call 16; refine (where_l sa sc sz sz.length rfl (some ⟨g2, 0, none⟩) _ _ (t.take sz.length) HP.out.2.2.2.2.2.2.1 P1 HP.out.1 (by omega) HP.out.2.2.1 HP.out.2.2.2.2.1 w5.heap.size _ (HI2.out.1.below ((Below.refl _ w5).drew)) (HX1.out.below ((Below.refl _ w5).drew))).mono ?_; rintro e yw ⟨rfl, hyw⟩; obtain rfl := hyw.symm; clear hyw)
          refine hK.out _ _ (⟨a0, a1, a2, b0, b1, b2, e1, e2⟩) ?_
          clear hK K
          refine anyC_put 10 77 ?rv36 #[true, true, true, true, true, true, true, true, true, true, true, false, false] rfl rfl rfl (by kernel_rfl) (by kernel_rfl) (by kernel_rfl) (fun _ _ _ h => h) ?ry36 (⟨a0, a1, a2, b0, b1, b2, e1, e2⟩) ?rm36
          case ry36 => first | exact Or.inl ⟨by rfl, by intro w'; go_simp; first | done | rfl⟩
          case rm36 =>
          simp only [Act.put, List.setIfInBounds_toArray, List.set_cons_zero, List.set_cons_succ]
          refine anyC_take 11 78 ?rv37 #[true, true, true, true, true, true, true, true, true, true, true, true, false] rfl rfl rfl (by kernel_rfl) (by kernel_rfl) (by kernel_rfl) (fun _ _ _ h => h) ?ry37 (⟨a0, a1, a2, b0, b1, b2, e1, e2⟩) ?rm37
          case ry37 => first | exact Or.inl ⟨by rfl, by intro w' hw'; (try dsimp only at hw'); go_simp; first | done | rfl⟩
          case rm37 =>
          simp only [Act.put, List.setIfInBounds_toArray, List.set_cons_zero, List.set_cons_succ]
          refine anyC_put 12 14 ?rv38 #[true, true, true, true, true, true, true, true, true, true, true, true, true] rfl rfl rfl (by kernel_rfl) (by kernel_rfl) (by kernel_rfl) (fun _ _ _ h => h) ?ry38 (⟨a0, a1, a2, b0, b1, b2, e1, e2⟩) ?rm38
          case ry38 => first | exact Or.inl ⟨by rfl, by intro w'; go_simp; first | done | rfl⟩
          case rm38 =>
          simp only [Act.put, List.setIfInBounds_toArray, List.set_cons_zero, List.set_cons_succ]
          refine anyC_done (by kernel_rfl) ?_
          obtain ⟨w6, hw6⟩ : ∃ w6, w6 = w5.drew := ⟨_, rfl⟩
          rw [← hw6]
          have hb56 : Below w5.heap.size w5 w6 := by rw [hw6]; exact (Below.refl _ w5).drew
          replace a0 := cell_to a0 hb56
          replace a1 := cell_to a1 hb56
          replace a2 := cell_to a2 hb56
          replace b0 := cell_to b0 hb56
          replace b1 := cell_to b1 hb56
          replace b2 := cell_to b2 hb56
          replace e1 := cell_to e1 hb56
          replace e2 := cell_to e2 hb56
          clear hw6
          go_wp2_with fail
          refine anyC_begin (fun w' => w'.cell? ⟨w.heap.size, 0, none⟩ = some (.bool false) ∧ w'.cell? ⟨w.heap.size, 1, none⟩ = some (.slice sa sz.length sc) ∧ w'.cell? ⟨w.heap.size, 2, none⟩ = some (.slice (some ⟨bd, od, none⟩) dz.length dc) ∧ w'.cell? ⟨w.heap.size + 1, 0, none⟩ = some (.bool true) ∧ w'.cell? ⟨w.heap.size + 1, 1, none⟩ = some (.slice sa' sz'.length sc') ∧ w'.cell? ⟨w.heap.size + 1, 2, none⟩ = some (.slice (some ⟨be, oe, none⟩) dz'.length dc') ∧ w'.cell? ⟨bd, od + P1, none⟩ = some (.int .i64 x) ∧ w'.cell? ⟨be, oe + P2, none⟩ = some (.int .i64 y)) 13 #[false, false, false, false, false, false, false, false, false, false, false, false, false] (by kernel_rfl) rfl rfl ?_
          refine anyC_put 0 79 ?rv39 #[true, false, false, false, false, false, false, false, false, false, false, false, false] rfl rfl rfl (by kernel_rfl) (by kernel_rfl) (by kernel_rfl) (fun _ _ _ h => h) ?ry39 (⟨a0, a1, a2, b0, b1, b2, e1, e2⟩) ?rm39
          case ry39 => first | exact Or.inl ⟨by rfl, by intro w'; go_simp; first | done | rfl⟩
          case rm39 =>
          simp only [Act.put, List.setIfInBounds_toArray, List.set_cons_zero, List.set_cons_succ]
          refine anyC_take 1 80 ?rv40 #[true, true, false, false, false, false, false, false, false, false, false, false, false] rfl rfl rfl (by kernel_rfl) (by kernel_rfl) (by kernel_rfl) (fun _ _ _ h => h) ?ry40 (⟨a0, a1, a2, b0, b1, b2, e1, e2⟩) ?rm40
          case ry40 => first | exact Or.inl ⟨by rfl, by intro w' hw'; (try dsimp only at hw'); go_simp; first | done | rfl⟩
          case rm40 =>
          simp only [Act.put, List.setIfInBounds_toArray, List.set_cons_zero, List.set_cons_succ]
          refine anyC_put 2 81 ?rv41 #[true, true, true, false, false, false, false, false, false, false, false, false, false] rfl rfl rfl (by kernel_rfl) (by kernel_rfl) (by kernel_rfl) (fun _ _ _ h => h) ?ry41 (⟨a0, a1, a2, b0, b1, b2, e1, e2⟩) ?rm41
          case ry41 => first | exact Or.inl ⟨by rfl, by intro w'; go_simp; first | done | rfl⟩
          case rm41 =>
          simp only [Act.put, List.setIfInBounds_toArray, List.set_cons_zero, List.set_cons_succ]
          refine anyC_take 3 82 ?rv42 #[true, true, true, true, false, false, false, false, false, false, false, false, false] rfl rfl rfl (by kernel_rfl) (by kernel_rfl) (by kernel_rfl) (fun _ _ _ h => h) ?ry42 (⟨a0, a1, a2, b0, b1, b2, e1, e2⟩) ?rm42
          case ry42 => first | exact Or.inl ⟨by rfl, by intro w' hw'; (try dsimp only at hw'); go_simp; first | done | rfl⟩
          case rm42 =>
          simp only [Act.put, List.setIfInBounds_toArray, List.set_cons_zero, List.set_cons_succ]
          refine anyC_put 4 83 ?rv43 #[true, true, true, true, true, false, false, false, false, false, false, false, false] rfl rfl rfl (by kernel_rfl) (by kernel_rfl) (by kernel_rfl) (fun _ _ _ h => h) ?ry43 (⟨a0, a1, a2, b0, b1, b2, e1, e2⟩) ?rm43
          case ry43 => first | exact Or.inl ⟨by rfl, by intro w'; go_simp; first | done | rfl⟩
          case rm43 =>
          simp only [Act.put, List.setIfInBounds_toArray, List.set_cons_zero, List.set_cons_succ]
          refine anyC_put 5 84 ?rv44 #[true, true, true, true, true, true, false, false, false, false, false, false, false] rfl rfl rfl (by kernel_rfl) (by kernel_rfl) (by kernel_rfl) (fun _ _ _ h => h) ?ry44 (⟨a0, a1, a2, b0, b1, b2, e1, e2⟩) ?rm44
          case ry44 => first | exact Or.inl ⟨by rfl, by intro w'; go_simp; first | done | rfl⟩
          case rm44 =>
          simp only [Act.put, List.setIfInBounds_toArray, List.set_cons_zero, List.set_cons_succ]
          refine anyC_take 6 85 ?rv45 #[true, true, true, true, true, true, true, false, false, false, false, false, false] rfl rfl rfl (by kernel_rfl) (by kernel_rfl) (by kernel_rfl) (fun _ _ _ h => h) ?ry45 (⟨a0, a1, a2, b0, b1, b2, e1, e2⟩) ?rm45
          case ry45 => first | exact Or.inl ⟨by rfl, by intro w' hw'; (try dsimp only at hw'); go_simp; first | done | rfl⟩
          case rm45 =>
          simp only [Act.put, List.setIfInBounds_toArray, List.set_cons_zero, List.set_cons_succ]
          refine anyC_put 7 86 ?rv46 #[true, true, true, true, true, true, true, true, false, false, false, false, false] rfl rfl rfl (by kernel_rfl) (by kernel_rfl) (by kernel_rfl) (fun _ _ _ h => h) ?ry46 (⟨a0, a1, a2, b0, b1, b2, e1, e2⟩) ?rm46
          case ry46 => first | exact Or.inl ⟨by rfl, by intro w'; go_simp; first | done | rfl⟩
          case rm46 =>
          simp only [Act.put, List.setIfInBounds_toArray, List.set_cons_zero, List.set_cons_succ]
          refine anyC_put 8 87 ?rv47 #[true, true, true, true, true, true, true, true, true, false, false, false, false] rfl rfl rfl (by kernel_rfl) (by kernel_rfl) (by kernel_rfl) (fun _ _ _ h => h) ?ry47 (⟨a0, a1, a2, b0, b1, b2, e1, e2⟩) ?rm47
          case ry47 => first | exact Or.inl ⟨by rfl, by intro w'; go_simp; first | done | rfl⟩
          case rm47 =>
          simp only [Act.put, List.setIfInBounds_toArray, List.set_cons_zero, List.set_cons_succ]
          refine anyC_one 9 #[true, true, true, true, true, true, true, true, true, true, false, false, false] (by kernel_rfl) rfl rfl (fun K hK => ?_)
          go_simp
          try rw [hAD]
          go_wp2_with (go_at_call 16; refine (where_l sa' sc' sz' sz'.length rfl AD _ _ (t.drop sz.length) HP.out.2.2.2.2.2.2.2 P2 HP.out.2.1 (by omega) HP.out.2.2.2.1 HP.out.2.2.2.2.2.1 w5.heap.size _ (HI2.out.2.below hb56.drew) (HAI.out.below hb56.drew)).mono ?_; rintro e yw ⟨rfl, hyw⟩; obtain rfl := hyw.symm; clear hyw)
          refine hK.out _ _ (⟨a0, a1, a2, b0, b1, b2, e1, e2⟩) ?_
          clear hK K
          refine anyC_put 10 89 ?rv49 #[true, true, true, true, true, true, true, true, true, true, true, false, false] rfl rfl rfl (by kernel_rfl) (by kernel_rfl) (by kernel_rfl) (fun _ _ _ h => h) ?ry49 (⟨a0, a1, a2, b0, b1, b2, e1, e2⟩) ?rm49
          case ry49 => first | exact Or.inl ⟨by rfl, by intro w'; go_simp; first | done | rfl⟩
          case rm49 =>
          simp only [Act.put, List.setIfInBounds_toArray, List.set_cons_zero, List.set_cons_succ]
          refine anyC_take 11 90 ?rv50 #[true, true, true, true, true, true, true, true, true, true, true, true, false] rfl rfl rfl (by kernel_rfl) (by kernel_rfl) (by kernel_rfl) (fun _ _ _ h => h) ?ry50 (⟨a0, a1, a2, b0, b1, b2, e1, e2⟩) ?rm50
          case ry50 => first | exact Or.inl ⟨by rfl, by intro w' hw'; (try dsimp only at hw'); go_simp; first | done | rfl⟩
          case rm50 =>
          simp only [Act.put, List.setIfInBounds_toArray, List.set_cons_zero, List.set_cons_succ]
          refine anyC_put 12 15 ?rv51 #[true, true, true, true, true, true, true, true, true, true, true, true, true] rfl rfl rfl (by kernel_rfl) (by kernel_rfl) (by kernel_rfl) (fun _ _ _ h => h) ?ry51 (⟨a0, a1, a2, b0, b1, b2, e1, e2⟩) ?rm51
          case ry51 => first | exact Or.inl ⟨by rfl, by intro w'; go_simp; first | done | rfl⟩
          case rm51 =>
          simp only [Act.put, List.setIfInBounds_toArray, List.set_cons_zero, List.set_cons_succ]
          refine anyC_done (by kernel_rfl) ?_
          obtain ⟨w7, hw7⟩ : ∃ w7, w7 = w6.drew := ⟨_, rfl⟩
          rw [← hw7]
          have hb57 : Below w5.heap.size w5 w7 := by rw [hw7]; exact hb56.drew
          replace a0 := cell_to a0 (show Below w6.heap.size w6 w7 by rw [hw7]; exact (Below.refl _ w6).drew)
          replace a1 := cell_to a1 (show Below w6.heap.size w6 w7 by rw [hw7]; exact (Below.refl _ w6).drew)
          replace a2 := cell_to a2 (show Below w6.heap.size w6 w7 by rw [hw7]; exact (Below.refl _ w6).drew)
          replace b0 := cell_to b0 (show Below w6.heap.size w6 w7 by rw [hw7]; exact (Below.refl _ w6).drew)
          replace b1 := cell_to b1 (show Below w6.heap.size w6 w7 by rw [hw7]; exact (Below.refl _ w6).drew)
          replace b2 := cell_to b2 (show Below w6.heap.size w6 w7 by rw [hw7]; exact (Below.refl _ w6).drew)
          replace e1 := cell_to e1 (show Below w6.heap.size w6 w7 by rw [hw7]; exact (Below.refl _ w6).drew)
          replace e2 := cell_to e2 (show Below w6.heap.size w6 w7 by rw [hw7]; exact (Below.refl _ w6).drew)
          have H7 : Hid (Abx w7 w.heap.size (.bool false) (.slice sa sz.length sc) (.slice (some ⟨bd, od, none⟩) dz.length dc) ∧ Abx w7 (w.heap.size + 1) (.bool true) (.slice sa' sz'.length sc') (.slice (some ⟨be, oe, none⟩) dz'.length dc') ∧ Abx w7 (w.heap.size + 1 + 1) (.bool false) (.slice none 0 0) (.slice none 0 0) ∧ Abx w7 B (.bool false) (.slice g n gc) v ∧ MidC w1.heap.size B w7 g S gc ∧ w7.ownsRow u.heap.size 3 1 v Q.length (Q.map (Value.int .i64)) ∧ u.heap.size ≤ w7.heap.size ∧ Below w.heap.size w w7) := ⟨H1.out.1.go hb57, H1.out.2.1.go hb57, H1.out.2.2.1.go hb57, H1.out.2.2.2.1.go hb57, H1.out.2.2.2.2.1.go (by have := H1.out.2.2.2.2.2.2.1; omega) hb57, own_go H1.out.2.2.2.2.2.1 hb57, Nat.le_trans H1.out.2.2.2.2.2.2.1 hb57.size, H1.out.2.2.2.2.2.2.2.trans (hb57.mono H1.out.2.2.2.2.2.2.2.size)⟩
          clear hw7 hb56 hb57 H1 e1 e2
          go_wp2_with fail
          refine (twocells_any f false x true y HXY.out.2.2.1 HXY.out.2.2.2 w7).mono ?_
          rintro e w8 ⟨rfl, hw8⟩
          obtain rfl := hw8.symm
          clear hw8 a0 a1 a2 b0 b1 b2
          obtain ⟨E, hE⟩ : ∃ E, E = tcE f (false == true) x y := ⟨_, rfl⟩
          obtain ⟨Y, hY⟩ : ∃ Y, Y = tcV f (false == true) x y := ⟨_, rfl⟩
          have HEY : Hid (otC f false sz dz true sz' dz' t = Y ∧ otX f false sz dz true sz' dz' t = E ∧ (E = 0 ∨ E = 6)) := ⟨by rw [hY]; exact HXY.out.1, by rw [hE]; exact HXY.out.2.1, by rw [hE]; exact tcE_cell HF.out.1 _ _ _⟩
          rw [← hE, ← hY]
          clear hE hY
          by_cases hq : E = 0
          · have t0' : (E != 0) = false := by simp [hq]
            have HV : Hid (Y = nth D q) := by show _ = _; rw [HD.out.2.2 q hlq, ← ht]; exact HEY.out.1.symm
            have HO : Hid (otX f false sz dz true sz' dz' (cr S q) = 0) := by show _ = _; rw [← ht, HEY.out.2.1]; exact hq
            obtain ⟨X, hX⟩ : ∃ X, X = Y := ⟨_, rfl⟩
            rw [← hX] at HV ⊢
            have HN9 : Hid ((w7.alloc (.cells #[.int .i64 X] 3)).heap[w7.heap.size]? = some (.cells #[.int .i64 X] 3 (0, 0))) := World.alloc_heap_new _ _
            have o2 := H7.out.2.2.2.1.c2
            have o3 := (H7.out.2.2.2.1.al (.cells #[.int .i64 X] 3)).c2
            have hsW := H7.out.2.2.2.2.2.2.1
            clear hq hX
            go_wp2_with (at_builtin; refine app_list rfl _ _ rfl _ u.heap.size w7.heap.size v Q X rfl rfl (H7.out.2.2.2.2.2.1.alloc _) HN9.out (by rw [HQ.out.1]; omega) (by simp; omega) ?_; intro g7 gc7 w7 ho7 hB7; have HO7 : Hid (Abx w7 B (.bool false) (.slice g n gc) v) := (H7.out.2.2.2.1.al _).bel hB7 (by omega); have o5 := HO7.out.c2; have of5 := HO7.out.fr 2)
            have hz7 := hB7.size
            simp at hz7
            refine ⟨⟨q + 1, .slice (some ⟨g7, 0, none⟩) (Q.length + 1) gc7, by omega, by go_num, ?_, ((H7.out.1.al _).bel hB7 (by omega)).ot (by show w.heap.size ≠ B; omega) _, ((H7.out.2.1.al _).bel hB7 (by omega)).ot (by show w.heap.size + 1 ≠ B; omega) _, ((H7.out.2.2.1.al _).bel hB7 (by omega)).ot (by show w.heap.size + 1 + 1 ≠ B; omega) _, HO7.out.s2 _, ?_, ?_, by simp [World.setCell]; omega, ?_⟩, by simp [intOf]; omega⟩
            · intro i hi
              by_cases e : i = q
              · rw [e]; exact HO.out
              · exact HOk.out i (by omega)
            · exact MidC.s1 ⟨((H7.out.2.2.2.2.1.1.al (by omega) _).bel (hB7.mono (by omega))), H7.out.2.2.2.2.1.2⟩ (p := ⟨B, 2, none⟩) (.inr (Nat.le_refl _)) _
            · rw [HQ.out.2, ← HV.out, List.length_append, List.length_singleton]
              exact ownsRow_setCell_below ho7 (by show B < u.heap.size; omega) _
            · exact ((H7.out.2.2.2.2.2.2.2.alloc H7.out.2.2.2.2.2.2.2.size _).trans (hB7.mono (by omega))).setCell (p := ⟨B, 2, none⟩) (by show w.heap.size ≤ B; omega) _
          · have t0' : (E != 0) = true := by simp [hq]
            have hsix : E = 6 := HEY.out.2.2.resolve_left hq
            have HE : Hid (otE f false sz dz true sz' dz' = 6) := by
              show _ = _
              unfold otE
              rw [if_neg HF.out.1, if_neg (not_not_intro HF.out.2.1), ← HS.out.1, if_neg (not_not_intro HN.out.2.1), if_neg (fun h => by have := HK.out; omega), if_neg fun h2 => hq ?_]
              have := (okT_iff HN.out.2.1).1 h2 t hcr
              rwa [HEY.out.2.1] at this
            rw [hsix] at t0' ⊢
            have HRR : Hid (Abx w7 (w.heap.size + 1 + 1) (.bool false) (.slice none 0 0) (.slice none 0 0) ∧ Below w.heap.size w w7) := ⟨H7.out.2.2.1, H7.out.2.2.2.2.2.2.2⟩
            clear hq hsix
            have r0 := HRR.out.1.c0
            have r1 := HRR.out.1.c1
            have r2 := HRR.out.1.c2
            have f0 := HRR.out.1.fr 0
            have f1 := HRR.out.1.fr 1
            have f2 := HRR.out.1.fr 2
            go_wp2_with fail
            have FF := HRR.out.1.set3 (.bool false) (.slice none 0 0) (.slice none 0 0)
            have z0 := FF.c0
            have z1 := FF.c1
            have z2 := FF.c2
            exact bodyPost_ret (v := .tuple #[.agg #[.bool false, .slice none 0 0, .slice none 0 0], .int .i64 6]) (by simp [results, Tryd.results5, go_sem, z0, z1, z2]) rfl (ur12_no HE.out (by decide) (bel_set3 HRR.out.2 (by omega) _ _ _))
        · obtain rfl : q = N := by omega
          have HX : Hid (otE f false sz dz true sz' dz' = 0) := by
            show _ = _
            unfold otE
            rw [if_neg HF.out.1, if_neg (not_not_intro HF.out.2.1), ← HS.out.1, if_neg (not_not_intro HN.out.2.1), if_neg (fun h => by have := HK.out; omega), if_pos ((okT_iff HN.out.2.1).2 fun t ht => ?_)]
            have hc := cr_place HN.out.2.1 ht
            have := hok (place S t).toNat (by rw [← HN.out.1] at hc; simpa using hc.2)
            rwa [hc.1] at this
          have htt : D.take q = D := List.take_of_length_le (by rw [HD.out.2.1]; exact Nat.le_refl _)
          rw [htt] at hst
          obtain ⟨hA, hA', hR, hO, hM, hown, hsz, hB⟩ := hst
          obtain ⟨g1, gc1, rfl, hN1⟩ := own_cap hown
          have HQ : Hid (Abx wr (w.heap.size + 1 + 1) (.bool false) (.slice none 0 0) (.slice none 0 0) ∧ NewC u.heap.size wr g1 D gc1 ∧ MidC w1.heap.size B wr g S gc ∧ u.heap.size ≤ wr.heap.size ∧ Below w.heap.size w wr) := ⟨hR, hN1, hM, hsz, hB⟩
          have o0 := hO.c0
          have o1 := hO.c1
          have o2 := hO.c2
          have r0 := hR.c0
          have r1 := hR.c1
          have r2 := hR.c2
          have f0 := hR.fr 0
          have f1 := hR.fr 1
          have f2 := hR.fr 2
          clear hown htt hA hA' hR hO hM hok hsz hB hN1
          go_wp2_with fail
          have FF := HQ.out.1.set3 (.bool false) (.slice g n gc) (.slice g1 D.length gc1)
          have q0 := FF.c0
          have q1 := FF.c1
          have q2 := FF.c2
          refine bodyPost_ret (v := .tuple #[.agg #[.bool false, .slice g n gc, .slice g1 D.length gc1], .int .i64 0]) (by simp [results, Tryd.results5, go_sem, q0, q1, q2]) rfl ?_
          have hX := ((HQ.out.2.2.1.1.new (by have := HQ.out.2.2.2.1; omega)).set3 (b := w.heap.size + 1 + 1) (by omega) (.bool false) (.slice g n gc) (.slice g1 D.length gc1)).low (lo' := w.heap.size) (by omega)
          have hY := (HQ.out.2.1.1.set3 (b := w.heap.size + 1 + 1) (by omega) (.bool false) (.slice g n gc) (.slice g1 D.length gc1)).low (lo' := w.heap.size) (by omega)
          have hU := ur12_ok (e := otE f false sz dz true sz' dz') (w := w) HX.out (S := S) (D := D) (xc := gc) (yc := gc1) HS.out.2.1 rfl hX hY (bel_set3 HQ.out.2.2.2.2 (b := w.heap.size + 1 + 1) (by omega) (.bool false) (.slice g n gc) (.slice g1 D.length gc1))
          rw [← HS.out.1, ← HD.out.1]
          exact hU
    · have hkd : decide (f = 8 ∨ f = 9) = false := by simp [hk]
      have HE : Hid (otE f false sz dz true sz' dz' = 6) := by
        show _ = _
        unfold otE
        rw [if_neg HF.out.1, if_neg (not_not_intro HF.out.2.1), if_neg (by rw [← HS.out.1]; exact not_not_intro HN.out.2.1), if_pos ⟨by simp, by omega⟩]
      clear hk
      go_wp2_with fail
      refine (compares_any f w2).mono ?_
      rintro e w3 ⟨rfl, hw3⟩
      obtain rfl := hw3.symm
      clear hw3
      rw [hkd]
      clear hkd
      clear p0 p1 p2 q0 q1 q2
      have r0 := Rr2.out.c0
      have r1 := Rr2.out.c1
      have r2 := Rr2.out.c2
      have f0 := Rr2.out.fr 0
      have f1 := Rr2.out.fr 1
      have f2 := Rr2.out.fr 2
      go_wp2_with fail
      have FF := Rr2.out.set3 (.bool false) (.slice none 0 0) (.slice none 0 0)
      have z0 := FF.c0
      have z1 := FF.c1
      have z2 := FF.c2
      exact bodyPost_ret (v := .tuple #[.agg #[.bool false, .slice none 0 0, .slice none 0 0], .int .i64 6]) (by simp [results, Tryd.results5, go_sem, z0, z1, z2]) rfl (ur12_no HE.out (by decide) (bel_set3 HB2.out (by omega) _ _ _))
  · have HE : Hid (otE f false sz dz true sz' dz' = errOf S) := by show _ = _; unfold otE; rw [if_neg HF.out.1, if_neg (not_not_intro HF.out.2.1), ← HS.out.1, if_pos he]
    have HNz : Hid (errOf S ≠ 0) := he
    have t0 : (errOf S != 0) = true := by simp [he]
    clear he
    have r0 := Rr2.out.c0
    have r1 := Rr2.out.c1
    have r2 := Rr2.out.c2
    have f0 := Rr2.out.fr 0
    have f1 := Rr2.out.fr 1
    have f2 := Rr2.out.fr 2
    go_wp2_with fail
    have FF := Rr2.out.set3 (.bool false) (.slice none 0 0) (.slice none 0 0)
    have z0 := FF.c0
    have z1 := FF.c1
    have z2 := FF.c2
    exact bodyPost_ret (v := .tuple #[.agg #[.bool false, .slice none 0 0, .slice none 0 0], .int .i64 (errOf S)]) (by simp [results, Tryd.results5, go_sem, z0, z1, z2]) rfl (ur12_no HE.out HNz.out (bel_set3 HB2.out (by omega) _ _ _))
set_option maxRecDepth 100000 in
set_option maxHeartbeats 8000000 in
theorem outered_ff (f : Int) (sa : Option Addr) (sc : Nat) (sz : List Int) (da : Option Addr) (dc : Nat) (dz : List Int) (sa' : Option Addr) (sc' : Nat) (sz' : List Int) (da' : Option Addr) (dc' : Nat) (dz' : List Int) (h1 : sz.length ≤ 9223372036854775807) (h2 : dz.length ≤ 9223372036854775807) (h1' : sz'.length ≤ 9223372036854775807) (h2' : dz'.length ≤ 9223372036854775807) (w : World) (hs : IsInts w.heap.size w sa sz) (hd : IsInts w.heap.size w da dz) (hs' : IsInts w.heap.size w sa' sz') (hd' : IsInts w.heap.size w da' dz') (T : ∀ j, In64 (nth dz j)) (T' : ∀ j, In64 (nth dz' j)) (hf : ¬ (f < 1 ∨ 16 < f)) (hw0 : flawsE false sz dz false sz' dz' = 0) :
    Calls Tryd.prog 5 #[.int .i64 f, .agg #[.bool false, .slice sa sz.length sc, .slice da dz.length dc], .agg #[.bool false, .slice sa' sz'.length sc', .slice da' dz'.length dc']] w (UR (otE f false sz dz false sz' dz') false (otS13 f false sz dz false sz' dz') (otD13 f false sz dz false sz' dz') w) := by
  unfold otS13 otD13
  have hlo : ¬ f < 1 := by omega
  have hhi : ¬ 16 < f := by omega
  obtain ⟨hfa, hfb⟩ := flawsE_zero.1 hw0
  have HF : Hid (¬ (f < 1 ∨ 16 < f) ∧ flawsE false sz dz false sz' dz' = 0 ∧ flawE false sz dz = 0 ∧ flawE false sz' dz' = 0) := ⟨hf, hw0, hfa, hfb⟩
  have hl6 := (errOf_zero.1 (flawE_zero hfa).1).1
  have hl6' := (errOf_zero.1 (flawE_zero hfb).1).1
  clear hf hw0 hfa hfb
  have HI : Hid ((IsInts w.heap.size w sa sz ∧ IsInts w.heap.size w da dz) ∧ (IsInts w.heap.size w sa' sz' ∧ IsInts w.heap.size w da' dz')) := ⟨⟨hs, hd⟩, hs', hd'⟩
  have HT : Hid ((∀ j, In64 (nth dz j)) ∧ ∀ j, In64 (nth dz' j)) := ⟨T, T'⟩
  have pa := ((Abx.new w (.bool false) (.slice sa sz.length sc) (.slice da dz.length dc)).al (.cells #[.bool false, .slice sa' sz'.length sc', .slice da' dz'.length dc'] 25)).al (.cells #[.bool false, .slice none 0 0, .slice none 0 0] 25)
  have qa := (Abx.new1 w (.cells #[.bool false, .slice sa sz.length sc, .slice da dz.length dc] 25) (.bool false) (.slice sa' sz'.length sc') (.slice da' dz'.length dc')).al (.cells #[.bool false, .slice none 0 0, .slice none 0 0] 25)
  have ra := Abx.new1 (w.alloc (.cells #[.bool false, .slice sa sz.length sc, .slice da dz.length dc] 25)) (.cells #[.bool false, .slice sa' sz'.length sc', .slice da' dz'.length dc'] 25) (.bool false) (.slice none 0 0) (.slice none 0 0)
  rw [World.size_alloc] at ra
  have p0 := pa.c0
  have p1 := pa.c1
  have p2 := pa.c2
  have q0 := qa.c0
  have q1 := qa.c1
  have q2 := qa.c2
  obtain ⟨V0, hV0⟩ : ∃ V0, V0 = ((w.alloc (.cells #[.bool false, .slice sa sz.length sc, .slice da dz.length dc] 25)).alloc (.cells #[.bool false, .slice sa' sz'.length sc', .slice da' dz'.length dc'] 25)).alloc (.cells #[.bool false, .slice none 0 0, .slice none 0 0] 25) := ⟨_, rfl⟩
  have HB0 : Hid (Below w.heap.size w V0) := by rw [hV0]; exact (((Below.refl _ w).alloc (Nat.le_refl _) _).alloc (by simp) _).alloc (by simp; omega) _
  have Pa0 : Hid (Abx V0 w.heap.size (.bool false) (.slice sa sz.length sc) (.slice da dz.length dc)) := by rw [hV0]; exact pa
  have Qb0 : Hid (Abx V0 (w.heap.size + 1) (.bool false) (.slice sa' sz'.length sc') (.slice da' dz'.length dc')) := by rw [hV0]; exact qa
  have Rr0 : Hid (Abx V0 (w.heap.size + 1 + 1) (.bool false) (.slice none 0 0) (.slice none 0 0)) := by rw [hV0]; exact ra
  have HW : Hid (V0 = _) := hV0
  have hC := flaws_any false false sa sc sz da dc dz sa' sc' sz' da' dc' dz' h1 h2 h1' h2' V0 ((HI.out.1.1.below HB0.out).mono HB0.out.size) ((HI.out.1.2.below HB0.out).mono HB0.out.size) ((HI.out.2.1.below HB0.out).mono HB0.out.size) ((HI.out.2.2.below HB0.out).mono HB0.out.size)
  clear hs hd hs' hd' T T' hV0 pa qa ra
  go_enter Tryd.func5, Tryd.ntmps5
  go_wp2_with fail
  rw [← HW.out]
  refine hC.mono ?_
  rintro e w1 ⟨rfl, hb⟩
  have HB1 : Hid (Below w.heap.size w w1) := HB0.out.trans (hb.mono HB0.out.size)
  have Pa1 : Hid (Abx w1 w.heap.size (.bool false) (.slice sa sz.length sc) (.slice da dz.length dc)) := Pa0.out.go hb
  have Qb1 : Hid (Abx w1 (w.heap.size + 1) (.bool false) (.slice sa' sz'.length sc') (.slice da' dz'.length dc')) := Qb0.out.go hb
  have Rr1 : Hid (Abx w1 (w.heap.size + 1 + 1) (.bool false) (.slice none 0 0) (.slice none 0 0)) := Rr0.out.go hb
  clear hb hC p0 p1 p2 q0 q1 q2 HW
  rw [HF.out.2.1]
  have p0 := Pa1.out.c0
  have p1 := Pa1.out.c1
  have p2 := Pa1.out.c2
  have q0 := Qb1.out.c0
  have q1 := Qb1.out.c1
  have q2 := Qb1.out.c2
  have hjo := joined_r sa sc sz sz.length rfl sa' sc' sz' sz'.length rfl (by omega) w1 ((HI.out.1.1.below HB1.out).mono HB1.out.size) ((HI.out.2.1.below HB1.out).mono HB1.out.size)
  go_wp2_with fail
  clear p0 p1 p2 q0 q1 q2
  refine hjo.mono ?_
  rintro e w2 ⟨g, gc, rfl, hN, hb⟩
  clear hjo
  have HB2 : Hid (Below w.heap.size w w2) := HB1.out.trans (hb.mono HB1.out.size)
  have Pa2 : Hid (Abx w2 w.heap.size (.bool false) (.slice sa sz.length sc) (.slice da dz.length dc)) := Pa1.out.go hb
  have Qb2 : Hid (Abx w2 (w.heap.size + 1) (.bool false) (.slice sa' sz'.length sc') (.slice da' dz'.length dc')) := Qb1.out.go hb
  have Rr2 : Hid (Abx w2 (w.heap.size + 1 + 1) (.bool false) (.slice none 0 0) (.slice none 0 0)) := Rr1.out.go hb
  obtain ⟨S, hS⟩ : ∃ S, S = sz ++ sz' := ⟨_, rfl⟩
  obtain ⟨n, hn⟩ : ∃ n, n = sz.length + sz'.length := ⟨_, rfl⟩
  have HS : Hid (S = sz ++ sz' ∧ S.length = n ∧ n = sz.length + sz'.length) := ⟨hS, by rw [hS, hn, List.length_append], hn⟩
  have hn12 : n ≤ 12 := by omega
  have hln : sz.length ≤ n := by omega
  have hlI : (sz.length : Int) ≤ (n : Int) := by omega
  rw [← hn]
  rw [← hS] at hN
  have HM : Hid (MidC w1.heap.size w2.heap.size w2 g S gc) := hN.midc
  have hfault := fault_l g gc S n HS.out.2.1 (by omega) w2.heap.size w2 hN.ints.1
  have hz12 := hb.size
  clear hb hS hn hN
  go_wp2_with fail
  refine hfault.mono ?_
  rintro e w3 ⟨rfl, hw3⟩
  obtain rfl := hw3.symm
  clear hfault hw3
  by_cases he : errOf S = 0
  · obtain ⟨N, hN⟩ : ∃ N, N = (prod S).toNat := ⟨_, rfl⟩
    have hz := errOf_zero.1 he
    have h0N := prod_nonneg hz.2.1
    have HN : Hid ((N : Int) = prod S ∧ errOf S = 0 ∧ N = (prod S).toNat) := ⟨by omega, he, hN⟩
    have hN4 : N ≤ 4096 := by omega
    rw [he]
    clear he hN hz h0N
    have p0 := Pa2.out.c0
    have p1 := Pa2.out.c1
    have p2 := Pa2.out.c2
    have q0 := Qb2.out.c0
    have q1 := Qb2.out.c1
    have q2 := Qb2.out.c2
    obtain ⟨D, hD⟩ : ∃ D, D = otD f false sz dz false sz' dz' := ⟨_, rfl⟩
    have HD : Hid (D = otD f false sz dz false sz' dz' ∧ D.length = N ∧ ∀ k, k < N → nth D k = otC f false sz dz false sz' dz' (cr S k)) := ⟨hD, by rw [hD]; unfold otD; rw [← HS.out.1, TA_length]; exact HN.out.2.2.symm, fun k hk => by rw [hD]; unfold otD; rw [← HS.out.1, TA_nth (by rw [← HN.out.2.2]; exact hk)]⟩
    obtain ⟨B, hBB⟩ : ∃ B, B = w2.heap.size := ⟨_, rfl⟩
    obtain ⟨u, hu⟩ : ∃ u, u = w2.alloc (.cells #[.bool false, .slice g n gc, .slice none 0 0] 25) := ⟨_, rfl⟩
    have hus : u.heap.size = w2.heap.size + 1 := by rw [hu]; simp
    have HU : Hid (w2.alloc (.cells #[.bool false, .slice g n gc, .slice none 0 0] 25) = u ∧ w2.heap.size = B) := ⟨hu.symm, hBB.symm⟩
    have HUA : Hid (Abx u w.heap.size (.bool false) (.slice sa sz.length sc) (.slice da dz.length dc) ∧ Abx u (w.heap.size + 1) (.bool false) (.slice sa' sz'.length sc') (.slice da' dz'.length dc') ∧ Abx u (w.heap.size + 1 + 1) (.bool false) (.slice none 0 0) (.slice none 0 0) ∧ Abx u B (.bool false) (.slice g n gc) (.slice none 0 0) ∧ MidC w1.heap.size B u g S gc ∧ Below w.heap.size w u) := by
      rw [hu, hBB]
      exact ⟨Pa2.out.al _, Qb2.out.al _, Rr2.out.al _, Abx.new _ _ _ _, HM.out.al (Nat.le_refl _) _, HB2.out.alloc HB2.out.size _⟩
    have hBu : B < u.heap.size := by omega
    have hvB : w1.heap.size ≤ B := by omega
    have hw1 : w.heap.size + 1 + 1 < w1.heap.size := Rr1.out.lt
    have hcells := cells_l g gc S n N HS.out.2.1 HN.out.1.symm (by omega) HN.out.2.1 u.heap.size u (HUA.out.2.2.2.2.1.is (by omega)).1
    clear hD hBB hu hus hz12 Pa2 Qb2 Rr2 HB2 HM Pa1 Qb1 Rr1 HB1 Pa0 Qb0 Rr0 HB0
    go_wp2_with fail
    clear p0 p1 p2 q0 q1 q2
    rw [HU.out.1]
    refine hcells.mono ?_
    rintro e v7 ⟨rfl, hv7⟩
    obtain rfl := hv7.symm
    clear hcells hv7
    go_wp2_with fail
    rw [HU.out.2]
    go_loopw [12] (fun i wq => ∃ (q : Nat) (v : Value), q ≤ N ∧ i = .int .i64 q ∧ (∀ i, i < q → otX f false sz dz false sz' dz' (cr S i) = 0) ∧ (Abx wq w.heap.size (.bool false) (.slice sa sz.length sc) (.slice da dz.length dc) ∧ Abx wq (w.heap.size + 1) (.bool false) (.slice sa' sz'.length sc') (.slice da' dz'.length dc') ∧ Abx wq (w.heap.size + 1 + 1) (.bool false) (.slice none 0 0) (.slice none 0 0) ∧ Abx wq B (.bool false) (.slice g n gc) v ∧ MidC w1.heap.size B wq g S gc ∧ wq.ownsRow u.heap.size 3 1 v (D.take q).length ((D.take q).map (Value.int .i64)) ∧ u.heap.size ≤ wq.heap.size ∧ Below w.heap.size w wq)) (fun i _ => N - (intOf i).toNat)
    case atStart => exact ⟨0, .slice none 0 0, Nat.zero_le _, rfl, fun i hi => absurd hi (Nat.not_lt_zero _), HUA.out.1, HUA.out.2.1, HUA.out.2.2.1, HUA.out.2.2.2.1, HUA.out.2.2.2.2.1, World.ownsRow_nil _ _ _ _, Nat.le_refl _, HUA.out.2.2.2.2.2⟩
    case round =>
      clear HUA HU
      obtain ⟨q, v, hqN, rfl, hok, hst⟩ := hrel
      by_cases hlq : q < N
      · obtain ⟨t, ht⟩ : ∃ t, t = cr S q := ⟨_, rfl⟩
        have hcr := (cr_fact HN.out.2.1 (i := q) (by rw [← HN.out.1]; omega)).1
        rw [← ht] at hcr
        have htl : t.length = n := by rw [insB_len hcr]; exact HS.out.2.1
        obtain ⟨Q, hQ⟩ : ∃ Q, Q = D.take q := ⟨_, rfl⟩
        rw [← hQ] at hst
        have HQ : Hid (Q.length = q ∧ D.take (q + 1) = Q ++ [nth D q]) := ⟨by rw [hQ, List.length_take, HD.out.2.1]; omega, by rw [hQ, take_snoc D q (by rw [HD.out.2.1]; exact hlq)]⟩
        have HOk : Hid (∀ i, i < q → otX f false sz dz false sz' dz' (cr S i) = 0) := hok
        have H0 : Hid (Abx wr w.heap.size (.bool false) (.slice sa sz.length sc) (.slice da dz.length dc) ∧ Abx wr (w.heap.size + 1) (.bool false) (.slice sa' sz'.length sc') (.slice da' dz'.length dc') ∧ Abx wr (w.heap.size + 1 + 1) (.bool false) (.slice none 0 0) (.slice none 0 0) ∧ Abx wr B (.bool false) (.slice g n gc) v ∧ MidC w1.heap.size B wr g S gc ∧ wr.ownsRow u.heap.size 3 1 v Q.length (Q.map (Value.int .i64)) ∧ u.heap.size ≤ wr.heap.size ∧ Below w.heap.size w wr) := hst
        have hco := coords_c g gc S n q HS.out.2.1 HN.out.2.1 (by rw [← HN.out.1]; omega) wr (hst.2.2.2.2.1.is (by have := hst.2.2.2.2.2.2.1; omega)).1
        rw [← ht] at hco
        clear hok hst hQ
        go_wp2_with fail
        refine hco.mono ?_
        rintro e w5 ⟨g2, rfl, hg2, hr2, hB1⟩
        have H1 : Hid (Abx w5 w.heap.size (.bool false) (.slice sa sz.length sc) (.slice da dz.length dc) ∧ Abx w5 (w.heap.size + 1) (.bool false) (.slice sa' sz'.length sc') (.slice da' dz'.length dc') ∧ Abx w5 (w.heap.size + 1 + 1) (.bool false) (.slice none 0 0) (.slice none 0 0) ∧ Abx w5 B (.bool false) (.slice g n gc) v ∧ MidC w1.heap.size B w5 g S gc ∧ w5.ownsRow u.heap.size 3 1 v Q.length (Q.map (Value.int .i64)) ∧ u.heap.size ≤ w5.heap.size ∧ Below w.heap.size w w5) := ⟨H0.out.1.go hB1, H0.out.2.1.go hB1, H0.out.2.2.1.go hB1, H0.out.2.2.2.1.go hB1, H0.out.2.2.2.2.1.go (by have := H0.out.2.2.2.2.2.2.1; omega) hB1, own_go H0.out.2.2.2.2.2.1 hB1, Nat.le_trans H0.out.2.2.2.2.2.2.1 hB1.size, H0.out.2.2.2.2.2.2.2.trans (hB1.mono H0.out.2.2.2.2.2.2.2.size)⟩
        have hg2l := hr2.lt
        have HG2 : Hid (w5.rowIs g2 3 n (fun j => .int .i64 (nth t j))) := hr2
        have hb1u : u.heap.size ≤ w5.heap.size := H1.out.2.2.2.2.2.2.1
        clear hco hB1 hr2 H0 hg2
        have hpp := ins_parts (s := sz) (s' := sz') (t := t) (by rw [← HS.out.1]; exact hcr)
        have hfa := flawE_zero HF.out.2.2.1
        have hfb := flawE_zero HF.out.2.2.2
        have hb1 := place_bd hpp.1
        have hb2 := place_bd hpp.2
        obtain ⟨P1, hP1⟩ : ∃ P : Nat, place sz (t.take sz.length) = P := ⟨(place sz (t.take sz.length)).toNat, by omega⟩
        obtain ⟨P2, hP2⟩ : ∃ P : Nat, place sz' (t.drop sz.length) = P := ⟨(place sz' (t.drop sz.length)).toNat, by omega⟩
        have hl1 : P1 < dz.length := by have := hfa.2.1; omega
        have hl2 : P2 < dz'.length := by have := hfb.2.1; omega
        obtain ⟨bd, od, rfl, hbd, hcd⟩ := HI.out.1.2.at hl1
        obtain ⟨be, oe, rfl, hbe, hce⟩ := HI.out.2.2.at hl2
        have hd1 := hcd P1 hl1
        have hd2 := hce P2 hl2
        obtain ⟨x, hx⟩ : ∃ x, x = nth dz P1 := ⟨_, rfl⟩
        obtain ⟨y, hy⟩ : ∃ y, y = nth dz' P2 := ⟨_, rfl⟩
        rw [← hx] at hd1
        rw [← hy] at hd2
        have HXY : Hid (otC f false sz dz false sz' dz' t = tcV f (false == false) x y ∧ otX f false sz dz false sz' dz' t = tcE f (false == false) x y ∧ In64 x ∧ In64 y) := by
          refine ⟨?_, ?_, by rw [hx]; exact HT.out.1 _, by rw [hy]; exact HT.out.2 _⟩
          · unfold otC cel; rw [hP1, hP2, Int.toNat_natCast, Int.toNat_natCast, ← hx, ← hy]
          · unfold otX cel; rw [hP1, hP2, Int.toNat_natCast, Int.toNat_natCast, ← hx, ← hy]
        have HWb : Hid (Below w.heap.size w w5) := H1.out.2.2.2.2.2.2.2
        have HX1 : Hid (IsInts w5.heap.size w5 (some ⟨g2, 0, none⟩) (t.take sz.length)) := .inr ⟨g2, 0, rfl, hg2l, fun j hj => by rw [List.length_take] at hj; rw [nth_take _ _ _ (by omega), Nat.zero_add]; exact HG2.out.cell (by omega)⟩
        have HX2 : Hid (IsInts w5.heap.size w5 (some ⟨g2, sz.length, none⟩) (t.drop sz.length)) := .inr ⟨g2, sz.length, rfl, hg2l, fun j hj => by rw [List.length_drop] at hj; rw [nth_drop12]; exact HG2.out.cell (by omega)⟩
        obtain ⟨AD, hAD⟩ : ∃ AD, (if n = sz.length then some (⟨g2, 0, none⟩ : Addr) else some ⟨g2, sz.length, none⟩) = AD := ⟨_, rfl⟩
        have HAI : Hid (IsInts w5.heap.size w5 AD (t.drop sz.length)) := by
          show IsInts _ _ _ _
          rw [← hAD]
          split
          · rename_i e; rw [List.drop_eq_nil_of_le (by omega)]; exact .inl rfl
          · exact HX2.out
        have HP : Hid (place sz (t.take sz.length) = P1 ∧ place sz' (t.drop sz.length) = P2 ∧ errOf sz = 0 ∧ errOf sz' = 0 ∧ insB sz (t.take sz.length) = true ∧ insB sz' (t.drop sz.length) = true ∧ (t.take sz.length).length = sz.length ∧ (t.drop sz.length).length = n - sz.length) := ⟨hP1, hP2, hfa.1, hfb.1, hpp.1, hpp.2, by rw [List.length_take]; omega, by rw [List.length_drop, htl]⟩
        have e1 : w5.cell? ⟨bd, od + P1, none⟩ = some (.int .i64 x) := (HWb.out.cell (p := ⟨bd, od + P1, none⟩) hbd).trans hd1
        have e2 : w5.cell? ⟨be, oe + P2, none⟩ = some (.int .i64 y) := (HWb.out.cell (p := ⟨be, oe + P2, none⟩) hbe).trans hd2
        clear hpp hfa hfb hb1 hb2 hP1 hP2 hcd hce hx hy hd1 hd2 hbd hbe
        have HI2 : Hid (IsInts w5.heap.size w5 sa sz ∧ IsInts w5.heap.size w5 sa' sz') := ⟨(HI.out.1.1.below HWb.out).mono HWb.out.size, (HI.out.2.1.below HWb.out).mono HWb.out.size⟩
        have a0 := H1.out.1.c0
        have a1 := H1.out.1.c1
        have a2 := H1.out.1.c2
        have b0 := H1.out.2.1.c0
        have b1 := H1.out.2.1.c1
        have b2 := H1.out.2.1.c2
        go_wp2_with fail
        refine anyC_begin (fun w' => w'.cell? ⟨w.heap.size, 0, none⟩ = some (.bool false) ∧ w'.cell? ⟨w.heap.size, 1, none⟩ = some (.slice sa sz.length sc) ∧ w'.cell? ⟨w.heap.size, 2, none⟩ = some (.slice (some ⟨bd, od, none⟩) dz.length dc) ∧ w'.cell? ⟨w.heap.size + 1, 0, none⟩ = some (.bool false) ∧ w'.cell? ⟨w.heap.size + 1, 1, none⟩ = some (.slice sa' sz'.length sc') ∧ w'.cell? ⟨w.heap.size + 1, 2, none⟩ = some (.slice (some ⟨be, oe, none⟩) dz'.length dc') ∧ w'.cell? ⟨bd, od + P1, none⟩ = some (.int .i64 x) ∧ w'.cell? ⟨be, oe + P2, none⟩ = some (.int .i64 y)) 13 #[false, false, false, false, false, false, false, false, false, false, false, false, false] (by kernel_rfl) rfl rfl ?_
        refine anyC_put 0 67 ?rv52 #[true, false, false, false, false, false, false, false, false, false, false, false, false] rfl rfl rfl (by kernel_rfl) (by kernel_rfl) (by kernel_rfl) (fun _ _ _ h => h) ?ry52 (⟨a0, a1, a2, b0, b1, b2, e1, e2⟩) ?rm52
        case ry52 => first | exact Or.inl ⟨by rfl, by intro w'; go_simp; first | done | rfl⟩
        case rm52 =>
        simp only [Act.put, List.setIfInBounds_toArray, List.set_cons_zero, List.set_cons_succ]
        refine anyC_take 1 68 ?rv53 #[true, true, false, false, false, false, false, false, false, false, false, false, false] rfl rfl rfl (by kernel_rfl) (by kernel_rfl) (by kernel_rfl) (fun _ _ _ h => h) ?ry53 (⟨a0, a1, a2, b0, b1, b2, e1, e2⟩) ?rm53
        case ry53 => first | exact Or.inl ⟨by rfl, by intro w' hw'; (try dsimp only at hw'); go_simp; first | done | rfl⟩
        case rm53 =>
        simp only [Act.put, List.setIfInBounds_toArray, List.set_cons_zero, List.set_cons_succ]
        refine anyC_put 2 69 ?rv54 #[true, true, true, false, false, false, false, false, false, false, false, false, false] rfl rfl rfl (by kernel_rfl) (by kernel_rfl) (by kernel_rfl) (fun _ _ _ h => h) ?ry54 (⟨a0, a1, a2, b0, b1, b2, e1, e2⟩) ?rm54
        case ry54 => first | exact Or.inl ⟨by rfl, by intro w'; go_simp; first | done | rfl⟩
        case rm54 =>
        simp only [Act.put, List.setIfInBounds_toArray, List.set_cons_zero, List.set_cons_succ]
        refine anyC_take 3 70 ?rv55 #[true, true, true, true, false, false, false, false, false, false, false, false, false] rfl rfl rfl (by kernel_rfl) (by kernel_rfl) (by kernel_rfl) (fun _ _ _ h => h) ?ry55 (⟨a0, a1, a2, b0, b1, b2, e1, e2⟩) ?rm55
        case ry55 => first | exact Or.inl ⟨by rfl, by intro w' hw'; (try dsimp only at hw'); go_simp; first | done | rfl⟩
        case rm55 =>
        simp only [Act.put, List.setIfInBounds_toArray, List.set_cons_zero, List.set_cons_succ]
        refine anyC_put 4 71 ?rv56 #[true, true, true, true, true, false, false, false, false, false, false, false, false] rfl rfl rfl (by kernel_rfl) (by kernel_rfl) (by kernel_rfl) (fun _ _ _ h => h) ?ry56 (⟨a0, a1, a2, b0, b1, b2, e1, e2⟩) ?rm56
        case ry56 => first | exact Or.inl ⟨by rfl, by intro w'; go_simp; first | done | rfl⟩
        case rm56 =>
        simp only [Act.put, List.setIfInBounds_toArray, List.set_cons_zero, List.set_cons_succ]
        refine anyC_put 5 72 ?rv57 #[true, true, true, true, true, true, false, false, false, false, false, false, false] rfl rfl rfl (by kernel_rfl) (by kernel_rfl) (by kernel_rfl) (fun _ _ _ h => h) ?ry57 (⟨a0, a1, a2, b0, b1, b2, e1, e2⟩) ?rm57
        case ry57 => first | exact Or.inl ⟨by rfl, by intro w'; go_simp; first | done | rfl⟩
        case rm57 =>
        simp only [Act.put, List.setIfInBounds_toArray, List.set_cons_zero, List.set_cons_succ]
        refine anyC_take 6 73 ?rv58 #[true, true, true, true, true, true, true, false, false, false, false, false, false] rfl rfl rfl (by kernel_rfl) (by kernel_rfl) (by kernel_rfl) (fun _ _ _ h => h) ?ry58 (⟨a0, a1, a2, b0, b1, b2, e1, e2⟩) ?rm58
        case ry58 => first | exact Or.inl ⟨by rfl, by intro w' hw'; (try dsimp only at hw'); go_simp; first | done | rfl⟩
        case rm58 =>
        simp only [Act.put, List.setIfInBounds_toArray, List.set_cons_zero, List.set_cons_succ]
        refine anyC_put 7 74 ?rv59 #[true, true, true, true, true, true, true, true, false, false, false, false, false] rfl rfl rfl (by kernel_rfl) (by kernel_rfl) (by kernel_rfl) (fun _ _ _ h => h) ?ry59 (⟨a0, a1, a2, b0, b1, b2, e1, e2⟩) ?rm59
        case ry59 => first | exact Or.inl ⟨by rfl, by intro w'; go_simp; first | done | rfl⟩
        case rm59 =>
        simp only [Act.put, List.setIfInBounds_toArray, List.set_cons_zero, List.set_cons_succ]
        refine anyC_put 8 75 ?rv60 #[true, true, true, true, true, true, true, true, true, false, false, false, false] rfl rfl rfl (by kernel_rfl) (by kernel_rfl) (by kernel_rfl) (fun _ _ _ h => h) ?ry60 (⟨a0, a1, a2, b0, b1, b2, e1, e2⟩) ?rm60
        case ry60 => first | exact Or.inl ⟨by rfl, by intro w'; go_simp; first | done | rfl⟩
        case rm60 =>
        simp only [Act.put, List.setIfInBounds_toArray, List.set_cons_zero, List.set_cons_succ]
        refine anyC_one 9 #[true, true, true, true, true, true, true, true, true, true, false, false, false] (by kernel_rfl) rfl rfl (fun K hK => ?_)
        go_simp
        try rw [hAD]
        go_wp2_with (go_at_call 16; refine (where_l sa sc sz sz.length rfl (some ⟨g2, 0, none⟩) _ _ (t.take sz.length) HP.out.2.2.2.2.2.2.1 P1 HP.out.1 (by omega) HP.out.2.2.1 HP.out.2.2.2.2.1 w5.heap.size _ (HI2.out.1.below ((Below.refl _ w5).drew)) (HX1.out.below ((Below.refl _ w5).drew))).mono ?_; rintro e yw ⟨rfl, hyw⟩; obtain rfl := hyw.symm; clear hyw)
        refine hK.out _ _ (⟨a0, a1, a2, b0, b1, b2, e1, e2⟩) ?_
        clear hK K
        refine anyC_put 10 77 ?rv62 #[true, true, true, true, true, true, true, true, true, true, true, false, false] rfl rfl rfl (by kernel_rfl) (by kernel_rfl) (by kernel_rfl) (fun _ _ _ h => h) ?ry62 (⟨a0, a1, a2, b0, b1, b2, e1, e2⟩) ?rm62
        case ry62 => first | exact Or.inl ⟨by rfl, by intro w'; go_simp; first | done | rfl⟩
        case rm62 =>
        simp only [Act.put, List.setIfInBounds_toArray, List.set_cons_zero, List.set_cons_succ]
        refine anyC_take 11 78 ?rv63 #[true, true, true, true, true, true, true, true, true, true, true, true, false] rfl rfl rfl (by kernel_rfl) (by kernel_rfl) (by kernel_rfl) (fun _ _ _ h => h) ?ry63 (⟨a0, a1, a2, b0, b1, b2, e1, e2⟩) ?rm63
        case ry63 => first | exact Or.inl ⟨by rfl, by intro w' hw'; (try dsimp only at hw'); go_simp; first | done | rfl⟩
        case rm63 =>
        simp only [Act.put, List.setIfInBounds_toArray, List.set_cons_zero, List.set_cons_succ]
        refine anyC_put 12 14 ?rv64 #[true, true, true, true, true, true, true, true, true, true, true, true, true] rfl rfl rfl (by kernel_rfl) (by kernel_rfl) (by kernel_rfl) (fun _ _ _ h => h) ?ry64 (⟨a0, a1, a2, b0, b1, b2, e1, e2⟩) ?rm64
        case ry64 => first | exact Or.inl ⟨by rfl, by intro w'; go_simp; first | done | rfl⟩
        case rm64 =>
        simp only [Act.put, List.setIfInBounds_toArray, List.set_cons_zero, List.set_cons_succ]
        refine anyC_done (by kernel_rfl) ?_
        obtain ⟨w6, hw6⟩ : ∃ w6, w6 = w5.drew := ⟨_, rfl⟩
        rw [← hw6]
        have hb56 : Below w5.heap.size w5 w6 := by rw [hw6]; exact (Below.refl _ w5).drew
        replace a0 := cell_to a0 hb56
        replace a1 := cell_to a1 hb56
        replace a2 := cell_to a2 hb56
        replace b0 := cell_to b0 hb56
        replace b1 := cell_to b1 hb56
        replace b2 := cell_to b2 hb56
        replace e1 := cell_to e1 hb56
        replace e2 := cell_to e2 hb56
        clear hw6
        go_wp2_with fail
        refine anyC_begin (fun w' => w'.cell? ⟨w.heap.size, 0, none⟩ = some (.bool false) ∧ w'.cell? ⟨w.heap.size, 1, none⟩ = some (.slice sa sz.length sc) ∧ w'.cell? ⟨w.heap.size, 2, none⟩ = some (.slice (some ⟨bd, od, none⟩) dz.length dc) ∧ w'.cell? ⟨w.heap.size + 1, 0, none⟩ = some (.bool false) ∧ w'.cell? ⟨w.heap.size + 1, 1, none⟩ = some (.slice sa' sz'.length sc') ∧ w'.cell? ⟨w.heap.size + 1, 2, none⟩ = some (.slice (some ⟨be, oe, none⟩) dz'.length dc') ∧ w'.cell? ⟨bd, od + P1, none⟩ = some (.int .i64 x) ∧ w'.cell? ⟨be, oe + P2, none⟩ = some (.int .i64 y)) 13 #[false, false, false, false, false, false, false, false, false, false, false, false, false] (by kernel_rfl) rfl rfl ?_
        refine anyC_put 0 79 ?rv65 #[true, false, false, false, false, false, false, false, false, false, false, false, false] rfl rfl rfl (by kernel_rfl) (by kernel_rfl) (by kernel_rfl) (fun _ _ _ h => h) ?ry65 (⟨a0, a1, a2, b0, b1, b2, e1, e2⟩) ?rm65
        case ry65 => first | exact Or.inl ⟨by rfl, by intro w'; go_simp; first | done | rfl⟩
        case rm65 =>
        simp only [Act.put, List.setIfInBounds_toArray, List.set_cons_zero, List.set_cons_succ]
        refine anyC_take 1 80 ?rv66 #[true, true, false, false, false, false, false, false, false, false, false, false, false] rfl rfl rfl (by kernel_rfl) (by kernel_rfl) (by kernel_rfl) (fun _ _ _ h => h) ?ry66 (⟨a0, a1, a2, b0, b1, b2, e1, e2⟩) ?rm66
        case ry66 => first | exact Or.inl ⟨by rfl, by intro w' hw'; (try dsimp only at hw'); go_simp; first | done | rfl⟩
        case rm66 =>
        simp only [Act.put, List.setIfInBounds_toArray, List.set_cons_zero, List.set_cons_succ]
        refine anyC_put 2 81 ?rv67 #[true, true, true, false, false, false, false, false, false, false, false, false, false] rfl rfl rfl (by kernel_rfl) (by kernel_rfl) (by kernel_rfl) (fun _ _ _ h => h) ?ry67 (⟨a0, a1, a2, b0, b1, b2, e1, e2⟩) ?rm67
        case ry67 => first | exact Or.inl ⟨by rfl, by intro w'; go_simp; first | done | rfl⟩
        case rm67 =>
        simp only [Act.put, List.setIfInBounds_toArray, List.set_cons_zero, List.set_cons_succ]
        refine anyC_take 3 82 ?rv68 #[true, true, true, true, false, false, false, false, false, false, false, false, false] rfl rfl rfl (by kernel_rfl) (by kernel_rfl) (by kernel_rfl) (fun _ _ _ h => h) ?ry68 (⟨a0, a1, a2, b0, b1, b2, e1, e2⟩) ?rm68
        case ry68 => first | exact Or.inl ⟨by rfl, by intro w' hw'; (try dsimp only at hw'); go_simp; first | done | rfl⟩
        case rm68 =>
        simp only [Act.put, List.setIfInBounds_toArray, List.set_cons_zero, List.set_cons_succ]
        refine anyC_put 4 83 ?rv69 #[true, true, true, true, true, false, false, false, false, false, false, false, false] rfl rfl rfl (by kernel_rfl) (by kernel_rfl) (by kernel_rfl) (fun _ _ _ h => h) ?ry69 (⟨a0, a1, a2, b0, b1, b2, e1, e2⟩) ?rm69
        case ry69 => first | exact Or.inl ⟨by rfl, by intro w'; go_simp; first | done | rfl⟩
        case rm69 =>
        simp only [Act.put, List.setIfInBounds_toArray, List.set_cons_zero, List.set_cons_succ]
        refine anyC_put 5 84 ?rv70 #[true, true, true, true, true, true, false, false, false, false, false, false, false] rfl rfl rfl (by kernel_rfl) (by kernel_rfl) (by kernel_rfl) (fun _ _ _ h => h) ?ry70 (⟨a0, a1, a2, b0, b1, b2, e1, e2⟩) ?rm70
        case ry70 => first | exact Or.inl ⟨by rfl, by intro w'; go_simp; first | done | rfl⟩
        case rm70 =>
        simp only [Act.put, List.setIfInBounds_toArray, List.set_cons_zero, List.set_cons_succ]
        refine anyC_take 6 85 ?rv71 #[true, true, true, true, true, true, true, false, false, false, false, false, false] rfl rfl rfl (by kernel_rfl) (by kernel_rfl) (by kernel_rfl) (fun _ _ _ h => h) ?ry71 (⟨a0, a1, a2, b0, b1, b2, e1, e2⟩) ?rm71
        case ry71 => first | exact Or.inl ⟨by rfl, by intro w' hw'; (try dsimp only at hw'); go_simp; first | done | rfl⟩
        case rm71 =>
        simp only [Act.put, List.setIfInBounds_toArray, List.set_cons_zero, List.set_cons_succ]
        refine anyC_put 7 86 ?rv72 #[true, true, true, true, true, true, true, true, false, false, false, false, false] rfl rfl rfl (by kernel_rfl) (by kernel_rfl) (by kernel_rfl) (fun _ _ _ h => h) ?ry72 (⟨a0, a1, a2, b0, b1, b2, e1, e2⟩) ?rm72
        case ry72 => first | exact Or.inl ⟨by rfl, by intro w'; go_simp; first | done | rfl⟩
        case rm72 =>
        simp only [Act.put, List.setIfInBounds_toArray, List.set_cons_zero, List.set_cons_succ]
        refine anyC_put 8 87 ?rv73 #[true, true, true, true, true, true, true, true, true, false, false, false, false] rfl rfl rfl (by kernel_rfl) (by kernel_rfl) (by kernel_rfl) (fun _ _ _ h => h) ?ry73 (⟨a0, a1, a2, b0, b1, b2, e1, e2⟩) ?rm73
        case ry73 => first | exact Or.inl ⟨by rfl, by intro w'; go_simp; first | done | rfl⟩
        case rm73 =>
        simp only [Act.put, List.setIfInBounds_toArray, List.set_cons_zero, List.set_cons_succ]
        refine anyC_one 9 #[true, true, true, true, true, true, true, true, true, true, false, false, false] (by kernel_rfl) rfl rfl (fun K hK => ?_)
        go_simp
        try rw [hAD]
        go_wp2_with (go_at_call 16; refine (where_l sa' sc' sz' sz'.length rfl AD _ _ (t.drop sz.length) HP.out.2.2.2.2.2.2.2 P2 HP.out.2.1 (by omega) HP.out.2.2.2.1 HP.out.2.2.2.2.2.1 w5.heap.size _ (HI2.out.2.below hb56.drew) (HAI.out.below hb56.drew)).mono ?_; rintro e yw ⟨rfl, hyw⟩; obtain rfl := hyw.symm; clear hyw)
        refine hK.out _ _ (⟨a0, a1, a2, b0, b1, b2, e1, e2⟩) ?_
        clear hK K
        refine anyC_put 10 89 ?rv75 #[true, true, true, true, true, true, true, true, true, true, true, false, false] rfl rfl rfl (by kernel_rfl) (by kernel_rfl) (by kernel_rfl) (fun _ _ _ h => h) ?ry75 (⟨a0, a1, a2, b0, b1, b2, e1, e2⟩) ?rm75
        case ry75 => first | exact Or.inl ⟨by rfl, by intro w'; go_simp; first | done | rfl⟩
        case rm75 =>
        simp only [Act.put, List.setIfInBounds_toArray, List.set_cons_zero, List.set_cons_succ]
        refine anyC_take 11 90 ?rv76 #[true, true, true, true, true, true, true, true, true, true, true, true, false] rfl rfl rfl (by kernel_rfl) (by kernel_rfl) (by kernel_rfl) (fun _ _ _ h => h) ?ry76 (⟨a0, a1, a2, b0, b1, b2, e1, e2⟩) ?rm76
        case ry76 => first | exact Or.inl ⟨by rfl, by intro w' hw'; (try dsimp only at hw'); go_simp; first | done | rfl⟩
        case rm76 =>
        simp only [Act.put, List.setIfInBounds_toArray, List.set_cons_zero, List.set_cons_succ]
        refine anyC_put 12 15 ?rv77 #[true, true, true, true, true, true, true, true, true, true, true, true, true] rfl rfl rfl (by kernel_rfl) (by kernel_rfl) (by kernel_rfl) (fun _ _ _ h => h) ?ry77 (⟨a0, a1, a2, b0, b1, b2, e1, e2⟩) ?rm77
        case ry77 => first | exact Or.inl ⟨by rfl, by intro w'; go_simp; first | done | rfl⟩
        case rm77 =>
        simp only [Act.put, List.setIfInBounds_toArray, List.set_cons_zero, List.set_cons_succ]
        refine anyC_done (by kernel_rfl) ?_
        obtain ⟨w7, hw7⟩ : ∃ w7, w7 = w6.drew := ⟨_, rfl⟩
        rw [← hw7]
        have hb57 : Below w5.heap.size w5 w7 := by rw [hw7]; exact hb56.drew
        replace a0 := cell_to a0 (show Below w6.heap.size w6 w7 by rw [hw7]; exact (Below.refl _ w6).drew)
        replace a1 := cell_to a1 (show Below w6.heap.size w6 w7 by rw [hw7]; exact (Below.refl _ w6).drew)
        replace a2 := cell_to a2 (show Below w6.heap.size w6 w7 by rw [hw7]; exact (Below.refl _ w6).drew)
        replace b0 := cell_to b0 (show Below w6.heap.size w6 w7 by rw [hw7]; exact (Below.refl _ w6).drew)
        replace b1 := cell_to b1 (show Below w6.heap.size w6 w7 by rw [hw7]; exact (Below.refl _ w6).drew)
        replace b2 := cell_to b2 (show Below w6.heap.size w6 w7 by rw [hw7]; exact (Below.refl _ w6).drew)
        replace e1 := cell_to e1 (show Below w6.heap.size w6 w7 by rw [hw7]; exact (Below.refl _ w6).drew)
        replace e2 := cell_to e2 (show Below w6.heap.size w6 w7 by rw [hw7]; exact (Below.refl _ w6).drew)
        have H7 : Hid (Abx w7 w.heap.size (.bool false) (.slice sa sz.length sc) (.slice (some ⟨bd, od, none⟩) dz.length dc) ∧ Abx w7 (w.heap.size + 1) (.bool false) (.slice sa' sz'.length sc') (.slice (some ⟨be, oe, none⟩) dz'.length dc') ∧ Abx w7 (w.heap.size + 1 + 1) (.bool false) (.slice none 0 0) (.slice none 0 0) ∧ Abx w7 B (.bool false) (.slice g n gc) v ∧ MidC w1.heap.size B w7 g S gc ∧ w7.ownsRow u.heap.size 3 1 v Q.length (Q.map (Value.int .i64)) ∧ u.heap.size ≤ w7.heap.size ∧ Below w.heap.size w w7) := ⟨H1.out.1.go hb57, H1.out.2.1.go hb57, H1.out.2.2.1.go hb57, H1.out.2.2.2.1.go hb57, H1.out.2.2.2.2.1.go (by have := H1.out.2.2.2.2.2.2.1; omega) hb57, own_go H1.out.2.2.2.2.2.1 hb57, Nat.le_trans H1.out.2.2.2.2.2.2.1 hb57.size, H1.out.2.2.2.2.2.2.2.trans (hb57.mono H1.out.2.2.2.2.2.2.2.size)⟩
        clear hw7 hb56 hb57 H1 e1 e2
        go_wp2_with fail
        refine (twocells_any f false x false y HXY.out.2.2.1 HXY.out.2.2.2 w7).mono ?_
        rintro e w8 ⟨rfl, hw8⟩
        obtain rfl := hw8.symm
        clear hw8 a0 a1 a2 b0 b1 b2
        obtain ⟨E, hE⟩ : ∃ E, E = tcE f (false == false) x y := ⟨_, rfl⟩
        obtain ⟨Y, hY⟩ : ∃ Y, Y = tcV f (false == false) x y := ⟨_, rfl⟩
        have HEY : Hid (otC f false sz dz false sz' dz' t = Y ∧ otX f false sz dz false sz' dz' t = E ∧ (E = 0 ∨ E = 6)) := ⟨by rw [hY]; exact HXY.out.1, by rw [hE]; exact HXY.out.2.1, by rw [hE]; exact tcE_cell HF.out.1 _ _ _⟩
        rw [← hE, ← hY]
        clear hE hY
        by_cases hq : E = 0
        · have t0' : (E != 0) = false := by simp [hq]
          have HV : Hid (Y = nth D q) := by show _ = _; rw [HD.out.2.2 q hlq, ← ht]; exact HEY.out.1.symm
          have HO : Hid (otX f false sz dz false sz' dz' (cr S q) = 0) := by show _ = _; rw [← ht, HEY.out.2.1]; exact hq
          obtain ⟨X, hX⟩ : ∃ X, X = Y := ⟨_, rfl⟩
          rw [← hX] at HV ⊢
          have HN9 : Hid ((w7.alloc (.cells #[.int .i64 X] 3)).heap[w7.heap.size]? = some (.cells #[.int .i64 X] 3 (0, 0))) := World.alloc_heap_new _ _
          have o2 := H7.out.2.2.2.1.c2
          have o3 := (H7.out.2.2.2.1.al (.cells #[.int .i64 X] 3)).c2
          have hsW := H7.out.2.2.2.2.2.2.1
          clear hq hX
          go_wp2_with (at_builtin; refine app_list rfl _ _ rfl _ u.heap.size w7.heap.size v Q X rfl rfl (H7.out.2.2.2.2.2.1.alloc _) HN9.out (by rw [HQ.out.1]; omega) (by simp; omega) ?_; intro g7 gc7 w7 ho7 hB7; have HO7 : Hid (Abx w7 B (.bool false) (.slice g n gc) v) := (H7.out.2.2.2.1.al _).bel hB7 (by omega); have o5 := HO7.out.c2; have of5 := HO7.out.fr 2)
          have hz7 := hB7.size
          simp at hz7
          refine ⟨⟨q + 1, .slice (some ⟨g7, 0, none⟩) (Q.length + 1) gc7, by omega, by go_num, ?_, ((H7.out.1.al _).bel hB7 (by omega)).ot (by show w.heap.size ≠ B; omega) _, ((H7.out.2.1.al _).bel hB7 (by omega)).ot (by show w.heap.size + 1 ≠ B; omega) _, ((H7.out.2.2.1.al _).bel hB7 (by omega)).ot (by show w.heap.size + 1 + 1 ≠ B; omega) _, HO7.out.s2 _, ?_, ?_, by simp [World.setCell]; omega, ?_⟩, by simp [intOf]; omega⟩
          · intro i hi
            by_cases e : i = q
            · rw [e]; exact HO.out
            · exact HOk.out i (by omega)
          · exact MidC.s1 ⟨((H7.out.2.2.2.2.1.1.al (by omega) _).bel (hB7.mono (by omega))), H7.out.2.2.2.2.1.2⟩ (p := ⟨B, 2, none⟩) (.inr (Nat.le_refl _)) _
          · rw [HQ.out.2, ← HV.out, List.length_append, List.length_singleton]
            exact ownsRow_setCell_below ho7 (by show B < u.heap.size; omega) _
          · exact ((H7.out.2.2.2.2.2.2.2.alloc H7.out.2.2.2.2.2.2.2.size _).trans (hB7.mono (by omega))).setCell (p := ⟨B, 2, none⟩) (by show w.heap.size ≤ B; omega) _
        · have t0' : (E != 0) = true := by simp [hq]
          have hsix : E = 6 := HEY.out.2.2.resolve_left hq
          have HE : Hid (otE f false sz dz false sz' dz' = 6) := by
            show _ = _
            unfold otE
            rw [if_neg HF.out.1, if_neg (not_not_intro HF.out.2.1), ← HS.out.1, if_neg (not_not_intro HN.out.2.1), if_neg (by simp), if_neg fun h2 => hq ?_]
            have := (okT_iff HN.out.2.1).1 h2 t hcr
            rwa [HEY.out.2.1] at this
          rw [hsix] at t0' ⊢
          have HRR : Hid (Abx w7 (w.heap.size + 1 + 1) (.bool false) (.slice none 0 0) (.slice none 0 0) ∧ Below w.heap.size w w7) := ⟨H7.out.2.2.1, H7.out.2.2.2.2.2.2.2⟩
          clear hq hsix
          have r0 := HRR.out.1.c0
          have r1 := HRR.out.1.c1
          have r2 := HRR.out.1.c2
          have f0 := HRR.out.1.fr 0
          have f1 := HRR.out.1.fr 1
          have f2 := HRR.out.1.fr 2
          go_wp2_with fail
          have FF := HRR.out.1.set3 (.bool false) (.slice none 0 0) (.slice none 0 0)
          have z0 := FF.c0
          have z1 := FF.c1
          have z2 := FF.c2
          exact bodyPost_ret (v := .tuple #[.agg #[.bool false, .slice none 0 0, .slice none 0 0], .int .i64 6]) (by simp [results, Tryd.results5, go_sem, z0, z1, z2]) rfl (ur12_no HE.out (by decide) (bel_set3 HRR.out.2 (by omega) _ _ _))
      · obtain rfl : q = N := by omega
        have HX : Hid (otE f false sz dz false sz' dz' = 0) := by
          show _ = _
          unfold otE
          rw [if_neg HF.out.1, if_neg (not_not_intro HF.out.2.1), ← HS.out.1, if_neg (not_not_intro HN.out.2.1), if_neg (by simp), if_pos ((okT_iff HN.out.2.1).2 fun t ht => ?_)]
          have hc := cr_place HN.out.2.1 ht
          have := hok (place S t).toNat (by rw [← HN.out.1] at hc; simpa using hc.2)
          rwa [hc.1] at this
        have htt : D.take q = D := List.take_of_length_le (by rw [HD.out.2.1]; exact Nat.le_refl _)
        rw [htt] at hst
        obtain ⟨hA, hA', hR, hO, hM, hown, hsz, hB⟩ := hst
        obtain ⟨g1, gc1, rfl, hN1⟩ := own_cap hown
        have HQ : Hid (Abx wr (w.heap.size + 1 + 1) (.bool false) (.slice none 0 0) (.slice none 0 0) ∧ NewC u.heap.size wr g1 D gc1 ∧ MidC w1.heap.size B wr g S gc ∧ u.heap.size ≤ wr.heap.size ∧ Below w.heap.size w wr) := ⟨hR, hN1, hM, hsz, hB⟩
        have o0 := hO.c0
        have o1 := hO.c1
        have o2 := hO.c2
        have r0 := hR.c0
        have r1 := hR.c1
        have r2 := hR.c2
        have f0 := hR.fr 0
        have f1 := hR.fr 1
        have f2 := hR.fr 2
        clear hown htt hA hA' hR hO hM hok hsz hB hN1
        go_wp2_with fail
        have FF := HQ.out.1.set3 (.bool false) (.slice g n gc) (.slice g1 D.length gc1)
        have q0 := FF.c0
        have q1 := FF.c1
        have q2 := FF.c2
        refine bodyPost_ret (v := .tuple #[.agg #[.bool false, .slice g n gc, .slice g1 D.length gc1], .int .i64 0]) (by simp [results, Tryd.results5, go_sem, q0, q1, q2]) rfl ?_
        have hX := ((HQ.out.2.2.1.1.new (by have := HQ.out.2.2.2.1; omega)).set3 (b := w.heap.size + 1 + 1) (by omega) (.bool false) (.slice g n gc) (.slice g1 D.length gc1)).low (lo' := w.heap.size) (by omega)
        have hY := (HQ.out.2.1.1.set3 (b := w.heap.size + 1 + 1) (by omega) (.bool false) (.slice g n gc) (.slice g1 D.length gc1)).low (lo' := w.heap.size) (by omega)
        have hU := ur12_ok (e := otE f false sz dz false sz' dz') (w := w) HX.out (S := S) (D := D) (xc := gc) (yc := gc1) HS.out.2.1 rfl hX hY (bel_set3 HQ.out.2.2.2.2 (b := w.heap.size + 1 + 1) (by omega) (.bool false) (.slice g n gc) (.slice g1 D.length gc1))
        rw [← HS.out.1, ← HD.out.1]
        exact hU
  · have HE : Hid (otE f false sz dz false sz' dz' = errOf S) := by show _ = _; unfold otE; rw [if_neg HF.out.1, if_neg (not_not_intro HF.out.2.1), ← HS.out.1, if_pos he]
    have HNz : Hid (errOf S ≠ 0) := he
    have t0 : (errOf S != 0) = true := by simp [he]
    clear he
    have r0 := Rr2.out.c0
    have r1 := Rr2.out.c1
    have r2 := Rr2.out.c2
    have f0 := Rr2.out.fr 0
    have f1 := Rr2.out.fr 1
    have f2 := Rr2.out.fr 2
    go_wp2_with fail
    have FF := Rr2.out.set3 (.bool false) (.slice none 0 0) (.slice none 0 0)
    have z0 := FF.c0
    have z1 := FF.c1
    have z2 := FF.c2
    exact bodyPost_ret (v := .tuple #[.agg #[.bool false, .slice none 0 0, .slice none 0 0], .int .i64 (errOf S)]) (by simp [results, Tryd.results5, go_sem, z0, z1, z2]) rfl (ur12_no HE.out HNz.out (bel_set3 HB2.out (by omega) _ _ _))
theorem outered_any (f : Int) (c c' : Bool) (sa : Option Addr) (sc : Nat) (sz : List Int) (da : Option Addr) (dc : Nat) (dz : List Int) (sa' : Option Addr) (sc' : Nat) (sz' : List Int) (da' : Option Addr) (dc' : Nat) (dz' : List Int) (h1 : sz.length ≤ 9223372036854775807) (h2 : dz.length ≤ 9223372036854775807) (h1' : sz'.length ≤ 9223372036854775807) (h2' : dz'.length ≤ 9223372036854775807) (w : World) (hs : IsInts w.heap.size w sa sz) (hd : IsInts w.heap.size w da dz) (hs' : IsInts w.heap.size w sa' sz') (hd' : IsInts w.heap.size w da' dz') (T : ∀ j, In64 (nth dz j)) (T' : ∀ j, In64 (nth dz' j)) :
    Calls Tryd.prog 5 #[.int .i64 f, .agg #[.bool c, .slice sa sz.length sc, .slice da dz.length dc], .agg #[.bool c', .slice sa' sz'.length sc', .slice da' dz'.length dc']] w (UR (otE f c sz dz c' sz' dz') false (otS13 f c sz dz c' sz' dz') (otD13 f c sz dz c' sz' dz') w) := by
  by_cases hf : f < 1 ∨ 16 < f
  · exact outered_f f c c' sa sc sz da dc dz sa' sc' sz' da' dc' dz' h1 h2 h1' h2' w hs hd hs' hd' T T' hf
  · by_cases hw : flawsE c sz dz c' sz' dz' = 0
    · cases c
      · cases c'
        · exact outered_ff f sa sc sz da dc dz sa' sc' sz' da' dc' dz' h1 h2 h1' h2' w hs hd hs' hd' T T' hf hw
        · exact outered_ft f sa sc sz da dc dz sa' sc' sz' da' dc' dz' h1 h2 h1' h2' w hs hd hs' hd' T T' hf hw
      · exact outered_t f c' sa sc sz da dc dz sa' sc' sz' da' dc' dz' h1 h2 h1' h2' w hs hd hs' hd' T T' hf hw
    · exact outered_w f c c' sa sc sz da dc dz sa' sc' sz' da' dc' dz' h1 h2 h1' h2' w hs hd hs' hd' T T' hf hw
end Go.Proofs.YtcpmendkocnlhaaDoor
