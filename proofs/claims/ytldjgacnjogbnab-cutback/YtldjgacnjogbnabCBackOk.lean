/-
  The walk of the statement CutBack, where nothing is wrong, given what the program tells.
-/
import Derived.Test.YtldjgacnjogbnabCBackWalk
namespace Go.Proofs.Ytldjgacnjogbnab
open Go.RowKit
set_option linter.unusedVariables false

set_option maxRecDepth 100000 in
set_option maxHeartbeats 8000000 in
theorem back_ok_true (HK0 : CKp) (HSp : CSp) (ma : Option Addr) (mc : Nat) (m : List Int) (hm : m.length ≤ 9223372036854775807) (Tm : ∀ j, In64 (nth m j)) (xn : Nat) (sa1 : Option Addr) (sc1 : Nat) (sz1 : List Int) (da1 : Option Addr) (dc1 : Nat) (dz1 : List Int) (w : World) (wm : IsC w.heap.size w ma m mc) (w9 : IsArrD w sa1 sz1 sc1 da1 dz1 dc1) (E1 : Hid (spE m (xn : Int) true sz1 dz1 = 0)) :
    Calls Try.prog 4 #[.slice ma m.length mc, .int .i64 (xn : Int), .agg #[.bool true, .slice sa1 sz1.length sc1, .slice da1 dz1.length dc1]] w fun e w' => e = .returned (.bool true) ∧ Below w.heap.size w w' := by
  obtain ⟨x1, x2, x3, x4, s64, T⟩ := w9
  have HI : Hid (IsC w.heap.size w sa1 sz1 sc1 ∧ IsC w.heap.size w da1 dz1 dc1 ∧ ∀ j, In64 (nth dz1 j)) := ⟨x3, x4, T⟩
  clear x3 x4 T s64
  have HM : Hid (IsC w.heap.size w ma m mc ∧ ∀ j, In64 (nth m j)) := ⟨wm, Tm⟩
  clear wm Tm
  have Z := spZ.1 E1.out
  have HK : Hid (mskB m = true) := Z.2.2.1
  have hxl : xn < sz1.length := Z.2.1
  have hl6 : sz1.length ≤ 6 := (flawE_short Z.1).1
  have hd4 : dz1.length ≤ 4096 := (flawE_short Z.1).2
  have hm4 : m.length ≤ 4096 := by have h := (errOf_zero.1 Z.2.2.2.2).2.1.nth xn; unfold spS at h; rw [nth_set_self hxl] at h; omega
  clear Z
  obtain ⟨S1, hS1⟩ : ∃ S, S = spS m xn sz1 := ⟨_, rfl⟩
  obtain ⟨D1, hD1⟩ : ∃ D, D = spD m xn true sz1 dz1 := ⟨_, rfl⟩
  have HS1 : Hid (spS m xn sz1 = S1 ∧ spD m xn true sz1 dz1 = D1) := ⟨hS1.symm, hD1.symm⟩
  clear hS1 hD1
  obtain ⟨S2, hS2⟩ : ∃ S, S = kpS (otm m) xn S1 := ⟨_, rfl⟩
  obtain ⟨D2, hD2⟩ : ∃ D, D = kpD (otm m) xn S1 D1 := ⟨_, rfl⟩
  have HS2 : Hid (kpS (otm m) xn S1 = S2 ∧ kpD (otm m) xn S1 D1 = D2) := ⟨hS2.symm, hD2.symm⟩
  clear hS2 hD2
  have K1 := sp_kp E1.out
  have K2 := sp_fills E1.out
  rw [HS1.out.1, HS1.out.2] at K1 K2
  rw [HS2.out.2] at K2
  have HK1 : Hid (kpE m (xn : Int) true S1 D1 = 0 ∧ kpS m xn S1 = sz1 ∧ kpD m xn S1 D1 = dz1) := K1
  have HK2 : Hid (kpE (otm m) (xn : Int) true S1 D1 = 0 ∧ (∀ j, j < D2.length → nth D2 j = 32) ∧ D2.length + dz1.length = D1.length) := K2
  clear K1 K2
  have L1 : Hid (S1.length ≤ 6 ∧ D1.length ≤ 4096 ∧ ∀ j, In64 (nth D1 j)) := by rw [← HS1.out.1, ← HS1.out.2]; exact sp_facts E1.out HI.out.2.2
  have n1 := Abx.new w (.bool true) (.slice sa1 sz1.length sc1) (.slice da1 dz1.length dc1)
  have n2 := lit_mid (w.alloc (.cells #[.bool true, .slice sa1 sz1.length sc1, .slice da1 dz1.length dc1] 24)) 3 [1, 0, 1] 3 rfl
  simp only [World.size_alloc, List.map_cons, List.map_nil] at n2
  have n3 := lit_mid ((w.alloc (.cells #[.bool true, .slice sa1 sz1.length sc1, .slice da1 dz1.length dc1] 24)).alloc (.cells #[.int .i64 1, .int .i64 0, .int .i64 1] 3)) 3 [5, 6] 2 rfl
  simp only [World.size_alloc, List.map_cons, List.map_nil] at n3
  go_enter Try.func4, Try.ntmps4
  go_wp2_with fail
  obtain ⟨wo4, hwo4⟩ : ∃ wo4, wo4 = (((w.alloc (.cells #[.bool true, .slice sa1 sz1.length sc1, .slice da1 dz1.length dc1] 24)).alloc (.cells #[.int .i64 1, .int .i64 0, .int .i64 1] 3)).alloc (.cells #[.int .i64 5, .int .i64 6] 3)) := ⟨_, rfl⟩
  rw [← hwo4]
  have z5 : w.heap.size + 1 + 1 + 1 ≤ wo4.heap.size := by rw [hwo4]; simp only [World.size_alloc]; omega
  have B6 : Hid (Abx wo4 (w.heap.size) (.bool true) (.slice sa1 sz1.length sc1) (.slice da1 dz1.length dc1)) := by rw [hwo4]; exact ((n1.al (.cells #[.int .i64 1, .int .i64 0, .int .i64 1] 3)).al (.cells #[.int .i64 5, .int .i64 6] 3))
  have L7 : Hid (MidC (w.heap.size + 1) (w.heap.size + 1 + 1) wo4 (some ⟨w.heap.size + 1, 0, none⟩) ([1, 0, 1]) (3)) := by rw [hwo4]; exact (n2.al (by simp only [World.size_alloc]; omega) (.cells #[.int .i64 5, .int .i64 6] 3))
  have L8 : Hid (MidC (w.heap.size + 1 + 1) (w.heap.size + 1 + 1 + 1) wo4 (some ⟨w.heap.size + 1 + 1, 0, none⟩) ([5, 6]) (2)) := by rw [hwo4]; exact n3
  have hb9 : Hid (Below w.heap.size w wo4) := by rw [hwo4]; exact ((((Below.refl w.heap.size w).alloc (by omega) (.cells #[.bool true, .slice sa1 sz1.length sc1, .slice da1 dz1.length dc1] 24)).alloc (by simp only [World.size_alloc]; omega) (.cells #[.int .i64 1, .int .i64 0, .int .i64 1] 3)).alloc (by simp only [World.size_alloc]; omega) (.cells #[.int .i64 5, .int .i64 6] 3))
  have zwo4 : w.heap.size ≤ wo4.heap.size := hb9.out.size
  clear hwo4 n1 n2 n3
  refine (vec_c (some ⟨w.heap.size + 1 + 1, 0, none⟩) 2 [5, 6] (by simp) _ (L8.out.is (by omega)).1).mono ?_
  rintro e v1 ⟨va, vc, ga, gc, rfl, hV, hG, hB⟩
  have z10 : wo4.heap.size ≤ v1.heap.size := hB.size
  have B11 : Hid (Abx v1 (w.heap.size) (.bool true) (.slice sa1 sz1.length sc1) (.slice da1 dz1.length dc1)) := B6.out.go hB
  have L12 : Hid (MidC (w.heap.size + 1) (w.heap.size + 1 + 1) v1 (some ⟨w.heap.size + 1, 0, none⟩) ([1, 0, 1]) (3)) := L7.out.go (by omega) hB
  have L13 : Hid (MidC (w.heap.size + 1 + 1) (w.heap.size + 1 + 1 + 1) v1 (some ⟨w.heap.size + 1 + 1, 0, none⟩) ([5, 6]) (2)) := L8.out.go (by omega) hB
  have hb14 : Hid (Below w.heap.size w v1) := hb9.out.trans (hB.mono hb9.out.size)
  have L15 : Hid (MidC (wo4.heap.size) (v1.heap.size) v1 (va) ([(2 : Int)]) (vc)) := hV.midc
  have L16 : Hid (MidC (wo4.heap.size) (v1.heap.size) v1 (ga) ([5, 6]) (gc)) := hG.midc
  clear hB hb9 B6 L7 L8 hV hG
  clear L13
  go_wp2_with fail
  refine (sp_ok (some ⟨w.heap.size + 1, 0, none⟩) 3 [1, 0, 1] 0 (by unfold In64; decide) false va vc [2] ga gc [5, 6] _ (by simp) (lit_all (by decide)) (L12.out.is (by omega)) (by simp) (by simp) (L15.out.is (by omega)) (L16.out.is (by omega)) (lit_all (by decide)) [3] [5, 0, 6] HSp (by decide)).mono ?_
  rintro e v2 ⟨f1, g1, f2, g2, rfl, hX0, hY0, hB⟩
  have z17 : v1.heap.size ≤ v2.heap.size := hB.size
  have B18 : Hid (Abx v2 (w.heap.size) (.bool true) (.slice sa1 sz1.length sc1) (.slice da1 dz1.length dc1)) := B11.out.go hB
  have L19 : Hid (MidC (w.heap.size + 1) (w.heap.size + 1 + 1) v2 (some ⟨w.heap.size + 1, 0, none⟩) ([1, 0, 1]) (3)) := L12.out.go (by omega) hB
  have L20 : Hid (MidC (wo4.heap.size) (v1.heap.size) v2 (va) ([(2 : Int)]) (vc)) := L15.out.go (by omega) hB
  have L21 : Hid (MidC (wo4.heap.size) (v1.heap.size) v2 (ga) ([5, 6]) (gc)) := L16.out.go (by omega) hB
  have hb22 : Hid (Below w.heap.size w v2) := hb14.out.trans (hB.mono hb14.out.size)
  have L23 : Hid (MidC (v1.heap.size) (v2.heap.size) v2 (f1) ([3]) (g1)) := hX0.midc
  have L24 : Hid (MidC (v1.heap.size) (v2.heap.size) v2 (f2) ([5, 0, 6]) (g2)) := hY0.midc
  clear hB hb14 B11 L12 L15 L16 hX0 hY0
  clear L20 L21 L19
  have n25 := Abx.new v2 (.bool false) (.slice f1 1 g1) (.slice f2 3 g2)
  have l26 := (n25).c0
  have l27 := (n25).c1
  have l28 := (n25).c2
  have n29 := lit_mid (v2.alloc (.cells #[.bool false, .slice f1 1 g1, .slice f2 3 g2] 24)) 3 [5, 0, 6] 3 rfl
  simp only [World.size_alloc, List.map_cons, List.map_nil] at n29
  go_wp2_with fail
  obtain ⟨wo30, hwo30⟩ : ∃ wo30, wo30 = ((v2.alloc (.cells #[.bool false, .slice f1 1 g1, .slice f2 3 g2] 24)).alloc (.cells #[.int .i64 5, .int .i64 0, .int .i64 6] 3)) := ⟨_, rfl⟩
  rw [← hwo30]
  have z31 : v2.heap.size + 1 + 1 ≤ wo30.heap.size := by rw [hwo30]; simp only [World.size_alloc]; omega
  have B32 : Hid (Abx wo30 (w.heap.size) (.bool true) (.slice sa1 sz1.length sc1) (.slice da1 dz1.length dc1)) := by rw [hwo30]; exact ((B18.out.al (.cells #[.bool false, .slice f1 1 g1, .slice f2 3 g2] 24)).al (.cells #[.int .i64 5, .int .i64 0, .int .i64 6] 3))
  have B33 : Hid (Abx wo30 (v2.heap.size) (.bool false) (.slice f1 1 g1) (.slice f2 3 g2)) := by rw [hwo30]; exact (n25.al (.cells #[.int .i64 5, .int .i64 0, .int .i64 6] 3))
  have L34 : Hid (MidC (v1.heap.size) (v2.heap.size) wo30 (f1) ([3]) (g1)) := by rw [hwo30]; exact ((L23.out.al (by omega) (.cells #[.bool false, .slice f1 1 g1, .slice f2 3 g2] 24)).al (by simp only [World.size_alloc]; omega) (.cells #[.int .i64 5, .int .i64 0, .int .i64 6] 3))
  have L35 : Hid (MidC (v1.heap.size) (v2.heap.size) wo30 (f2) ([5, 0, 6]) (g2)) := by rw [hwo30]; exact ((L24.out.al (by omega) (.cells #[.bool false, .slice f1 1 g1, .slice f2 3 g2] 24)).al (by simp only [World.size_alloc]; omega) (.cells #[.int .i64 5, .int .i64 0, .int .i64 6] 3))
  have L36 : Hid (MidC (v2.heap.size + 1) (v2.heap.size + 1 + 1) wo30 (some ⟨v2.heap.size + 1, 0, none⟩) ([5, 0, 6]) (3)) := by rw [hwo30]; exact n29
  have hb37 : Hid (Below w.heap.size w wo30) := by rw [hwo30]; exact ((hb22.out.alloc (by omega) (.cells #[.bool false, .slice f1 1 g1, .slice f2 3 g2] 24)).alloc (by simp only [World.size_alloc]; omega) (.cells #[.int .i64 5, .int .i64 0, .int .i64 6] 3))
  have zwo30 : w.heap.size ≤ wo30.heap.size := hb37.out.size
  clear hwo30 n25 l26 l27 l28 n29 hb22 B18 L23 L24
  refine (ints_any f2 g2 [5, 0, 6] (some ⟨v2.heap.size + 1, 0, none⟩) 3 [5, 0, 6] (by simp) _ _ (L35.out.is (by omega)).1 (L36.out.is (by omega)).1).mono ?_
  rintro e v3 ⟨rfl, hB⟩
  have z38 : wo30.heap.size ≤ v3.heap.size := hB.size
  have B39 : Hid (Abx v3 (w.heap.size) (.bool true) (.slice sa1 sz1.length sc1) (.slice da1 dz1.length dc1)) := B32.out.go hB
  have B40 : Hid (Abx v3 (v2.heap.size) (.bool false) (.slice f1 1 g1) (.slice f2 3 g2)) := B33.out.go hB
  have L41 : Hid (MidC (v1.heap.size) (v2.heap.size) v3 (f1) ([3]) (g1)) := L34.out.go (by omega) hB
  have L42 : Hid (MidC (v1.heap.size) (v2.heap.size) v3 (f2) ([5, 0, 6]) (g2)) := L35.out.go (by omega) hB
  have L43 : Hid (MidC (v2.heap.size + 1) (v2.heap.size + 1 + 1) v3 (some ⟨v2.heap.size + 1, 0, none⟩) ([5, 0, 6]) (3)) := L36.out.go (by omega) hB
  have hb44 : Hid (Below w.heap.size w v3) := hb37.out.trans (hB.mono hb37.out.size)
  clear hB hb37 B32 B33 L34 L35 L36
  rw [eqB_true rfl]
  clear L41 L42 L43 B40
  have l45 := (B39.out).c0
  have l46 := (B39.out).c1
  have l47 := (B39.out).c2
  go_wp2_with fail
  clear l45 l46 l47
  refine (sp_ok ma mc m (xn : Int) (by unfold In64; omega) true sa1 sc1 sz1 da1 dc1 dz1 _ hm HM.out.2 ((HM.out.1.below hb44.out).mono hb44.out.size) x1 x2 ((HI.out.1.below hb44.out).mono hb44.out.size) ((HI.out.2.1.below hb44.out).mono hb44.out.size) HI.out.2.2 S1 D1 HSp ⟨E1.out, HS1.out.1, HS1.out.2⟩).mono ?_
  rintro e v4 ⟨xa1, xc1, ya1, yc1, rfl, hX1, hY1, hB⟩
  have z48 : v3.heap.size ≤ v4.heap.size := hB.size
  have B49 : Hid (Abx v4 (w.heap.size) (.bool true) (.slice sa1 sz1.length sc1) (.slice da1 dz1.length dc1)) := B39.out.go hB
  have hb50 : Hid (Below w.heap.size w v4) := hb44.out.trans (hB.mono hb44.out.size)
  have L51 : Hid (MidC (v3.heap.size) (v4.heap.size) v4 (xa1) (S1) (xc1)) := hX1.midc
  have L52 : Hid (MidC (v3.heap.size) (v4.heap.size) v4 (ya1) (D1) (yc1)) := hY1.midc
  clear hB hb44 B39 hX1 hY1
  have n53 := Abx.new v4 (.bool true) (.slice xa1 S1.length xc1) (.slice ya1 D1.length yc1)
  have l54 := (n53).c0
  have l55 := (n53).c1
  have l56 := (n53).c2
  go_wp2_with fail
  obtain ⟨wo57, hwo57⟩ : ∃ wo57, wo57 = (v4.alloc (.cells #[.bool true, .slice xa1 S1.length xc1, .slice ya1 D1.length yc1] 24)) := ⟨_, rfl⟩
  rw [← hwo57]
  have z58 : v4.heap.size + 1 ≤ wo57.heap.size := by rw [hwo57]; simp only [World.size_alloc]; omega
  have B59 : Hid (Abx wo57 (w.heap.size) (.bool true) (.slice sa1 sz1.length sc1) (.slice da1 dz1.length dc1)) := by rw [hwo57]; exact (B49.out.al (.cells #[.bool true, .slice xa1 S1.length xc1, .slice ya1 D1.length yc1] 24))
  have B60 : Hid (Abx wo57 (v4.heap.size) (.bool true) (.slice xa1 S1.length xc1) (.slice ya1 D1.length yc1)) := by rw [hwo57]; exact n53
  have L61 : Hid (MidC (v3.heap.size) (v4.heap.size) wo57 (xa1) (S1) (xc1)) := by rw [hwo57]; exact (L51.out.al (by omega) (.cells #[.bool true, .slice xa1 S1.length xc1, .slice ya1 D1.length yc1] 24))
  have L62 : Hid (MidC (v3.heap.size) (v4.heap.size) wo57 (ya1) (D1) (yc1)) := by rw [hwo57]; exact (L52.out.al (by omega) (.cells #[.bool true, .slice xa1 S1.length xc1, .slice ya1 D1.length yc1] 24))
  have hb63 : Hid (Below w.heap.size w wo57) := by rw [hwo57]; exact (hb50.out.alloc (by omega) (.cells #[.bool true, .slice xa1 S1.length xc1, .slice ya1 D1.length yc1] 24))
  have zwo57 : w.heap.size ≤ wo57.heap.size := hb63.out.size
  clear hwo57 n53 l54 l55 l56 hb50 B49 L51 L52
  refine (kp_ok ma mc m (xn : Int) (by unfold In64; omega) true xa1 xc1 S1 ya1 yc1 D1 _ hm HM.out.2 ((HM.out.1.below hb63.out).mono hb63.out.size) (by have := L1.out.1; omega) (by have := L1.out.2.1; omega) (L61.out.is (by omega)) (L62.out.is (by omega)) L1.out.2.2 sz1 dz1 HK0 HK1.out).mono ?_
  rintro e v5 ⟨xa3, xc3, ya3, yc3, rfl, hX3, hY3, hB⟩
  have z64 : wo57.heap.size ≤ v5.heap.size := hB.size
  have B65 : Hid (Abx v5 (w.heap.size) (.bool true) (.slice sa1 sz1.length sc1) (.slice da1 dz1.length dc1)) := B59.out.go hB
  have B66 : Hid (Abx v5 (v4.heap.size) (.bool true) (.slice xa1 S1.length xc1) (.slice ya1 D1.length yc1)) := B60.out.go hB
  have L67 : Hid (MidC (v3.heap.size) (v4.heap.size) v5 (xa1) (S1) (xc1)) := L61.out.go (by omega) hB
  have L68 : Hid (MidC (v3.heap.size) (v4.heap.size) v5 (ya1) (D1) (yc1)) := L62.out.go (by omega) hB
  have hb69 : Hid (Below w.heap.size w v5) := hb63.out.trans (hB.mono hb63.out.size)
  have L70 : Hid (MidC (wo57.heap.size) (v5.heap.size) v5 (xa3) (sz1) (xc3)) := hX3.midc
  have L71 : Hid (MidC (wo57.heap.size) (v5.heap.size) v5 (ya3) (dz1) (yc3)) := hY3.midc
  clear hB hb63 B59 B60 L61 L62 hX3 hY3
  have n72 := Abx.new v5 (.bool true) (.slice xa3 sz1.length xc3) (.slice ya3 dz1.length yc3)
  have l73 := (n72).c0
  have l74 := (n72).c1
  have l75 := (n72).c2
  have l76 := ((B65.out.al (.cells #[.bool true, .slice xa3 sz1.length xc3, .slice ya3 dz1.length yc3] 24))).c0
  have l77 := ((B65.out.al (.cells #[.bool true, .slice xa3 sz1.length xc3, .slice ya3 dz1.length yc3] 24))).c1
  have l78 := ((B65.out.al (.cells #[.bool true, .slice xa3 sz1.length xc3, .slice ya3 dz1.length yc3] 24))).c2
  go_wp2_with fail
  obtain ⟨wo79, hwo79⟩ : ∃ wo79, wo79 = (v5.alloc (.cells #[.bool true, .slice xa3 sz1.length xc3, .slice ya3 dz1.length yc3] 24)) := ⟨_, rfl⟩
  rw [← hwo79]
  have z80 : v5.heap.size + 1 ≤ wo79.heap.size := by rw [hwo79]; simp only [World.size_alloc]; omega
  have B81 : Hid (Abx wo79 (w.heap.size) (.bool true) (.slice sa1 sz1.length sc1) (.slice da1 dz1.length dc1)) := by rw [hwo79]; exact (B65.out.al (.cells #[.bool true, .slice xa3 sz1.length xc3, .slice ya3 dz1.length yc3] 24))
  have B82 : Hid (Abx wo79 (v4.heap.size) (.bool true) (.slice xa1 S1.length xc1) (.slice ya1 D1.length yc1)) := by rw [hwo79]; exact (B66.out.al (.cells #[.bool true, .slice xa3 sz1.length xc3, .slice ya3 dz1.length yc3] 24))
  have B83 : Hid (Abx wo79 (v5.heap.size) (.bool true) (.slice xa3 sz1.length xc3) (.slice ya3 dz1.length yc3)) := by rw [hwo79]; exact n72
  have L84 : Hid (MidC (v3.heap.size) (v4.heap.size) wo79 (xa1) (S1) (xc1)) := by rw [hwo79]; exact (L67.out.al (by omega) (.cells #[.bool true, .slice xa3 sz1.length xc3, .slice ya3 dz1.length yc3] 24))
  have L85 : Hid (MidC (v3.heap.size) (v4.heap.size) wo79 (ya1) (D1) (yc1)) := by rw [hwo79]; exact (L68.out.al (by omega) (.cells #[.bool true, .slice xa3 sz1.length xc3, .slice ya3 dz1.length yc3] 24))
  have L86 : Hid (MidC (wo57.heap.size) (v5.heap.size) wo79 (xa3) (sz1) (xc3)) := by rw [hwo79]; exact (L70.out.al (by omega) (.cells #[.bool true, .slice xa3 sz1.length xc3, .slice ya3 dz1.length yc3] 24))
  have L87 : Hid (MidC (wo57.heap.size) (v5.heap.size) wo79 (ya3) (dz1) (yc3)) := by rw [hwo79]; exact (L71.out.al (by omega) (.cells #[.bool true, .slice xa3 sz1.length xc3, .slice ya3 dz1.length yc3] 24))
  have hb88 : Hid (Below w.heap.size w wo79) := by rw [hwo79]; exact (hb69.out.alloc (by omega) (.cells #[.bool true, .slice xa3 sz1.length xc3, .slice ya3 dz1.length yc3] 24))
  have zwo79 : w.heap.size ≤ wo79.heap.size := hb88.out.size
  clear hwo79 n72 l73 l74 l75 l76 l77 l78 hb69 B65 B66 L67 L68 L70 L71
  refine (alike_eq true xa3 xc3 sz1 ya3 yc3 dz1 sa1 sc1 sz1 da1 dc1 dz1 rfl rfl x1 x2 _ (L86.out.is (by omega)) (L87.out.is (by omega)).1 ((HI.out.1.below hb88.out).mono hb88.out.size) ((HI.out.2.1.1.below hb88.out).mono hb88.out.size)).mono ?_
  rintro e v6 ⟨rfl, hB⟩
  have z89 : wo79.heap.size ≤ v6.heap.size := hB.size
  have B90 : Hid (Abx v6 (w.heap.size) (.bool true) (.slice sa1 sz1.length sc1) (.slice da1 dz1.length dc1)) := B81.out.go hB
  have B91 : Hid (Abx v6 (v4.heap.size) (.bool true) (.slice xa1 S1.length xc1) (.slice ya1 D1.length yc1)) := B82.out.go hB
  have B92 : Hid (Abx v6 (v5.heap.size) (.bool true) (.slice xa3 sz1.length xc3) (.slice ya3 dz1.length yc3)) := B83.out.go hB
  have L93 : Hid (MidC (v3.heap.size) (v4.heap.size) v6 (xa1) (S1) (xc1)) := L84.out.go (by omega) hB
  have L94 : Hid (MidC (v3.heap.size) (v4.heap.size) v6 (ya1) (D1) (yc1)) := L85.out.go (by omega) hB
  have L95 : Hid (MidC (wo57.heap.size) (v5.heap.size) v6 (xa3) (sz1) (xc3)) := L86.out.go (by omega) hB
  have L96 : Hid (MidC (wo57.heap.size) (v5.heap.size) v6 (ya3) (dz1) (yc3)) := L87.out.go (by omega) hB
  have hb97 : Hid (Below w.heap.size w v6) := hb88.out.trans (hB.mono hb88.out.size)
  clear hB hb88 B81 B82 B83 L84 L85 L86 L87
  clear L95 L96
  have hmk := run_make_row' (P := Try.prog) 22 3 (.int .i64 0) 8 Try.underlying22 Try.infoInt rfl .i64 .i64 m.length (by omega) (by omega)
  go_wp2_with fail
  clear hmk
  have HR0 : Hid ((v6.alloc (.cells (madeCells #[.int .i64 0] m.length) 3)).rowIs (v6.heap.size) 3 m.length (upTo (nth (otm m)) 0)) := by have r := World.rowIs_made v6 (.int .i64 0) m.length 3; exact r.congr (fun j _ => by simp [upTo])
  go_loopw [16] (fun i wr => ∃ k : Nat, k ≤ m.length ∧ i = .int .i64 k ∧ wr.rowIs (v6.heap.size) 3 m.length (upTo (nth (otm m)) k) ∧ Below v6.heap.size v6 wr) (fun i _ => m.length - (intOf i).toNat)
  case atStart => exact ⟨0, Nat.zero_le _, rfl, HR0.out, (Below.refl _ v6).alloc (Nat.le_refl _) _⟩
  case round =>
    obtain ⟨k, hk, rfl, hrow, hBv⟩ := hrel
    clear HR0
    by_cases hlt : k < m.length
    · have hBw : Below w.heap.size w wr := hb97.out.trans (hBv.mono hb97.out.size)
      obtain ⟨bm, om, rfl, hbm, hcM⟩ := (HM.out.1.1.below hBw).at hlt
      have cm := hcM k hlt
      have hm1 := mskB_nth HK.out hlt
      have HV : Hid (1 - nth m k = nth (otm m) k) := (otm_nth m hlt).symm
      have c2 := hrow.cell hlt
      have f2 := hrow.frozen k
      have HQ : Hid (wr.rowIs (v6.heap.size) 3 m.length (upTo (nth (otm m)) k) ∧ Below v6.heap.size v6 wr) := ⟨hrow, hBv⟩
      clear hcM hrow hBv hBw
      go_wp2_with fail
      refine ⟨⟨k + 1, by omega, by go_num, upTo_set HQ.out.1 _ HV.out, HQ.out.2.setCell (p := ⟨v6.heap.size, k, none⟩) (by show v6.heap.size ≤ v6.heap.size; omega) _⟩, by simp [intOf]; omega⟩
    · obtain rfl : k = m.length := by omega
      have hO : NewC (v6.heap.size) wr (some ⟨v6.heap.size, 0, none⟩) (otm m) m.length := ⟨upTo_new hrow (Nat.le_refl _) (otm m) (otm_length m) (fun j hj => rfl), by rw [otm_length]; exact Nat.le_refl _⟩
      have hO2 := hO.midc
      have z98 : v6.heap.size ≤ wr.heap.size := hBv.size
      have B99 : Hid (Abx wr (w.heap.size) (.bool true) (.slice sa1 sz1.length sc1) (.slice da1 dz1.length dc1)) := B90.out.go hBv
      have B100 : Hid (Abx wr (v4.heap.size) (.bool true) (.slice xa1 S1.length xc1) (.slice ya1 D1.length yc1)) := B91.out.go hBv
      have B101 : Hid (Abx wr (v5.heap.size) (.bool true) (.slice xa3 sz1.length xc3) (.slice ya3 dz1.length yc3)) := B92.out.go hBv
      have L102 : Hid (MidC (v3.heap.size) (v4.heap.size) wr (xa1) (S1) (xc1)) := L93.out.go (by omega) hBv
      have L103 : Hid (MidC (v3.heap.size) (v4.heap.size) wr (ya1) (D1) (yc1)) := L94.out.go (by omega) hBv
      have hb104 : Hid (Below w.heap.size w wr) := hb97.out.trans (hBv.mono hb97.out.size)
      have L105 : Hid (MidC (v6.heap.size) (wr.heap.size) wr (some ⟨v6.heap.size, 0, none⟩) (otm m) (m.length)) := hO2
      clear hrow hBv hO hO2 hlt hk hb97 B90 B91 B92 L93 L94
      have l106 := (B100.out).c0
      have l107 := (B100.out).c1
      have l108 := (B100.out).c2
      go_wp2_with fail
      clear l106 l107 l108
      refine (kp_okl (some ⟨v6.heap.size, 0, none⟩) m.length (otm m) m.length (otm_length m) (xn : Int) (by unfold In64; omega) true xa1 xc1 S1 ya1 yc1 D1 _ (by rw [otm_length]; exact hm) (otm_64 HK.out) (L105.out.is (by omega)) (by have := L1.out.1; omega) (by have := L1.out.2.1; omega) (L102.out.is (by omega)) (L103.out.is (by omega)) L1.out.2.2 S2 D2 HK0 ⟨HK2.out.1, HS2.out.1, HS2.out.2⟩).mono ?_
      rintro e v7 ⟨xa2, xc2, ya2, yc2, rfl, hX2, hY2, hB⟩
      have z109 : wr.heap.size ≤ v7.heap.size := hB.size
      have B110 : Hid (Abx v7 (w.heap.size) (.bool true) (.slice sa1 sz1.length sc1) (.slice da1 dz1.length dc1)) := B99.out.go hB
      have B111 : Hid (Abx v7 (v4.heap.size) (.bool true) (.slice xa1 S1.length xc1) (.slice ya1 D1.length yc1)) := B100.out.go hB
      have B112 : Hid (Abx v7 (v5.heap.size) (.bool true) (.slice xa3 sz1.length xc3) (.slice ya3 dz1.length yc3)) := B101.out.go hB
      have L113 : Hid (MidC (v3.heap.size) (v4.heap.size) v7 (xa1) (S1) (xc1)) := L102.out.go (by omega) hB
      have L114 : Hid (MidC (v3.heap.size) (v4.heap.size) v7 (ya1) (D1) (yc1)) := L103.out.go (by omega) hB
      have L115 : Hid (MidC (v6.heap.size) (wr.heap.size) v7 (some ⟨v6.heap.size, 0, none⟩) (otm m) (m.length)) := L105.out.go (by omega) hB
      have hb116 : Hid (Below w.heap.size w v7) := hb104.out.trans (hB.mono hb104.out.size)
      have L117 : Hid (MidC (wr.heap.size) (v7.heap.size) v7 (xa2) (S2) (xc2)) := hX2.midc
      have L118 : Hid (MidC (wr.heap.size) (v7.heap.size) v7 (ya2) (D2) (yc2)) := hY2.midc
      clear hB hb104 B99 B100 B101 L102 L103 L105 hX2 hY2
      clear L115 L113 L114
      have n119 := Abx.new v7 (.bool true) (.slice xa2 S2.length xc2) (.slice ya2 D2.length yc2)
      have l120 := ((B110.out.al (.cells #[.bool true, .slice xa2 S2.length xc2, .slice ya2 D2.length yc2] 24))).c0
      have l121 := ((B110.out.al (.cells #[.bool true, .slice xa2 S2.length xc2, .slice ya2 D2.length yc2] 24))).c1
      have l122 := ((B110.out.al (.cells #[.bool true, .slice xa2 S2.length xc2, .slice ya2 D2.length yc2] 24))).c2
      have l123 := (n119).c0
      have l124 := (n119).c1
      have l125 := (n119).c2
      go_wp2_with fail
      obtain ⟨wo126, hwo126⟩ : ∃ wo126, wo126 = (v7.alloc (.cells #[.bool true, .slice xa2 S2.length xc2, .slice ya2 D2.length yc2] 24)) := ⟨_, rfl⟩
      rw [← hwo126]
      have z127 : v7.heap.size + 1 ≤ wo126.heap.size := by rw [hwo126]; simp only [World.size_alloc]; omega
      have B128 : Hid (Abx wo126 (w.heap.size) (.bool true) (.slice sa1 sz1.length sc1) (.slice da1 dz1.length dc1)) := by rw [hwo126]; exact (B110.out.al (.cells #[.bool true, .slice xa2 S2.length xc2, .slice ya2 D2.length yc2] 24))
      have B129 : Hid (Abx wo126 (v4.heap.size) (.bool true) (.slice xa1 S1.length xc1) (.slice ya1 D1.length yc1)) := by rw [hwo126]; exact (B111.out.al (.cells #[.bool true, .slice xa2 S2.length xc2, .slice ya2 D2.length yc2] 24))
      have B130 : Hid (Abx wo126 (v5.heap.size) (.bool true) (.slice xa3 sz1.length xc3) (.slice ya3 dz1.length yc3)) := by rw [hwo126]; exact (B112.out.al (.cells #[.bool true, .slice xa2 S2.length xc2, .slice ya2 D2.length yc2] 24))
      have B131 : Hid (Abx wo126 (v7.heap.size) (.bool true) (.slice xa2 S2.length xc2) (.slice ya2 D2.length yc2)) := by rw [hwo126]; exact n119
      have L132 : Hid (MidC (wr.heap.size) (v7.heap.size) wo126 (xa2) (S2) (xc2)) := by rw [hwo126]; exact (L117.out.al (by omega) (.cells #[.bool true, .slice xa2 S2.length xc2, .slice ya2 D2.length yc2] 24))
      have L133 : Hid (MidC (wr.heap.size) (v7.heap.size) wo126 (ya2) (D2) (yc2)) := by rw [hwo126]; exact (L118.out.al (by omega) (.cells #[.bool true, .slice xa2 S2.length xc2, .slice ya2 D2.length yc2] 24))
      have hb134 : Hid (Below w.heap.size w wo126) := by rw [hwo126]; exact (hb116.out.alloc (by omega) (.cells #[.bool true, .slice xa2 S2.length xc2, .slice ya2 D2.length yc2] 24))
      have zwo126 : w.heap.size ≤ wo126.heap.size := hb134.out.size
      clear hwo126 n119 l120 l121 l122 l123 l124 l125 hb116 B110 B111 B112 L117 L118
      have hd2 : D2.length ≤ 4096 := by have := HK2.out.2.2; have := L1.out.2.1; omega
      go_loopw [20] (fun i wr => ∃ k : Nat, k ≤ D2.length ∧ i = .int .i64 k ∧ wr = wo126) (fun i _ => D2.length - (intOf i).toNat)
      case atStart => exact ⟨0, Nat.zero_le _, rfl, rfl⟩
      case round =>
        obtain ⟨k, hk, rfl, hv⟩ := hrel
        obtain rfl := hv.symm
        clear hv
        have e2 := B131.out.c2
        by_cases hlt : k < D2.length
        · obtain ⟨bz, oz, ez, _, _, cz, _⟩ := L133.out.at hlt
          cases ez
          rw [HK2.out.2.1 k hlt] at cz
          go_wp2_with fail
          exact ⟨⟨k + 1, by omega, by go_num, by first | rfl | trivial⟩, by simp [intOf]; omega⟩
        · obtain rfl : k = D2.length := by omega
          have e3 := B130.out.c2
          have e4 := B129.out.c2
          have hsum : ((D2.length : Int) + (dz1.length : Int) == (D1.length : Int)) = true := by have := HK2.out.2.2; simp; omega
          have hs2 : (D2.length : Int) + (dz1.length : Int) = (D1.length : Int) := by have := HK2.out.2.2; omega
          go_wp2_with fail
          go_ret
          exact ⟨rfl, hb134.out⟩
set_option maxRecDepth 100000 in
set_option maxHeartbeats 8000000 in
theorem back_ok_false (HK0 : CKp) (HSp : CSp) (ma : Option Addr) (mc : Nat) (m : List Int) (hm : m.length ≤ 9223372036854775807) (Tm : ∀ j, In64 (nth m j)) (xn : Nat) (sa1 : Option Addr) (sc1 : Nat) (sz1 : List Int) (da1 : Option Addr) (dc1 : Nat) (dz1 : List Int) (w : World) (wm : IsC w.heap.size w ma m mc) (w9 : IsArrD w sa1 sz1 sc1 da1 dz1 dc1) (E1 : Hid (spE m (xn : Int) false sz1 dz1 = 0)) :
    Calls Try.prog 4 #[.slice ma m.length mc, .int .i64 (xn : Int), .agg #[.bool false, .slice sa1 sz1.length sc1, .slice da1 dz1.length dc1]] w fun e w' => e = .returned (.bool true) ∧ Below w.heap.size w w' := by
  obtain ⟨x1, x2, x3, x4, s64, T⟩ := w9
  have HI : Hid (IsC w.heap.size w sa1 sz1 sc1 ∧ IsC w.heap.size w da1 dz1 dc1 ∧ ∀ j, In64 (nth dz1 j)) := ⟨x3, x4, T⟩
  clear x3 x4 T s64
  have HM : Hid (IsC w.heap.size w ma m mc ∧ ∀ j, In64 (nth m j)) := ⟨wm, Tm⟩
  clear wm Tm
  have Z := spZ.1 E1.out
  have HK : Hid (mskB m = true) := Z.2.2.1
  have hxl : xn < sz1.length := Z.2.1
  have hl6 : sz1.length ≤ 6 := (flawE_short Z.1).1
  have hd4 : dz1.length ≤ 4096 := (flawE_short Z.1).2
  have hm4 : m.length ≤ 4096 := by have h := (errOf_zero.1 Z.2.2.2.2).2.1.nth xn; unfold spS at h; rw [nth_set_self hxl] at h; omega
  clear Z
  obtain ⟨S1, hS1⟩ : ∃ S, S = spS m xn sz1 := ⟨_, rfl⟩
  obtain ⟨D1, hD1⟩ : ∃ D, D = spD m xn false sz1 dz1 := ⟨_, rfl⟩
  have HS1 : Hid (spS m xn sz1 = S1 ∧ spD m xn false sz1 dz1 = D1) := ⟨hS1.symm, hD1.symm⟩
  clear hS1 hD1
  obtain ⟨S2, hS2⟩ : ∃ S, S = kpS (otm m) xn S1 := ⟨_, rfl⟩
  obtain ⟨D2, hD2⟩ : ∃ D, D = kpD (otm m) xn S1 D1 := ⟨_, rfl⟩
  have HS2 : Hid (kpS (otm m) xn S1 = S2 ∧ kpD (otm m) xn S1 D1 = D2) := ⟨hS2.symm, hD2.symm⟩
  clear hS2 hD2
  have K1 := sp_kp E1.out
  have K2 := sp_fills E1.out
  rw [HS1.out.1, HS1.out.2] at K1 K2
  rw [HS2.out.2] at K2
  have HK1 : Hid (kpE m (xn : Int) false S1 D1 = 0 ∧ kpS m xn S1 = sz1 ∧ kpD m xn S1 D1 = dz1) := K1
  have HK2 : Hid (kpE (otm m) (xn : Int) false S1 D1 = 0 ∧ (∀ j, j < D2.length → nth D2 j = 0) ∧ D2.length + dz1.length = D1.length) := K2
  clear K1 K2
  have L1 : Hid (S1.length ≤ 6 ∧ D1.length ≤ 4096 ∧ ∀ j, In64 (nth D1 j)) := by rw [← HS1.out.1, ← HS1.out.2]; exact sp_facts E1.out HI.out.2.2
  have n1 := Abx.new w (.bool false) (.slice sa1 sz1.length sc1) (.slice da1 dz1.length dc1)
  have n2 := lit_mid (w.alloc (.cells #[.bool false, .slice sa1 sz1.length sc1, .slice da1 dz1.length dc1] 24)) 3 [1, 0, 1] 3 rfl
  simp only [World.size_alloc, List.map_cons, List.map_nil] at n2
  have n3 := lit_mid ((w.alloc (.cells #[.bool false, .slice sa1 sz1.length sc1, .slice da1 dz1.length dc1] 24)).alloc (.cells #[.int .i64 1, .int .i64 0, .int .i64 1] 3)) 3 [5, 6] 2 rfl
  simp only [World.size_alloc, List.map_cons, List.map_nil] at n3
  go_enter Try.func4, Try.ntmps4
  go_wp2_with fail
  obtain ⟨wo4, hwo4⟩ : ∃ wo4, wo4 = (((w.alloc (.cells #[.bool false, .slice sa1 sz1.length sc1, .slice da1 dz1.length dc1] 24)).alloc (.cells #[.int .i64 1, .int .i64 0, .int .i64 1] 3)).alloc (.cells #[.int .i64 5, .int .i64 6] 3)) := ⟨_, rfl⟩
  rw [← hwo4]
  have z5 : w.heap.size + 1 + 1 + 1 ≤ wo4.heap.size := by rw [hwo4]; simp only [World.size_alloc]; omega
  have B6 : Hid (Abx wo4 (w.heap.size) (.bool false) (.slice sa1 sz1.length sc1) (.slice da1 dz1.length dc1)) := by rw [hwo4]; exact ((n1.al (.cells #[.int .i64 1, .int .i64 0, .int .i64 1] 3)).al (.cells #[.int .i64 5, .int .i64 6] 3))
  have L7 : Hid (MidC (w.heap.size + 1) (w.heap.size + 1 + 1) wo4 (some ⟨w.heap.size + 1, 0, none⟩) ([1, 0, 1]) (3)) := by rw [hwo4]; exact (n2.al (by simp only [World.size_alloc]; omega) (.cells #[.int .i64 5, .int .i64 6] 3))
  have L8 : Hid (MidC (w.heap.size + 1 + 1) (w.heap.size + 1 + 1 + 1) wo4 (some ⟨w.heap.size + 1 + 1, 0, none⟩) ([5, 6]) (2)) := by rw [hwo4]; exact n3
  have hb9 : Hid (Below w.heap.size w wo4) := by rw [hwo4]; exact ((((Below.refl w.heap.size w).alloc (by omega) (.cells #[.bool false, .slice sa1 sz1.length sc1, .slice da1 dz1.length dc1] 24)).alloc (by simp only [World.size_alloc]; omega) (.cells #[.int .i64 1, .int .i64 0, .int .i64 1] 3)).alloc (by simp only [World.size_alloc]; omega) (.cells #[.int .i64 5, .int .i64 6] 3))
  have zwo4 : w.heap.size ≤ wo4.heap.size := hb9.out.size
  clear hwo4 n1 n2 n3
  refine (vec_c (some ⟨w.heap.size + 1 + 1, 0, none⟩) 2 [5, 6] (by simp) _ (L8.out.is (by omega)).1).mono ?_
  rintro e v1 ⟨va, vc, ga, gc, rfl, hV, hG, hB⟩
  have z10 : wo4.heap.size ≤ v1.heap.size := hB.size
  have B11 : Hid (Abx v1 (w.heap.size) (.bool false) (.slice sa1 sz1.length sc1) (.slice da1 dz1.length dc1)) := B6.out.go hB
  have L12 : Hid (MidC (w.heap.size + 1) (w.heap.size + 1 + 1) v1 (some ⟨w.heap.size + 1, 0, none⟩) ([1, 0, 1]) (3)) := L7.out.go (by omega) hB
  have L13 : Hid (MidC (w.heap.size + 1 + 1) (w.heap.size + 1 + 1 + 1) v1 (some ⟨w.heap.size + 1 + 1, 0, none⟩) ([5, 6]) (2)) := L8.out.go (by omega) hB
  have hb14 : Hid (Below w.heap.size w v1) := hb9.out.trans (hB.mono hb9.out.size)
  have L15 : Hid (MidC (wo4.heap.size) (v1.heap.size) v1 (va) ([(2 : Int)]) (vc)) := hV.midc
  have L16 : Hid (MidC (wo4.heap.size) (v1.heap.size) v1 (ga) ([5, 6]) (gc)) := hG.midc
  clear hB hb9 B6 L7 L8 hV hG
  clear L13
  go_wp2_with fail
  refine (sp_ok (some ⟨w.heap.size + 1, 0, none⟩) 3 [1, 0, 1] 0 (by unfold In64; decide) false va vc [2] ga gc [5, 6] _ (by simp) (lit_all (by decide)) (L12.out.is (by omega)) (by simp) (by simp) (L15.out.is (by omega)) (L16.out.is (by omega)) (lit_all (by decide)) [3] [5, 0, 6] HSp (by decide)).mono ?_
  rintro e v2 ⟨f1, g1, f2, g2, rfl, hX0, hY0, hB⟩
  have z17 : v1.heap.size ≤ v2.heap.size := hB.size
  have B18 : Hid (Abx v2 (w.heap.size) (.bool false) (.slice sa1 sz1.length sc1) (.slice da1 dz1.length dc1)) := B11.out.go hB
  have L19 : Hid (MidC (w.heap.size + 1) (w.heap.size + 1 + 1) v2 (some ⟨w.heap.size + 1, 0, none⟩) ([1, 0, 1]) (3)) := L12.out.go (by omega) hB
  have L20 : Hid (MidC (wo4.heap.size) (v1.heap.size) v2 (va) ([(2 : Int)]) (vc)) := L15.out.go (by omega) hB
  have L21 : Hid (MidC (wo4.heap.size) (v1.heap.size) v2 (ga) ([5, 6]) (gc)) := L16.out.go (by omega) hB
  have hb22 : Hid (Below w.heap.size w v2) := hb14.out.trans (hB.mono hb14.out.size)
  have L23 : Hid (MidC (v1.heap.size) (v2.heap.size) v2 (f1) ([3]) (g1)) := hX0.midc
  have L24 : Hid (MidC (v1.heap.size) (v2.heap.size) v2 (f2) ([5, 0, 6]) (g2)) := hY0.midc
  clear hB hb14 B11 L12 L15 L16 hX0 hY0
  clear L20 L21 L19
  have n25 := Abx.new v2 (.bool false) (.slice f1 1 g1) (.slice f2 3 g2)
  have l26 := (n25).c0
  have l27 := (n25).c1
  have l28 := (n25).c2
  have n29 := lit_mid (v2.alloc (.cells #[.bool false, .slice f1 1 g1, .slice f2 3 g2] 24)) 3 [5, 0, 6] 3 rfl
  simp only [World.size_alloc, List.map_cons, List.map_nil] at n29
  go_wp2_with fail
  obtain ⟨wo30, hwo30⟩ : ∃ wo30, wo30 = ((v2.alloc (.cells #[.bool false, .slice f1 1 g1, .slice f2 3 g2] 24)).alloc (.cells #[.int .i64 5, .int .i64 0, .int .i64 6] 3)) := ⟨_, rfl⟩
  rw [← hwo30]
  have z31 : v2.heap.size + 1 + 1 ≤ wo30.heap.size := by rw [hwo30]; simp only [World.size_alloc]; omega
  have B32 : Hid (Abx wo30 (w.heap.size) (.bool false) (.slice sa1 sz1.length sc1) (.slice da1 dz1.length dc1)) := by rw [hwo30]; exact ((B18.out.al (.cells #[.bool false, .slice f1 1 g1, .slice f2 3 g2] 24)).al (.cells #[.int .i64 5, .int .i64 0, .int .i64 6] 3))
  have B33 : Hid (Abx wo30 (v2.heap.size) (.bool false) (.slice f1 1 g1) (.slice f2 3 g2)) := by rw [hwo30]; exact (n25.al (.cells #[.int .i64 5, .int .i64 0, .int .i64 6] 3))
  have L34 : Hid (MidC (v1.heap.size) (v2.heap.size) wo30 (f1) ([3]) (g1)) := by rw [hwo30]; exact ((L23.out.al (by omega) (.cells #[.bool false, .slice f1 1 g1, .slice f2 3 g2] 24)).al (by simp only [World.size_alloc]; omega) (.cells #[.int .i64 5, .int .i64 0, .int .i64 6] 3))
  have L35 : Hid (MidC (v1.heap.size) (v2.heap.size) wo30 (f2) ([5, 0, 6]) (g2)) := by rw [hwo30]; exact ((L24.out.al (by omega) (.cells #[.bool false, .slice f1 1 g1, .slice f2 3 g2] 24)).al (by simp only [World.size_alloc]; omega) (.cells #[.int .i64 5, .int .i64 0, .int .i64 6] 3))
  have L36 : Hid (MidC (v2.heap.size + 1) (v2.heap.size + 1 + 1) wo30 (some ⟨v2.heap.size + 1, 0, none⟩) ([5, 0, 6]) (3)) := by rw [hwo30]; exact n29
  have hb37 : Hid (Below w.heap.size w wo30) := by rw [hwo30]; exact ((hb22.out.alloc (by omega) (.cells #[.bool false, .slice f1 1 g1, .slice f2 3 g2] 24)).alloc (by simp only [World.size_alloc]; omega) (.cells #[.int .i64 5, .int .i64 0, .int .i64 6] 3))
  have zwo30 : w.heap.size ≤ wo30.heap.size := hb37.out.size
  clear hwo30 n25 l26 l27 l28 n29 hb22 B18 L23 L24
  refine (ints_any f2 g2 [5, 0, 6] (some ⟨v2.heap.size + 1, 0, none⟩) 3 [5, 0, 6] (by simp) _ _ (L35.out.is (by omega)).1 (L36.out.is (by omega)).1).mono ?_
  rintro e v3 ⟨rfl, hB⟩
  have z38 : wo30.heap.size ≤ v3.heap.size := hB.size
  have B39 : Hid (Abx v3 (w.heap.size) (.bool false) (.slice sa1 sz1.length sc1) (.slice da1 dz1.length dc1)) := B32.out.go hB
  have B40 : Hid (Abx v3 (v2.heap.size) (.bool false) (.slice f1 1 g1) (.slice f2 3 g2)) := B33.out.go hB
  have L41 : Hid (MidC (v1.heap.size) (v2.heap.size) v3 (f1) ([3]) (g1)) := L34.out.go (by omega) hB
  have L42 : Hid (MidC (v1.heap.size) (v2.heap.size) v3 (f2) ([5, 0, 6]) (g2)) := L35.out.go (by omega) hB
  have L43 : Hid (MidC (v2.heap.size + 1) (v2.heap.size + 1 + 1) v3 (some ⟨v2.heap.size + 1, 0, none⟩) ([5, 0, 6]) (3)) := L36.out.go (by omega) hB
  have hb44 : Hid (Below w.heap.size w v3) := hb37.out.trans (hB.mono hb37.out.size)
  clear hB hb37 B32 B33 L34 L35 L36
  rw [eqB_true rfl]
  clear L41 L42 L43 B40
  have l45 := (B39.out).c0
  have l46 := (B39.out).c1
  have l47 := (B39.out).c2
  go_wp2_with fail
  clear l45 l46 l47
  refine (sp_ok ma mc m (xn : Int) (by unfold In64; omega) false sa1 sc1 sz1 da1 dc1 dz1 _ hm HM.out.2 ((HM.out.1.below hb44.out).mono hb44.out.size) x1 x2 ((HI.out.1.below hb44.out).mono hb44.out.size) ((HI.out.2.1.below hb44.out).mono hb44.out.size) HI.out.2.2 S1 D1 HSp ⟨E1.out, HS1.out.1, HS1.out.2⟩).mono ?_
  rintro e v4 ⟨xa1, xc1, ya1, yc1, rfl, hX1, hY1, hB⟩
  have z48 : v3.heap.size ≤ v4.heap.size := hB.size
  have B49 : Hid (Abx v4 (w.heap.size) (.bool false) (.slice sa1 sz1.length sc1) (.slice da1 dz1.length dc1)) := B39.out.go hB
  have hb50 : Hid (Below w.heap.size w v4) := hb44.out.trans (hB.mono hb44.out.size)
  have L51 : Hid (MidC (v3.heap.size) (v4.heap.size) v4 (xa1) (S1) (xc1)) := hX1.midc
  have L52 : Hid (MidC (v3.heap.size) (v4.heap.size) v4 (ya1) (D1) (yc1)) := hY1.midc
  clear hB hb44 B39 hX1 hY1
  have n53 := Abx.new v4 (.bool false) (.slice xa1 S1.length xc1) (.slice ya1 D1.length yc1)
  have l54 := (n53).c0
  have l55 := (n53).c1
  have l56 := (n53).c2
  go_wp2_with fail
  obtain ⟨wo57, hwo57⟩ : ∃ wo57, wo57 = (v4.alloc (.cells #[.bool false, .slice xa1 S1.length xc1, .slice ya1 D1.length yc1] 24)) := ⟨_, rfl⟩
  rw [← hwo57]
  have z58 : v4.heap.size + 1 ≤ wo57.heap.size := by rw [hwo57]; simp only [World.size_alloc]; omega
  have B59 : Hid (Abx wo57 (w.heap.size) (.bool false) (.slice sa1 sz1.length sc1) (.slice da1 dz1.length dc1)) := by rw [hwo57]; exact (B49.out.al (.cells #[.bool false, .slice xa1 S1.length xc1, .slice ya1 D1.length yc1] 24))
  have B60 : Hid (Abx wo57 (v4.heap.size) (.bool false) (.slice xa1 S1.length xc1) (.slice ya1 D1.length yc1)) := by rw [hwo57]; exact n53
  have L61 : Hid (MidC (v3.heap.size) (v4.heap.size) wo57 (xa1) (S1) (xc1)) := by rw [hwo57]; exact (L51.out.al (by omega) (.cells #[.bool false, .slice xa1 S1.length xc1, .slice ya1 D1.length yc1] 24))
  have L62 : Hid (MidC (v3.heap.size) (v4.heap.size) wo57 (ya1) (D1) (yc1)) := by rw [hwo57]; exact (L52.out.al (by omega) (.cells #[.bool false, .slice xa1 S1.length xc1, .slice ya1 D1.length yc1] 24))
  have hb63 : Hid (Below w.heap.size w wo57) := by rw [hwo57]; exact (hb50.out.alloc (by omega) (.cells #[.bool false, .slice xa1 S1.length xc1, .slice ya1 D1.length yc1] 24))
  have zwo57 : w.heap.size ≤ wo57.heap.size := hb63.out.size
  clear hwo57 n53 l54 l55 l56 hb50 B49 L51 L52
  refine (kp_ok ma mc m (xn : Int) (by unfold In64; omega) false xa1 xc1 S1 ya1 yc1 D1 _ hm HM.out.2 ((HM.out.1.below hb63.out).mono hb63.out.size) (by have := L1.out.1; omega) (by have := L1.out.2.1; omega) (L61.out.is (by omega)) (L62.out.is (by omega)) L1.out.2.2 sz1 dz1 HK0 HK1.out).mono ?_
  rintro e v5 ⟨xa3, xc3, ya3, yc3, rfl, hX3, hY3, hB⟩
  have z64 : wo57.heap.size ≤ v5.heap.size := hB.size
  have B65 : Hid (Abx v5 (w.heap.size) (.bool false) (.slice sa1 sz1.length sc1) (.slice da1 dz1.length dc1)) := B59.out.go hB
  have B66 : Hid (Abx v5 (v4.heap.size) (.bool false) (.slice xa1 S1.length xc1) (.slice ya1 D1.length yc1)) := B60.out.go hB
  have L67 : Hid (MidC (v3.heap.size) (v4.heap.size) v5 (xa1) (S1) (xc1)) := L61.out.go (by omega) hB
  have L68 : Hid (MidC (v3.heap.size) (v4.heap.size) v5 (ya1) (D1) (yc1)) := L62.out.go (by omega) hB
  have hb69 : Hid (Below w.heap.size w v5) := hb63.out.trans (hB.mono hb63.out.size)
  have L70 : Hid (MidC (wo57.heap.size) (v5.heap.size) v5 (xa3) (sz1) (xc3)) := hX3.midc
  have L71 : Hid (MidC (wo57.heap.size) (v5.heap.size) v5 (ya3) (dz1) (yc3)) := hY3.midc
  clear hB hb63 B59 B60 L61 L62 hX3 hY3
  have n72 := Abx.new v5 (.bool false) (.slice xa3 sz1.length xc3) (.slice ya3 dz1.length yc3)
  have l73 := (n72).c0
  have l74 := (n72).c1
  have l75 := (n72).c2
  have l76 := ((B65.out.al (.cells #[.bool false, .slice xa3 sz1.length xc3, .slice ya3 dz1.length yc3] 24))).c0
  have l77 := ((B65.out.al (.cells #[.bool false, .slice xa3 sz1.length xc3, .slice ya3 dz1.length yc3] 24))).c1
  have l78 := ((B65.out.al (.cells #[.bool false, .slice xa3 sz1.length xc3, .slice ya3 dz1.length yc3] 24))).c2
  go_wp2_with fail
  obtain ⟨wo79, hwo79⟩ : ∃ wo79, wo79 = (v5.alloc (.cells #[.bool false, .slice xa3 sz1.length xc3, .slice ya3 dz1.length yc3] 24)) := ⟨_, rfl⟩
  rw [← hwo79]
  have z80 : v5.heap.size + 1 ≤ wo79.heap.size := by rw [hwo79]; simp only [World.size_alloc]; omega
  have B81 : Hid (Abx wo79 (w.heap.size) (.bool false) (.slice sa1 sz1.length sc1) (.slice da1 dz1.length dc1)) := by rw [hwo79]; exact (B65.out.al (.cells #[.bool false, .slice xa3 sz1.length xc3, .slice ya3 dz1.length yc3] 24))
  have B82 : Hid (Abx wo79 (v4.heap.size) (.bool false) (.slice xa1 S1.length xc1) (.slice ya1 D1.length yc1)) := by rw [hwo79]; exact (B66.out.al (.cells #[.bool false, .slice xa3 sz1.length xc3, .slice ya3 dz1.length yc3] 24))
  have B83 : Hid (Abx wo79 (v5.heap.size) (.bool false) (.slice xa3 sz1.length xc3) (.slice ya3 dz1.length yc3)) := by rw [hwo79]; exact n72
  have L84 : Hid (MidC (v3.heap.size) (v4.heap.size) wo79 (xa1) (S1) (xc1)) := by rw [hwo79]; exact (L67.out.al (by omega) (.cells #[.bool false, .slice xa3 sz1.length xc3, .slice ya3 dz1.length yc3] 24))
  have L85 : Hid (MidC (v3.heap.size) (v4.heap.size) wo79 (ya1) (D1) (yc1)) := by rw [hwo79]; exact (L68.out.al (by omega) (.cells #[.bool false, .slice xa3 sz1.length xc3, .slice ya3 dz1.length yc3] 24))
  have L86 : Hid (MidC (wo57.heap.size) (v5.heap.size) wo79 (xa3) (sz1) (xc3)) := by rw [hwo79]; exact (L70.out.al (by omega) (.cells #[.bool false, .slice xa3 sz1.length xc3, .slice ya3 dz1.length yc3] 24))
  have L87 : Hid (MidC (wo57.heap.size) (v5.heap.size) wo79 (ya3) (dz1) (yc3)) := by rw [hwo79]; exact (L71.out.al (by omega) (.cells #[.bool false, .slice xa3 sz1.length xc3, .slice ya3 dz1.length yc3] 24))
  have hb88 : Hid (Below w.heap.size w wo79) := by rw [hwo79]; exact (hb69.out.alloc (by omega) (.cells #[.bool false, .slice xa3 sz1.length xc3, .slice ya3 dz1.length yc3] 24))
  have zwo79 : w.heap.size ≤ wo79.heap.size := hb88.out.size
  clear hwo79 n72 l73 l74 l75 l76 l77 l78 hb69 B65 B66 L67 L68 L70 L71
  refine (alike_eq false xa3 xc3 sz1 ya3 yc3 dz1 sa1 sc1 sz1 da1 dc1 dz1 rfl rfl x1 x2 _ (L86.out.is (by omega)) (L87.out.is (by omega)).1 ((HI.out.1.below hb88.out).mono hb88.out.size) ((HI.out.2.1.1.below hb88.out).mono hb88.out.size)).mono ?_
  rintro e v6 ⟨rfl, hB⟩
  have z89 : wo79.heap.size ≤ v6.heap.size := hB.size
  have B90 : Hid (Abx v6 (w.heap.size) (.bool false) (.slice sa1 sz1.length sc1) (.slice da1 dz1.length dc1)) := B81.out.go hB
  have B91 : Hid (Abx v6 (v4.heap.size) (.bool false) (.slice xa1 S1.length xc1) (.slice ya1 D1.length yc1)) := B82.out.go hB
  have B92 : Hid (Abx v6 (v5.heap.size) (.bool false) (.slice xa3 sz1.length xc3) (.slice ya3 dz1.length yc3)) := B83.out.go hB
  have L93 : Hid (MidC (v3.heap.size) (v4.heap.size) v6 (xa1) (S1) (xc1)) := L84.out.go (by omega) hB
  have L94 : Hid (MidC (v3.heap.size) (v4.heap.size) v6 (ya1) (D1) (yc1)) := L85.out.go (by omega) hB
  have L95 : Hid (MidC (wo57.heap.size) (v5.heap.size) v6 (xa3) (sz1) (xc3)) := L86.out.go (by omega) hB
  have L96 : Hid (MidC (wo57.heap.size) (v5.heap.size) v6 (ya3) (dz1) (yc3)) := L87.out.go (by omega) hB
  have hb97 : Hid (Below w.heap.size w v6) := hb88.out.trans (hB.mono hb88.out.size)
  clear hB hb88 B81 B82 B83 L84 L85 L86 L87
  clear L95 L96
  have hmk := run_make_row' (P := Try.prog) 22 3 (.int .i64 0) 8 Try.underlying22 Try.infoInt rfl .i64 .i64 m.length (by omega) (by omega)
  go_wp2_with fail
  clear hmk
  have HR0 : Hid ((v6.alloc (.cells (madeCells #[.int .i64 0] m.length) 3)).rowIs (v6.heap.size) 3 m.length (upTo (nth (otm m)) 0)) := by have r := World.rowIs_made v6 (.int .i64 0) m.length 3; exact r.congr (fun j _ => by simp [upTo])
  go_loopw [16] (fun i wr => ∃ k : Nat, k ≤ m.length ∧ i = .int .i64 k ∧ wr.rowIs (v6.heap.size) 3 m.length (upTo (nth (otm m)) k) ∧ Below v6.heap.size v6 wr) (fun i _ => m.length - (intOf i).toNat)
  case atStart => exact ⟨0, Nat.zero_le _, rfl, HR0.out, (Below.refl _ v6).alloc (Nat.le_refl _) _⟩
  case round =>
    obtain ⟨k, hk, rfl, hrow, hBv⟩ := hrel
    clear HR0
    by_cases hlt : k < m.length
    · have hBw : Below w.heap.size w wr := hb97.out.trans (hBv.mono hb97.out.size)
      obtain ⟨bm, om, rfl, hbm, hcM⟩ := (HM.out.1.1.below hBw).at hlt
      have cm := hcM k hlt
      have hm1 := mskB_nth HK.out hlt
      have HV : Hid (1 - nth m k = nth (otm m) k) := (otm_nth m hlt).symm
      have c2 := hrow.cell hlt
      have f2 := hrow.frozen k
      have HQ : Hid (wr.rowIs (v6.heap.size) 3 m.length (upTo (nth (otm m)) k) ∧ Below v6.heap.size v6 wr) := ⟨hrow, hBv⟩
      clear hcM hrow hBv hBw
      go_wp2_with fail
      refine ⟨⟨k + 1, by omega, by go_num, upTo_set HQ.out.1 _ HV.out, HQ.out.2.setCell (p := ⟨v6.heap.size, k, none⟩) (by show v6.heap.size ≤ v6.heap.size; omega) _⟩, by simp [intOf]; omega⟩
    · obtain rfl : k = m.length := by omega
      have hO : NewC (v6.heap.size) wr (some ⟨v6.heap.size, 0, none⟩) (otm m) m.length := ⟨upTo_new hrow (Nat.le_refl _) (otm m) (otm_length m) (fun j hj => rfl), by rw [otm_length]; exact Nat.le_refl _⟩
      have hO2 := hO.midc
      have z98 : v6.heap.size ≤ wr.heap.size := hBv.size
      have B99 : Hid (Abx wr (w.heap.size) (.bool false) (.slice sa1 sz1.length sc1) (.slice da1 dz1.length dc1)) := B90.out.go hBv
      have B100 : Hid (Abx wr (v4.heap.size) (.bool false) (.slice xa1 S1.length xc1) (.slice ya1 D1.length yc1)) := B91.out.go hBv
      have B101 : Hid (Abx wr (v5.heap.size) (.bool false) (.slice xa3 sz1.length xc3) (.slice ya3 dz1.length yc3)) := B92.out.go hBv
      have L102 : Hid (MidC (v3.heap.size) (v4.heap.size) wr (xa1) (S1) (xc1)) := L93.out.go (by omega) hBv
      have L103 : Hid (MidC (v3.heap.size) (v4.heap.size) wr (ya1) (D1) (yc1)) := L94.out.go (by omega) hBv
      have hb104 : Hid (Below w.heap.size w wr) := hb97.out.trans (hBv.mono hb97.out.size)
      have L105 : Hid (MidC (v6.heap.size) (wr.heap.size) wr (some ⟨v6.heap.size, 0, none⟩) (otm m) (m.length)) := hO2
      clear hrow hBv hO hO2 hlt hk hb97 B90 B91 B92 L93 L94
      have l106 := (B100.out).c0
      have l107 := (B100.out).c1
      have l108 := (B100.out).c2
      go_wp2_with fail
      clear l106 l107 l108
      refine (kp_okl (some ⟨v6.heap.size, 0, none⟩) m.length (otm m) m.length (otm_length m) (xn : Int) (by unfold In64; omega) false xa1 xc1 S1 ya1 yc1 D1 _ (by rw [otm_length]; exact hm) (otm_64 HK.out) (L105.out.is (by omega)) (by have := L1.out.1; omega) (by have := L1.out.2.1; omega) (L102.out.is (by omega)) (L103.out.is (by omega)) L1.out.2.2 S2 D2 HK0 ⟨HK2.out.1, HS2.out.1, HS2.out.2⟩).mono ?_
      rintro e v7 ⟨xa2, xc2, ya2, yc2, rfl, hX2, hY2, hB⟩
      have z109 : wr.heap.size ≤ v7.heap.size := hB.size
      have B110 : Hid (Abx v7 (w.heap.size) (.bool false) (.slice sa1 sz1.length sc1) (.slice da1 dz1.length dc1)) := B99.out.go hB
      have B111 : Hid (Abx v7 (v4.heap.size) (.bool false) (.slice xa1 S1.length xc1) (.slice ya1 D1.length yc1)) := B100.out.go hB
      have B112 : Hid (Abx v7 (v5.heap.size) (.bool false) (.slice xa3 sz1.length xc3) (.slice ya3 dz1.length yc3)) := B101.out.go hB
      have L113 : Hid (MidC (v3.heap.size) (v4.heap.size) v7 (xa1) (S1) (xc1)) := L102.out.go (by omega) hB
      have L114 : Hid (MidC (v3.heap.size) (v4.heap.size) v7 (ya1) (D1) (yc1)) := L103.out.go (by omega) hB
      have L115 : Hid (MidC (v6.heap.size) (wr.heap.size) v7 (some ⟨v6.heap.size, 0, none⟩) (otm m) (m.length)) := L105.out.go (by omega) hB
      have hb116 : Hid (Below w.heap.size w v7) := hb104.out.trans (hB.mono hb104.out.size)
      have L117 : Hid (MidC (wr.heap.size) (v7.heap.size) v7 (xa2) (S2) (xc2)) := hX2.midc
      have L118 : Hid (MidC (wr.heap.size) (v7.heap.size) v7 (ya2) (D2) (yc2)) := hY2.midc
      clear hB hb104 B99 B100 B101 L102 L103 L105 hX2 hY2
      clear L115 L113 L114
      have n119 := Abx.new v7 (.bool false) (.slice xa2 S2.length xc2) (.slice ya2 D2.length yc2)
      have l120 := ((B110.out.al (.cells #[.bool false, .slice xa2 S2.length xc2, .slice ya2 D2.length yc2] 24))).c0
      have l121 := ((B110.out.al (.cells #[.bool false, .slice xa2 S2.length xc2, .slice ya2 D2.length yc2] 24))).c1
      have l122 := ((B110.out.al (.cells #[.bool false, .slice xa2 S2.length xc2, .slice ya2 D2.length yc2] 24))).c2
      have l123 := (n119).c0
      have l124 := (n119).c1
      have l125 := (n119).c2
      go_wp2_with fail
      obtain ⟨wo126, hwo126⟩ : ∃ wo126, wo126 = (v7.alloc (.cells #[.bool false, .slice xa2 S2.length xc2, .slice ya2 D2.length yc2] 24)) := ⟨_, rfl⟩
      rw [← hwo126]
      have z127 : v7.heap.size + 1 ≤ wo126.heap.size := by rw [hwo126]; simp only [World.size_alloc]; omega
      have B128 : Hid (Abx wo126 (w.heap.size) (.bool false) (.slice sa1 sz1.length sc1) (.slice da1 dz1.length dc1)) := by rw [hwo126]; exact (B110.out.al (.cells #[.bool false, .slice xa2 S2.length xc2, .slice ya2 D2.length yc2] 24))
      have B129 : Hid (Abx wo126 (v4.heap.size) (.bool false) (.slice xa1 S1.length xc1) (.slice ya1 D1.length yc1)) := by rw [hwo126]; exact (B111.out.al (.cells #[.bool false, .slice xa2 S2.length xc2, .slice ya2 D2.length yc2] 24))
      have B130 : Hid (Abx wo126 (v5.heap.size) (.bool false) (.slice xa3 sz1.length xc3) (.slice ya3 dz1.length yc3)) := by rw [hwo126]; exact (B112.out.al (.cells #[.bool false, .slice xa2 S2.length xc2, .slice ya2 D2.length yc2] 24))
      have B131 : Hid (Abx wo126 (v7.heap.size) (.bool false) (.slice xa2 S2.length xc2) (.slice ya2 D2.length yc2)) := by rw [hwo126]; exact n119
      have L132 : Hid (MidC (wr.heap.size) (v7.heap.size) wo126 (xa2) (S2) (xc2)) := by rw [hwo126]; exact (L117.out.al (by omega) (.cells #[.bool false, .slice xa2 S2.length xc2, .slice ya2 D2.length yc2] 24))
      have L133 : Hid (MidC (wr.heap.size) (v7.heap.size) wo126 (ya2) (D2) (yc2)) := by rw [hwo126]; exact (L118.out.al (by omega) (.cells #[.bool false, .slice xa2 S2.length xc2, .slice ya2 D2.length yc2] 24))
      have hb134 : Hid (Below w.heap.size w wo126) := by rw [hwo126]; exact (hb116.out.alloc (by omega) (.cells #[.bool false, .slice xa2 S2.length xc2, .slice ya2 D2.length yc2] 24))
      have zwo126 : w.heap.size ≤ wo126.heap.size := hb134.out.size
      clear hwo126 n119 l120 l121 l122 l123 l124 l125 hb116 B110 B111 B112 L117 L118
      have hd2 : D2.length ≤ 4096 := by have := HK2.out.2.2; have := L1.out.2.1; omega
      go_loopw [20] (fun i wr => ∃ k : Nat, k ≤ D2.length ∧ i = .int .i64 k ∧ wr = wo126) (fun i _ => D2.length - (intOf i).toNat)
      case atStart => exact ⟨0, Nat.zero_le _, rfl, rfl⟩
      case round =>
        obtain ⟨k, hk, rfl, hv⟩ := hrel
        obtain rfl := hv.symm
        clear hv
        have e2 := B131.out.c2
        by_cases hlt : k < D2.length
        · obtain ⟨bz, oz, ez, _, _, cz, _⟩ := L133.out.at hlt
          cases ez
          rw [HK2.out.2.1 k hlt] at cz
          go_wp2_with fail
          exact ⟨⟨k + 1, by omega, by go_num, by first | rfl | trivial⟩, by simp [intOf]; omega⟩
        · obtain rfl : k = D2.length := by omega
          have e3 := B130.out.c2
          have e4 := B129.out.c2
          have hsum : ((D2.length : Int) + (dz1.length : Int) == (D1.length : Int)) = true := by have := HK2.out.2.2; simp; omega
          have hs2 : (D2.length : Int) + (dz1.length : Int) = (D1.length : Int) := by have := HK2.out.2.2; omega
          go_wp2_with fail
          go_ret
          exact ⟨rfl, hb134.out⟩
end Go.Proofs.Ytldjgacnjogbnab
