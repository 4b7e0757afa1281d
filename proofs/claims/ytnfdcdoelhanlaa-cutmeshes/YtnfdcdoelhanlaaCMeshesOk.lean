/-
  The walk of the statement CutMeshes, where nothing is wrong, given what the program tells.
-/
import Derived.Test.YtnfdcdoelhanlaaCMeshesWalk
namespace Go.Proofs.Ytnfdcdoelhanlaa
open Go.RowKit
set_option linter.unusedVariables false

set_option maxRecDepth 100000 in
set_option maxHeartbeats 8000000 in
theorem meshes_ok (HE : C2c) (HK0 : CKp) (HSp : CSp) (ma : Option Addr) (mc : Nat) (m : List Int) (hm : m.length ≤ 9223372036854775807) (Tm : ∀ j, In64 (nth m j)) (xn : Nat) (sa1 : Option Addr) (sc1 : Nat) (sz1 : List Int) (da1 : Option Addr) (dc1 : Nat) (dz1 : List Int) (w : World) (wm : IsC w.heap.size w ma m mc) (w9 : IsArrD w sa1 sz1 sc1 da1 dz1 dc1) (E1 : Hid (kpE m (xn : Int) false sz1 dz1 = 0)) :
    Calls Try.prog 4 #[.slice ma m.length mc, .int .i64 (xn : Int), .agg #[.bool false, .slice sa1 sz1.length sc1, .slice da1 dz1.length dc1]] w fun e w' => e = .returned (.bool true) ∧ Below w.heap.size w w' := by
  obtain ⟨x1, x2, x3, x4, s64, T⟩ := w9
  have HI : Hid (IsC w.heap.size w sa1 sz1 sc1 ∧ IsC w.heap.size w da1 dz1 dc1 ∧ ∀ j, In64 (nth dz1 j)) := ⟨x3, x4, T⟩
  clear x3 x4 T s64
  have HM : Hid (IsC w.heap.size w ma m mc ∧ ∀ j, In64 (nth m j)) := ⟨wm, Tm⟩
  clear wm Tm
  have Z := kpZ.1 E1.out
  have HK : Hid (mskB m = true) := Z.2.2.2
  have hxl : xn < sz1.length := Z.2.1
  have hl6 : sz1.length ≤ 6 := (flawE_short Z.1).1
  have hd4 : dz1.length ≤ 4096 := (flawE_short Z.1).2
  have hm4 : m.length ≤ 4096 := by have h := (errOf_zero.1 (flawE_zero Z.1).1).2.1.nth xn; have := Z.2.2.1; omega
  clear Z
  have E2 : Hid (kpE (otm m) (xn : Int) false sz1 dz1 = 0) := kp_other E1.out
  obtain ⟨S1, hS1⟩ : ∃ S, S = kpS m xn sz1 := ⟨_, rfl⟩
  obtain ⟨D1, hD1⟩ : ∃ D, D = kpD m xn sz1 dz1 := ⟨_, rfl⟩
  have HS1 : Hid (kpS m xn sz1 = S1 ∧ kpD m xn sz1 dz1 = D1) := ⟨hS1.symm, hD1.symm⟩
  clear hS1 hD1
  obtain ⟨S2, hS2⟩ : ∃ S, S = kpS (otm m) xn sz1 := ⟨_, rfl⟩
  obtain ⟨D2, hD2⟩ : ∃ D, D = kpD (otm m) xn sz1 dz1 := ⟨_, rfl⟩
  have HS2 : Hid (kpS (otm m) xn sz1 = S2 ∧ kpD (otm m) xn sz1 dz1 = D2) := ⟨hS2.symm, hD2.symm⟩
  clear hS2 hD2
  obtain ⟨D3, hD3⟩ : ∃ D, D = TA sz1 (fun t => if nth m (nth t xn).toNat = 0 then fillE false else cel sz1 dz1 t) := ⟨_, rfl⟩
  have HS3 : Hid (TA sz1 (fun t => if nth m (nth t xn).toNat = 0 then fillE false else cel sz1 dz1 t) = D3) := hD3.symm
  clear hD3
  obtain ⟨D4, hD4⟩ : ∃ D, D = TA sz1 (fun t => if nth (otm m) (nth t xn).toNat = 0 then fillE false else cel sz1 dz1 t) := ⟨_, rfl⟩
  have HS4 : Hid (TA sz1 (fun t => if nth (otm m) (nth t xn).toNat = 0 then fillE false else cel sz1 dz1 t) = D4) := hD4.symm
  clear hD4
  have K1 := kp_sp E1.out
  have K2 := kp_sp E2.out
  have K3 := mesh E1.out HI.out.2.2
  rw [HS1.out.1, HS1.out.2, HS3.out] at K1
  rw [HS2.out.1, HS2.out.2, HS4.out] at K2
  rw [HS3.out, HS4.out] at K3
  have HK1 : Hid (spE m (xn : Int) false S1 D1 = 0 ∧ spS m xn S1 = sz1 ∧ spD m xn false S1 D1 = D3) := K1
  have HK2 : Hid (spE (otm m) (xn : Int) false S2 D2 = 0 ∧ spS (otm m) xn S2 = sz1 ∧ spD (otm m) xn false S2 D2 = D4) := K2
  have HK3 : Hid (e2E 1 false sz1 D3 false sz1 D4 = 0 ∧ e2V 1 false sz1 D3 false sz1 D4 = dz1) := K3
  clear K1 K2 K3
  have L1 : Hid (S1.length ≤ 6 ∧ D1.length ≤ 4096 ∧ ∀ j, In64 (nth D1 j)) := by rw [← HS1.out.1, ← HS1.out.2]; exact kp_facts E1.out HI.out.2.2
  have L2 : Hid (S2.length ≤ 6 ∧ D2.length ≤ 4096 ∧ ∀ j, In64 (nth D2 j)) := by rw [← HS2.out.1, ← HS2.out.2]; exact kp_facts E2.out HI.out.2.2
  have L3 : Hid (sz1.length ≤ 6 ∧ D3.length ≤ 4096 ∧ ∀ j, In64 (nth D3 j)) := by have h := sp_facts HK1.out.1 L1.out.2.2; rw [HK1.out.2.1, HK1.out.2.2] at h; exact h
  have L4 : Hid (sz1.length ≤ 6 ∧ D4.length ≤ 4096 ∧ ∀ j, In64 (nth D4 j)) := by have h := sp_facts HK2.out.1 L2.out.2.2; rw [HK2.out.2.1, HK2.out.2.2] at h; exact h
  obtain ⟨S5, hS5⟩ : ∃ S, S = shp sz1 sz1 := ⟨_, rfl⟩
  obtain ⟨D5, hD5⟩ : ∃ D, D = e2V 1 false sz1 D3 false sz1 D4 := ⟨_, rfl⟩
  have HS5 : Hid (shp sz1 sz1 = S5 ∧ e2V 1 false sz1 D3 false sz1 D4 = D5 ∧ S5 = sz1 ∧ D5 = dz1) := ⟨hS5.symm, hD5.symm, by rw [hS5]; exact shp_self sz1, by rw [hD5]; exact HK3.out.2⟩
  clear hS5 hD5
  have n1 := Abx.new w (.bool false) (.slice sa1 sz1.length sc1) (.slice da1 dz1.length dc1)
  have n2 := lit_mid (w.alloc (.cells #[.bool false, .slice sa1 sz1.length sc1, .slice da1 dz1.length dc1] 25)) 3 [1, 0, 1] 3 rfl
  simp only [World.size_alloc, List.map_cons, List.map_nil] at n2
  have n3 := lit_mid ((w.alloc (.cells #[.bool false, .slice sa1 sz1.length sc1, .slice da1 dz1.length dc1] 25)).alloc (.cells #[.int .i64 1, .int .i64 0, .int .i64 1] 3)) 3 [5, 6, 7] 3 rfl
  simp only [World.size_alloc, List.map_cons, List.map_nil] at n3
  go_enter Try.func4, Try.ntmps4
  go_wp2_with fail
  obtain ⟨wo4, hwo4⟩ : ∃ wo4, wo4 = (((w.alloc (.cells #[.bool false, .slice sa1 sz1.length sc1, .slice da1 dz1.length dc1] 25)).alloc (.cells #[.int .i64 1, .int .i64 0, .int .i64 1] 3)).alloc (.cells #[.int .i64 5, .int .i64 6, .int .i64 7] 3)) := ⟨_, rfl⟩
  rw [← hwo4]
  have z5 : w.heap.size + 1 + 1 + 1 ≤ wo4.heap.size := by rw [hwo4]; simp only [World.size_alloc]; omega
  have B6 : Hid (Abx wo4 (w.heap.size) (.bool false) (.slice sa1 sz1.length sc1) (.slice da1 dz1.length dc1)) := by rw [hwo4]; exact ((n1.al (.cells #[.int .i64 1, .int .i64 0, .int .i64 1] 3)).al (.cells #[.int .i64 5, .int .i64 6, .int .i64 7] 3))
  have L7 : Hid (MidC (w.heap.size + 1) (w.heap.size + 1 + 1) wo4 (some ⟨w.heap.size + 1, 0, none⟩) ([1, 0, 1]) (3)) := by rw [hwo4]; exact (n2.al (by simp only [World.size_alloc]; omega) (.cells #[.int .i64 5, .int .i64 6, .int .i64 7] 3))
  have L8 : Hid (MidC (w.heap.size + 1 + 1) (w.heap.size + 1 + 1 + 1) wo4 (some ⟨w.heap.size + 1 + 1, 0, none⟩) ([5, 6, 7]) (3)) := by rw [hwo4]; exact n3
  have hb9 : Hid (Below w.heap.size w wo4) := by rw [hwo4]; exact ((((Below.refl w.heap.size w).alloc (by omega) (.cells #[.bool false, .slice sa1 sz1.length sc1, .slice da1 dz1.length dc1] 25)).alloc (by simp only [World.size_alloc]; omega) (.cells #[.int .i64 1, .int .i64 0, .int .i64 1] 3)).alloc (by simp only [World.size_alloc]; omega) (.cells #[.int .i64 5, .int .i64 6, .int .i64 7] 3))
  have zwo4 : w.heap.size ≤ wo4.heap.size := hb9.out.size
  clear hwo4 n1 n2 n3
  refine (vec_c (some ⟨w.heap.size + 1 + 1, 0, none⟩) 3 [5, 6, 7] (by simp) _ (L8.out.is (by omega)).1).mono ?_
  rintro e v1 ⟨va, vc, ga, gc, rfl, hV, hG, hB⟩
  have z10 : wo4.heap.size ≤ v1.heap.size := hB.size
  have B11 : Hid (Abx v1 (w.heap.size) (.bool false) (.slice sa1 sz1.length sc1) (.slice da1 dz1.length dc1)) := B6.out.go hB
  have L12 : Hid (MidC (w.heap.size + 1) (w.heap.size + 1 + 1) v1 (some ⟨w.heap.size + 1, 0, none⟩) ([1, 0, 1]) (3)) := L7.out.go (by omega) hB
  have L13 : Hid (MidC (w.heap.size + 1 + 1) (w.heap.size + 1 + 1 + 1) v1 (some ⟨w.heap.size + 1 + 1, 0, none⟩) ([5, 6, 7]) (3)) := L8.out.go (by omega) hB
  have hb14 : Hid (Below w.heap.size w v1) := hb9.out.trans (hB.mono hb9.out.size)
  have L15 : Hid (MidC (wo4.heap.size) (v1.heap.size) v1 (va) ([(3 : Int)]) (vc)) := hV.midc
  have L16 : Hid (MidC (wo4.heap.size) (v1.heap.size) v1 (ga) ([5, 6, 7]) (gc)) := hG.midc
  clear hB hb9 B6 L7 L8 hV hG
  clear L13
  go_wp2_with fail
  refine (kp_ok (some ⟨w.heap.size + 1, 0, none⟩) 3 [1, 0, 1] 0 (by unfold In64; decide) false va vc [3] ga gc [5, 6, 7] _ (by simp) (lit_all (by decide)) (L12.out.is (by omega)) (by simp) (by simp) (L15.out.is (by omega)) (L16.out.is (by omega)) (lit_all (by decide)) [2] [5, 7] HK0 (by decide)).mono ?_
  rintro e v2 ⟨f1, g1, f2, g2, rfl, hX0, hY0, hB⟩
  have z17 : v1.heap.size ≤ v2.heap.size := hB.size
  have B18 : Hid (Abx v2 (w.heap.size) (.bool false) (.slice sa1 sz1.length sc1) (.slice da1 dz1.length dc1)) := B11.out.go hB
  have L19 : Hid (MidC (w.heap.size + 1) (w.heap.size + 1 + 1) v2 (some ⟨w.heap.size + 1, 0, none⟩) ([1, 0, 1]) (3)) := L12.out.go (by omega) hB
  have L20 : Hid (MidC (wo4.heap.size) (v1.heap.size) v2 (va) ([(3 : Int)]) (vc)) := L15.out.go (by omega) hB
  have L21 : Hid (MidC (wo4.heap.size) (v1.heap.size) v2 (ga) ([5, 6, 7]) (gc)) := L16.out.go (by omega) hB
  have hb22 : Hid (Below w.heap.size w v2) := hb14.out.trans (hB.mono hb14.out.size)
  have L23 : Hid (MidC (v1.heap.size) (v2.heap.size) v2 (f1) ([2]) (g1)) := hX0.midc
  have L24 : Hid (MidC (v1.heap.size) (v2.heap.size) v2 (f2) ([5, 7]) (g2)) := hY0.midc
  clear hB hb14 B11 L12 L15 L16 hX0 hY0
  clear L20 L21 L19
  have n25 := Abx.new v2 (.bool false) (.slice f1 1 g1) (.slice f2 2 g2)
  have l26 := (n25).c0
  have l27 := (n25).c1
  have l28 := (n25).c2
  have n29 := lit_mid (v2.alloc (.cells #[.bool false, .slice f1 1 g1, .slice f2 2 g2] 25)) 3 [5, 7] 2 rfl
  simp only [World.size_alloc, List.map_cons, List.map_nil] at n29
  go_wp2_with fail
  obtain ⟨wo30, hwo30⟩ : ∃ wo30, wo30 = ((v2.alloc (.cells #[.bool false, .slice f1 1 g1, .slice f2 2 g2] 25)).alloc (.cells #[.int .i64 5, .int .i64 7] 3)) := ⟨_, rfl⟩
  rw [← hwo30]
  have z31 : v2.heap.size + 1 + 1 ≤ wo30.heap.size := by rw [hwo30]; simp only [World.size_alloc]; omega
  have B32 : Hid (Abx wo30 (w.heap.size) (.bool false) (.slice sa1 sz1.length sc1) (.slice da1 dz1.length dc1)) := by rw [hwo30]; exact ((B18.out.al (.cells #[.bool false, .slice f1 1 g1, .slice f2 2 g2] 25)).al (.cells #[.int .i64 5, .int .i64 7] 3))
  have B33 : Hid (Abx wo30 (v2.heap.size) (.bool false) (.slice f1 1 g1) (.slice f2 2 g2)) := by rw [hwo30]; exact (n25.al (.cells #[.int .i64 5, .int .i64 7] 3))
  have L34 : Hid (MidC (v1.heap.size) (v2.heap.size) wo30 (f1) ([2]) (g1)) := by rw [hwo30]; exact ((L23.out.al (by omega) (.cells #[.bool false, .slice f1 1 g1, .slice f2 2 g2] 25)).al (by simp only [World.size_alloc]; omega) (.cells #[.int .i64 5, .int .i64 7] 3))
  have L35 : Hid (MidC (v1.heap.size) (v2.heap.size) wo30 (f2) ([5, 7]) (g2)) := by rw [hwo30]; exact ((L24.out.al (by omega) (.cells #[.bool false, .slice f1 1 g1, .slice f2 2 g2] 25)).al (by simp only [World.size_alloc]; omega) (.cells #[.int .i64 5, .int .i64 7] 3))
  have L36 : Hid (MidC (v2.heap.size + 1) (v2.heap.size + 1 + 1) wo30 (some ⟨v2.heap.size + 1, 0, none⟩) ([5, 7]) (2)) := by rw [hwo30]; exact n29
  have hb37 : Hid (Below w.heap.size w wo30) := by rw [hwo30]; exact ((hb22.out.alloc (by omega) (.cells #[.bool false, .slice f1 1 g1, .slice f2 2 g2] 25)).alloc (by simp only [World.size_alloc]; omega) (.cells #[.int .i64 5, .int .i64 7] 3))
  have zwo30 : w.heap.size ≤ wo30.heap.size := hb37.out.size
  clear hwo30 n25 l26 l27 l28 n29 hb22 B18 L23 L24
  refine (ints_any f2 g2 [5, 7] (some ⟨v2.heap.size + 1, 0, none⟩) 2 [5, 7] (by simp) _ _ (L35.out.is (by omega)).1 (L36.out.is (by omega)).1).mono ?_
  rintro e v3 ⟨rfl, hB⟩
  have z38 : wo30.heap.size ≤ v3.heap.size := hB.size
  have B39 : Hid (Abx v3 (w.heap.size) (.bool false) (.slice sa1 sz1.length sc1) (.slice da1 dz1.length dc1)) := B32.out.go hB
  have B40 : Hid (Abx v3 (v2.heap.size) (.bool false) (.slice f1 1 g1) (.slice f2 2 g2)) := B33.out.go hB
  have L41 : Hid (MidC (v1.heap.size) (v2.heap.size) v3 (f1) ([2]) (g1)) := L34.out.go (by omega) hB
  have L42 : Hid (MidC (v1.heap.size) (v2.heap.size) v3 (f2) ([5, 7]) (g2)) := L35.out.go (by omega) hB
  have L43 : Hid (MidC (v2.heap.size + 1) (v2.heap.size + 1 + 1) v3 (some ⟨v2.heap.size + 1, 0, none⟩) ([5, 7]) (2)) := L36.out.go (by omega) hB
  have hb44 : Hid (Below w.heap.size w v3) := hb37.out.trans (hB.mono hb37.out.size)
  clear hB hb37 B32 B33 L34 L35 L36
  rw [eqB_true rfl]
  clear L41 L42 L43 B40
  have l45 := (B39.out).c0
  have l46 := (B39.out).c1
  have l47 := (B39.out).c2
  go_wp2_with fail
  clear l45 l46 l47
  refine (kp_ok ma mc m (xn : Int) (by unfold In64; omega) false sa1 sc1 sz1 da1 dc1 dz1 _ hm HM.out.2 ((HM.out.1.below hb44.out).mono hb44.out.size) x1 x2 ((HI.out.1.below hb44.out).mono hb44.out.size) ((HI.out.2.1.below hb44.out).mono hb44.out.size) HI.out.2.2 S1 D1 HK0 ⟨E1.out, HS1.out.1, HS1.out.2⟩).mono ?_
  rintro e v4 ⟨xa1, xc1, ya1, yc1, rfl, hX1, hY1, hB⟩
  have z48 : v3.heap.size ≤ v4.heap.size := hB.size
  have B49 : Hid (Abx v4 (w.heap.size) (.bool false) (.slice sa1 sz1.length sc1) (.slice da1 dz1.length dc1)) := B39.out.go hB
  have hb50 : Hid (Below w.heap.size w v4) := hb44.out.trans (hB.mono hb44.out.size)
  have L51 : Hid (MidC (v3.heap.size) (v4.heap.size) v4 (xa1) (S1) (xc1)) := hX1.midc
  have L52 : Hid (MidC (v3.heap.size) (v4.heap.size) v4 (ya1) (D1) (yc1)) := hY1.midc
  clear hB hb44 B39 hX1 hY1
  have hmk := run_make_row' (P := Try.prog) 23 3 (.int .i64 0) 8 Try.underlying23 Try.infoInt rfl .i64 .i64 m.length (by omega) (by omega)
  have n53 := Abx.new v4 (.bool false) (.slice xa1 S1.length xc1) (.slice ya1 D1.length yc1)
  have l54 := ((B49.out.al (.cells #[.bool false, .slice xa1 S1.length xc1, .slice ya1 D1.length yc1] 25))).c0
  have l55 := ((B49.out.al (.cells #[.bool false, .slice xa1 S1.length xc1, .slice ya1 D1.length yc1] 25))).c1
  have l56 := ((B49.out.al (.cells #[.bool false, .slice xa1 S1.length xc1, .slice ya1 D1.length yc1] 25))).c2
  go_wp2_with fail
  obtain ⟨wo57, hwo57⟩ : ∃ wo57, wo57 = (v4.alloc (.cells #[.bool false, .slice xa1 S1.length xc1, .slice ya1 D1.length yc1] 25)) := ⟨_, rfl⟩
  rw [← hwo57]
  have z58 : v4.heap.size + 1 ≤ wo57.heap.size := by rw [hwo57]; simp only [World.size_alloc]; omega
  have zsx : Hid (wo57.heap.size = v4.heap.size + 1) := by show _ = _; rw [hwo57]; simp only [World.size_alloc]
  have B59 : Hid (Abx wo57 (w.heap.size) (.bool false) (.slice sa1 sz1.length sc1) (.slice da1 dz1.length dc1)) := by rw [hwo57]; exact (B49.out.al (.cells #[.bool false, .slice xa1 S1.length xc1, .slice ya1 D1.length yc1] 25))
  have B60 : Hid (Abx wo57 (v4.heap.size) (.bool false) (.slice xa1 S1.length xc1) (.slice ya1 D1.length yc1)) := by rw [hwo57]; exact n53
  have L61 : Hid (MidC (v3.heap.size) (v4.heap.size) wo57 (xa1) (S1) (xc1)) := by rw [hwo57]; exact (L51.out.al (by omega) (.cells #[.bool false, .slice xa1 S1.length xc1, .slice ya1 D1.length yc1] 25))
  have L62 : Hid (MidC (v3.heap.size) (v4.heap.size) wo57 (ya1) (D1) (yc1)) := by rw [hwo57]; exact (L52.out.al (by omega) (.cells #[.bool false, .slice xa1 S1.length xc1, .slice ya1 D1.length yc1] 25))
  have hb63 : Hid (Below w.heap.size w wo57) := by rw [hwo57]; exact (hb50.out.alloc (by omega) (.cells #[.bool false, .slice xa1 S1.length xc1, .slice ya1 D1.length yc1] 25))
  have zwo57 : w.heap.size ≤ wo57.heap.size := hb63.out.size
  clear hwo57 hmk n53 l54 l55 l56 hb50 B49 L51 L52
  have HR0 : Hid ((wo57.alloc (.cells (madeCells #[.int .i64 0] m.length) 3)).rowIs (v4.heap.size + 1) 3 m.length (upTo (nth (otm m)) 0)) := by have r := World.rowIs_made wo57 (.int .i64 0) m.length 3; rw [zsx.out] at r; exact r.congr (fun j _ => by simp [upTo])
  go_loopw [13] (fun i wr => ∃ k : Nat, k ≤ m.length ∧ i = .int .i64 k ∧ wr.rowIs (v4.heap.size + 1) 3 m.length (upTo (nth (otm m)) k) ∧ Below wo57.heap.size wo57 wr) (fun i _ => m.length - (intOf i).toNat)
  case atStart => exact ⟨0, Nat.zero_le _, rfl, HR0.out, (Below.refl _ wo57).alloc (Nat.le_refl _) _⟩
  case round =>
    obtain ⟨k, hk, rfl, hrow, hBv⟩ := hrel
    clear HR0
    by_cases hlt : k < m.length
    · have hBw : Below w.heap.size w wr := hb63.out.trans (hBv.mono hb63.out.size)
      obtain ⟨bm, om, rfl, hbm, hcM⟩ := (HM.out.1.1.below hBw).at hlt
      have cm := hcM k hlt
      have hm1 := mskB_nth HK.out hlt
      have HV : Hid (1 - nth m k = nth (otm m) k) := (otm_nth m hlt).symm
      have c2 := hrow.cell hlt
      have f2 := hrow.frozen k
      have HQ : Hid (wr.rowIs (v4.heap.size + 1) 3 m.length (upTo (nth (otm m)) k) ∧ Below wo57.heap.size wo57 wr) := ⟨hrow, hBv⟩
      clear hcM hrow hBv hBw
      go_wp2_with fail
      refine ⟨⟨k + 1, by omega, by go_num, upTo_set HQ.out.1 _ HV.out, HQ.out.2.setCell (p := ⟨v4.heap.size + 1, k, none⟩) (by show wo57.heap.size ≤ v4.heap.size + 1; have := zsx.out; omega) _⟩, by simp [intOf]; omega⟩
    · obtain rfl : k = m.length := by omega
      have hO : NewC (v4.heap.size + 1) wr (some ⟨v4.heap.size + 1, 0, none⟩) (otm m) m.length := ⟨upTo_new hrow (Nat.le_refl _) (otm m) (otm_length m) (fun j hj => rfl), by rw [otm_length]; exact Nat.le_refl _⟩
      have hO2 := hO.midc
      have z64 : wo57.heap.size ≤ wr.heap.size := hBv.size
      have B65 : Hid (Abx wr (w.heap.size) (.bool false) (.slice sa1 sz1.length sc1) (.slice da1 dz1.length dc1)) := B59.out.go hBv
      have B66 : Hid (Abx wr (v4.heap.size) (.bool false) (.slice xa1 S1.length xc1) (.slice ya1 D1.length yc1)) := B60.out.go hBv
      have L67 : Hid (MidC (v3.heap.size) (v4.heap.size) wr (xa1) (S1) (xc1)) := L61.out.go (by omega) hBv
      have L68 : Hid (MidC (v3.heap.size) (v4.heap.size) wr (ya1) (D1) (yc1)) := L62.out.go (by omega) hBv
      have hb69 : Hid (Below w.heap.size w wr) := hb63.out.trans (hBv.mono hb63.out.size)
      have L70 : Hid (MidC (v4.heap.size + 1) (wr.heap.size) wr (some ⟨v4.heap.size + 1, 0, none⟩) (otm m) (m.length)) := hO2
      clear hrow hBv hO hO2 hlt hk hb63 B59 B60 L61 L62
      have l71 := (B65.out).c0
      have l72 := (B65.out).c1
      have l73 := (B65.out).c2
      go_wp2_with fail
      clear l71 l72 l73
      refine (kp_okl (some ⟨v4.heap.size + 1, 0, none⟩) m.length (otm m) m.length (otm_length m) (xn : Int) (by unfold In64; omega) false sa1 sc1 sz1 da1 dc1 dz1 _ (by rw [otm_length]; exact hm) (otm_64 HK.out) (L70.out.is (by omega)) x1 x2 ((HI.out.1.below hb69.out).mono hb69.out.size) ((HI.out.2.1.below hb69.out).mono hb69.out.size) HI.out.2.2 S2 D2 HK0 ⟨E2.out, HS2.out.1, HS2.out.2⟩).mono ?_
      rintro e v5 ⟨xa2, xc2, ya2, yc2, rfl, hX2, hY2, hB⟩
      have z74 : wr.heap.size ≤ v5.heap.size := hB.size
      have B75 : Hid (Abx v5 (w.heap.size) (.bool false) (.slice sa1 sz1.length sc1) (.slice da1 dz1.length dc1)) := B65.out.go hB
      have B76 : Hid (Abx v5 (v4.heap.size) (.bool false) (.slice xa1 S1.length xc1) (.slice ya1 D1.length yc1)) := B66.out.go hB
      have L77 : Hid (MidC (v3.heap.size) (v4.heap.size) v5 (xa1) (S1) (xc1)) := L67.out.go (by omega) hB
      have L78 : Hid (MidC (v3.heap.size) (v4.heap.size) v5 (ya1) (D1) (yc1)) := L68.out.go (by omega) hB
      have L79 : Hid (MidC (v4.heap.size + 1) (wr.heap.size) v5 (some ⟨v4.heap.size + 1, 0, none⟩) (otm m) (m.length)) := L70.out.go (by omega) hB
      have hb80 : Hid (Below w.heap.size w v5) := hb69.out.trans (hB.mono hb69.out.size)
      have L81 : Hid (MidC (wr.heap.size) (v5.heap.size) v5 (xa2) (S2) (xc2)) := hX2.midc
      have L82 : Hid (MidC (wr.heap.size) (v5.heap.size) v5 (ya2) (D2) (yc2)) := hY2.midc
      clear hB hb69 B65 B66 L67 L68 L70 hX2 hY2
      have n83 := Abx.new v5 (.bool false) (.slice xa2 S2.length xc2) (.slice ya2 D2.length yc2)
      have l84 := ((B76.out.al (.cells #[.bool false, .slice xa2 S2.length xc2, .slice ya2 D2.length yc2] 25))).c0
      have l85 := ((B76.out.al (.cells #[.bool false, .slice xa2 S2.length xc2, .slice ya2 D2.length yc2] 25))).c1
      have l86 := ((B76.out.al (.cells #[.bool false, .slice xa2 S2.length xc2, .slice ya2 D2.length yc2] 25))).c2
      go_wp2_with fail
      obtain ⟨wo87, hwo87⟩ : ∃ wo87, wo87 = (v5.alloc (.cells #[.bool false, .slice xa2 S2.length xc2, .slice ya2 D2.length yc2] 25)) := ⟨_, rfl⟩
      rw [← hwo87]
      have z88 : v5.heap.size + 1 ≤ wo87.heap.size := by rw [hwo87]; simp only [World.size_alloc]; omega
      have B89 : Hid (Abx wo87 (w.heap.size) (.bool false) (.slice sa1 sz1.length sc1) (.slice da1 dz1.length dc1)) := by rw [hwo87]; exact (B75.out.al (.cells #[.bool false, .slice xa2 S2.length xc2, .slice ya2 D2.length yc2] 25))
      have B90 : Hid (Abx wo87 (v4.heap.size) (.bool false) (.slice xa1 S1.length xc1) (.slice ya1 D1.length yc1)) := by rw [hwo87]; exact (B76.out.al (.cells #[.bool false, .slice xa2 S2.length xc2, .slice ya2 D2.length yc2] 25))
      have B91 : Hid (Abx wo87 (v5.heap.size) (.bool false) (.slice xa2 S2.length xc2) (.slice ya2 D2.length yc2)) := by rw [hwo87]; exact n83
      have L92 : Hid (MidC (v3.heap.size) (v4.heap.size) wo87 (xa1) (S1) (xc1)) := by rw [hwo87]; exact (L77.out.al (by omega) (.cells #[.bool false, .slice xa2 S2.length xc2, .slice ya2 D2.length yc2] 25))
      have L93 : Hid (MidC (v3.heap.size) (v4.heap.size) wo87 (ya1) (D1) (yc1)) := by rw [hwo87]; exact (L78.out.al (by omega) (.cells #[.bool false, .slice xa2 S2.length xc2, .slice ya2 D2.length yc2] 25))
      have L94 : Hid (MidC (v4.heap.size + 1) (wr.heap.size) wo87 (some ⟨v4.heap.size + 1, 0, none⟩) (otm m) (m.length)) := by rw [hwo87]; exact (L79.out.al (by omega) (.cells #[.bool false, .slice xa2 S2.length xc2, .slice ya2 D2.length yc2] 25))
      have L95 : Hid (MidC (wr.heap.size) (v5.heap.size) wo87 (xa2) (S2) (xc2)) := by rw [hwo87]; exact (L81.out.al (by omega) (.cells #[.bool false, .slice xa2 S2.length xc2, .slice ya2 D2.length yc2] 25))
      have L96 : Hid (MidC (wr.heap.size) (v5.heap.size) wo87 (ya2) (D2) (yc2)) := by rw [hwo87]; exact (L82.out.al (by omega) (.cells #[.bool false, .slice xa2 S2.length xc2, .slice ya2 D2.length yc2] 25))
      have hb97 : Hid (Below w.heap.size w wo87) := by rw [hwo87]; exact (hb80.out.alloc (by omega) (.cells #[.bool false, .slice xa2 S2.length xc2, .slice ya2 D2.length yc2] 25))
      have zwo87 : w.heap.size ≤ wo87.heap.size := hb97.out.size
      clear hwo87 n83 l84 l85 l86 hb80 B75 B76 L77 L78 L79 L81 L82
      refine (sp_ok ma mc m (xn : Int) (by unfold In64; omega) false xa1 xc1 S1 ya1 yc1 D1 _ hm HM.out.2 ((HM.out.1.below hb97.out).mono hb97.out.size) (by have := L1.out.1; omega) (by have := L1.out.2.1; omega) (L92.out.is (by omega)) (L93.out.is (by omega)) L1.out.2.2 sz1 D3 HSp HK1.out).mono ?_
      rintro e v6 ⟨xa3, xc3, ya3, yc3, rfl, hX3, hY3, hB⟩
      have z98 : wo87.heap.size ≤ v6.heap.size := hB.size
      have B99 : Hid (Abx v6 (w.heap.size) (.bool false) (.slice sa1 sz1.length sc1) (.slice da1 dz1.length dc1)) := B89.out.go hB
      have B100 : Hid (Abx v6 (v4.heap.size) (.bool false) (.slice xa1 S1.length xc1) (.slice ya1 D1.length yc1)) := B90.out.go hB
      have B101 : Hid (Abx v6 (v5.heap.size) (.bool false) (.slice xa2 S2.length xc2) (.slice ya2 D2.length yc2)) := B91.out.go hB
      have L102 : Hid (MidC (v3.heap.size) (v4.heap.size) v6 (xa1) (S1) (xc1)) := L92.out.go (by omega) hB
      have L103 : Hid (MidC (v3.heap.size) (v4.heap.size) v6 (ya1) (D1) (yc1)) := L93.out.go (by omega) hB
      have L104 : Hid (MidC (v4.heap.size + 1) (wr.heap.size) v6 (some ⟨v4.heap.size + 1, 0, none⟩) (otm m) (m.length)) := L94.out.go (by omega) hB
      have L105 : Hid (MidC (wr.heap.size) (v5.heap.size) v6 (xa2) (S2) (xc2)) := L95.out.go (by omega) hB
      have L106 : Hid (MidC (wr.heap.size) (v5.heap.size) v6 (ya2) (D2) (yc2)) := L96.out.go (by omega) hB
      have hb107 : Hid (Below w.heap.size w v6) := hb97.out.trans (hB.mono hb97.out.size)
      have L108 : Hid (MidC (wo87.heap.size) (v6.heap.size) v6 (xa3) (sz1) (xc3)) := hX3.midc
      have L109 : Hid (MidC (wo87.heap.size) (v6.heap.size) v6 (ya3) (D3) (yc3)) := hY3.midc
      clear hB hb97 B89 B90 B91 L92 L93 L94 L95 L96 hX3 hY3
      clear L102 L103 B100
      have n110 := Abx.new v6 (.bool false) (.slice xa3 sz1.length xc3) (.slice ya3 D3.length yc3)
      have l111 := ((B101.out.al (.cells #[.bool false, .slice xa3 sz1.length xc3, .slice ya3 D3.length yc3] 25))).c0
      have l112 := ((B101.out.al (.cells #[.bool false, .slice xa3 sz1.length xc3, .slice ya3 D3.length yc3] 25))).c1
      have l113 := ((B101.out.al (.cells #[.bool false, .slice xa3 sz1.length xc3, .slice ya3 D3.length yc3] 25))).c2
      go_wp2_with fail
      obtain ⟨wo114, hwo114⟩ : ∃ wo114, wo114 = (v6.alloc (.cells #[.bool false, .slice xa3 sz1.length xc3, .slice ya3 D3.length yc3] 25)) := ⟨_, rfl⟩
      rw [← hwo114]
      have z115 : v6.heap.size + 1 ≤ wo114.heap.size := by rw [hwo114]; simp only [World.size_alloc]; omega
      have B116 : Hid (Abx wo114 (w.heap.size) (.bool false) (.slice sa1 sz1.length sc1) (.slice da1 dz1.length dc1)) := by rw [hwo114]; exact (B99.out.al (.cells #[.bool false, .slice xa3 sz1.length xc3, .slice ya3 D3.length yc3] 25))
      have B117 : Hid (Abx wo114 (v5.heap.size) (.bool false) (.slice xa2 S2.length xc2) (.slice ya2 D2.length yc2)) := by rw [hwo114]; exact (B101.out.al (.cells #[.bool false, .slice xa3 sz1.length xc3, .slice ya3 D3.length yc3] 25))
      have B118 : Hid (Abx wo114 (v6.heap.size) (.bool false) (.slice xa3 sz1.length xc3) (.slice ya3 D3.length yc3)) := by rw [hwo114]; exact n110
      have L119 : Hid (MidC (v4.heap.size + 1) (wr.heap.size) wo114 (some ⟨v4.heap.size + 1, 0, none⟩) (otm m) (m.length)) := by rw [hwo114]; exact (L104.out.al (by omega) (.cells #[.bool false, .slice xa3 sz1.length xc3, .slice ya3 D3.length yc3] 25))
      have L120 : Hid (MidC (wr.heap.size) (v5.heap.size) wo114 (xa2) (S2) (xc2)) := by rw [hwo114]; exact (L105.out.al (by omega) (.cells #[.bool false, .slice xa3 sz1.length xc3, .slice ya3 D3.length yc3] 25))
      have L121 : Hid (MidC (wr.heap.size) (v5.heap.size) wo114 (ya2) (D2) (yc2)) := by rw [hwo114]; exact (L106.out.al (by omega) (.cells #[.bool false, .slice xa3 sz1.length xc3, .slice ya3 D3.length yc3] 25))
      have L122 : Hid (MidC (wo87.heap.size) (v6.heap.size) wo114 (xa3) (sz1) (xc3)) := by rw [hwo114]; exact (L108.out.al (by omega) (.cells #[.bool false, .slice xa3 sz1.length xc3, .slice ya3 D3.length yc3] 25))
      have L123 : Hid (MidC (wo87.heap.size) (v6.heap.size) wo114 (ya3) (D3) (yc3)) := by rw [hwo114]; exact (L109.out.al (by omega) (.cells #[.bool false, .slice xa3 sz1.length xc3, .slice ya3 D3.length yc3] 25))
      have hb124 : Hid (Below w.heap.size w wo114) := by rw [hwo114]; exact (hb107.out.alloc (by omega) (.cells #[.bool false, .slice xa3 sz1.length xc3, .slice ya3 D3.length yc3] 25))
      have zwo114 : w.heap.size ≤ wo114.heap.size := hb124.out.size
      clear hwo114 n110 l111 l112 l113 hb107 B99 B101 L104 L105 L106 L108 L109
      refine (sp_okl (some ⟨v4.heap.size + 1, 0, none⟩) m.length (otm m) m.length (otm_length m) (xn : Int) (by unfold In64; omega) false xa2 xc2 S2 ya2 yc2 D2 _ (by rw [otm_length]; exact hm) (otm_64 HK.out) (L119.out.is (by omega)) (by have := L2.out.1; omega) (by have := L2.out.2.1; omega) (L120.out.is (by omega)) (L121.out.is (by omega)) L2.out.2.2 sz1 D4 HSp HK2.out).mono ?_
      rintro e v7 ⟨xa4, xc4, ya4, yc4, rfl, hX4, hY4, hB⟩
      have z125 : wo114.heap.size ≤ v7.heap.size := hB.size
      have B126 : Hid (Abx v7 (w.heap.size) (.bool false) (.slice sa1 sz1.length sc1) (.slice da1 dz1.length dc1)) := B116.out.go hB
      have B127 : Hid (Abx v7 (v5.heap.size) (.bool false) (.slice xa2 S2.length xc2) (.slice ya2 D2.length yc2)) := B117.out.go hB
      have B128 : Hid (Abx v7 (v6.heap.size) (.bool false) (.slice xa3 sz1.length xc3) (.slice ya3 D3.length yc3)) := B118.out.go hB
      have L129 : Hid (MidC (v4.heap.size + 1) (wr.heap.size) v7 (some ⟨v4.heap.size + 1, 0, none⟩) (otm m) (m.length)) := L119.out.go (by omega) hB
      have L130 : Hid (MidC (wr.heap.size) (v5.heap.size) v7 (xa2) (S2) (xc2)) := L120.out.go (by omega) hB
      have L131 : Hid (MidC (wr.heap.size) (v5.heap.size) v7 (ya2) (D2) (yc2)) := L121.out.go (by omega) hB
      have L132 : Hid (MidC (wo87.heap.size) (v6.heap.size) v7 (xa3) (sz1) (xc3)) := L122.out.go (by omega) hB
      have L133 : Hid (MidC (wo87.heap.size) (v6.heap.size) v7 (ya3) (D3) (yc3)) := L123.out.go (by omega) hB
      have hb134 : Hid (Below w.heap.size w v7) := hb124.out.trans (hB.mono hb124.out.size)
      have L135 : Hid (MidC (wo114.heap.size) (v7.heap.size) v7 (xa4) (sz1) (xc4)) := hX4.midc
      have L136 : Hid (MidC (wo114.heap.size) (v7.heap.size) v7 (ya4) (D4) (yc4)) := hY4.midc
      clear hB hb124 B116 B117 B118 L119 L120 L121 L122 L123 hX4 hY4
      clear L130 L131 B127 L129
      have n137 := Abx.new v7 (.bool false) (.slice xa4 sz1.length xc4) (.slice ya4 D4.length yc4)
      have l138 := ((B128.out.al (.cells #[.bool false, .slice xa4 sz1.length xc4, .slice ya4 D4.length yc4] 25))).c0
      have l139 := ((B128.out.al (.cells #[.bool false, .slice xa4 sz1.length xc4, .slice ya4 D4.length yc4] 25))).c1
      have l140 := ((B128.out.al (.cells #[.bool false, .slice xa4 sz1.length xc4, .slice ya4 D4.length yc4] 25))).c2
      have l141 := (n137).c0
      have l142 := (n137).c1
      have l143 := (n137).c2
      go_wp2_with fail
      obtain ⟨wo144, hwo144⟩ : ∃ wo144, wo144 = (v7.alloc (.cells #[.bool false, .slice xa4 sz1.length xc4, .slice ya4 D4.length yc4] 25)) := ⟨_, rfl⟩
      rw [← hwo144]
      have z145 : v7.heap.size + 1 ≤ wo144.heap.size := by rw [hwo144]; simp only [World.size_alloc]; omega
      have B146 : Hid (Abx wo144 (w.heap.size) (.bool false) (.slice sa1 sz1.length sc1) (.slice da1 dz1.length dc1)) := by rw [hwo144]; exact (B126.out.al (.cells #[.bool false, .slice xa4 sz1.length xc4, .slice ya4 D4.length yc4] 25))
      have B147 : Hid (Abx wo144 (v6.heap.size) (.bool false) (.slice xa3 sz1.length xc3) (.slice ya3 D3.length yc3)) := by rw [hwo144]; exact (B128.out.al (.cells #[.bool false, .slice xa4 sz1.length xc4, .slice ya4 D4.length yc4] 25))
      have B148 : Hid (Abx wo144 (v7.heap.size) (.bool false) (.slice xa4 sz1.length xc4) (.slice ya4 D4.length yc4)) := by rw [hwo144]; exact n137
      have L149 : Hid (MidC (wo87.heap.size) (v6.heap.size) wo144 (xa3) (sz1) (xc3)) := by rw [hwo144]; exact (L132.out.al (by omega) (.cells #[.bool false, .slice xa4 sz1.length xc4, .slice ya4 D4.length yc4] 25))
      have L150 : Hid (MidC (wo87.heap.size) (v6.heap.size) wo144 (ya3) (D3) (yc3)) := by rw [hwo144]; exact (L133.out.al (by omega) (.cells #[.bool false, .slice xa4 sz1.length xc4, .slice ya4 D4.length yc4] 25))
      have L151 : Hid (MidC (wo114.heap.size) (v7.heap.size) wo144 (xa4) (sz1) (xc4)) := by rw [hwo144]; exact (L135.out.al (by omega) (.cells #[.bool false, .slice xa4 sz1.length xc4, .slice ya4 D4.length yc4] 25))
      have L152 : Hid (MidC (wo114.heap.size) (v7.heap.size) wo144 (ya4) (D4) (yc4)) := by rw [hwo144]; exact (L136.out.al (by omega) (.cells #[.bool false, .slice xa4 sz1.length xc4, .slice ya4 D4.length yc4] 25))
      have hb153 : Hid (Below w.heap.size w wo144) := by rw [hwo144]; exact (hb134.out.alloc (by omega) (.cells #[.bool false, .slice xa4 sz1.length xc4, .slice ya4 D4.length yc4] 25))
      have zwo144 : w.heap.size ≤ wo144.heap.size := hb153.out.size
      clear hwo144 n137 l138 l139 l140 l141 l142 l143 hb134 B126 B128 L132 L133 L135 L136
      have hE := c2c_ok HE 1 false xa3 xc3 sz1 ya3 yc3 D3 false xa4 xc4 sz1 ya4 yc4 D4 wo144 (by unfold In64; decide) (by have := L3.out.1; omega) (by have := L3.out.2.1; omega) (by have := L4.out.1; omega) (by have := L4.out.2.1; omega) (L149.out.is (by omega)).1 (L150.out.is (by omega)).1 (L151.out.is (by omega)).1 (L152.out.is (by omega)).1 L3.out.2.2 L4.out.2.2 HK3.out.1
      rw [HS5.out.1, HS5.out.2.1] at hE
      refine (hE).mono ?_
      rintro e v8 ⟨xa5, xc5, ya5, yc5, rfl, hX5, hY5, hB⟩
      have z154 : wo144.heap.size ≤ v8.heap.size := hB.size
      have B155 : Hid (Abx v8 (w.heap.size) (.bool false) (.slice sa1 sz1.length sc1) (.slice da1 dz1.length dc1)) := B146.out.go hB
      have B156 : Hid (Abx v8 (v6.heap.size) (.bool false) (.slice xa3 sz1.length xc3) (.slice ya3 D3.length yc3)) := B147.out.go hB
      have B157 : Hid (Abx v8 (v7.heap.size) (.bool false) (.slice xa4 sz1.length xc4) (.slice ya4 D4.length yc4)) := B148.out.go hB
      have L158 : Hid (MidC (wo87.heap.size) (v6.heap.size) v8 (xa3) (sz1) (xc3)) := L149.out.go (by omega) hB
      have L159 : Hid (MidC (wo87.heap.size) (v6.heap.size) v8 (ya3) (D3) (yc3)) := L150.out.go (by omega) hB
      have L160 : Hid (MidC (wo114.heap.size) (v7.heap.size) v8 (xa4) (sz1) (xc4)) := L151.out.go (by omega) hB
      have L161 : Hid (MidC (wo114.heap.size) (v7.heap.size) v8 (ya4) (D4) (yc4)) := L152.out.go (by omega) hB
      have hb162 : Hid (Below w.heap.size w v8) := hb153.out.trans (hB.mono hb153.out.size)
      have L163 : Hid (MidC (wo144.heap.size) (v8.heap.size) v8 (xa5) (S5) (xc5)) := hX5.midc
      clear hB hb153 B146 B147 B148 L149 L150 L151 L152 hX5
      clear hE
      clear L158 L159 L160 L161 B156 B157
      have L164 : Hid (MidC (wo144.heap.size) (v8.heap.size) v8 (ya5) (D5) (D5.length)) := ⟨hY5.mid, Nat.le_refl _⟩
      clear hY5
      have n165 := Abx.new v8 (.bool false) (.slice xa5 S5.length xc5) (.slice ya5 D5.length yc5)
      have l166 := (n165).c0
      have l167 := (n165).c1
      have l168 := (n165).c2
      have l169 := ((B155.out.al (.cells #[.bool false, .slice xa5 S5.length xc5, .slice ya5 D5.length yc5] 25))).c0
      have l170 := ((B155.out.al (.cells #[.bool false, .slice xa5 S5.length xc5, .slice ya5 D5.length yc5] 25))).c1
      have l171 := ((B155.out.al (.cells #[.bool false, .slice xa5 S5.length xc5, .slice ya5 D5.length yc5] 25))).c2
      go_wp2_with fail
      obtain ⟨wo172, hwo172⟩ : ∃ wo172, wo172 = (v8.alloc (.cells #[.bool false, .slice xa5 S5.length xc5, .slice ya5 D5.length yc5] 25)) := ⟨_, rfl⟩
      rw [← hwo172]
      have z173 : v8.heap.size + 1 ≤ wo172.heap.size := by rw [hwo172]; simp only [World.size_alloc]; omega
      have B174 : Hid (Abx wo172 (w.heap.size) (.bool false) (.slice sa1 sz1.length sc1) (.slice da1 dz1.length dc1)) := by rw [hwo172]; exact (B155.out.al (.cells #[.bool false, .slice xa5 S5.length xc5, .slice ya5 D5.length yc5] 25))
      have B175 : Hid (Abx wo172 (v8.heap.size) (.bool false) (.slice xa5 S5.length xc5) (.slice ya5 D5.length yc5)) := by rw [hwo172]; exact n165
      have L176 : Hid (MidC (wo144.heap.size) (v8.heap.size) wo172 (xa5) (S5) (xc5)) := by rw [hwo172]; exact (L163.out.al (by omega) (.cells #[.bool false, .slice xa5 S5.length xc5, .slice ya5 D5.length yc5] 25))
      have L177 : Hid (MidC (wo144.heap.size) (v8.heap.size) wo172 (ya5) (D5) (D5.length)) := by rw [hwo172]; exact (L164.out.al (by omega) (.cells #[.bool false, .slice xa5 S5.length xc5, .slice ya5 D5.length yc5] 25))
      have hb178 : Hid (Below w.heap.size w wo172) := by rw [hwo172]; exact (hb162.out.alloc (by omega) (.cells #[.bool false, .slice xa5 S5.length xc5, .slice ya5 D5.length yc5] 25))
      have zwo172 : w.heap.size ≤ wo172.heap.size := hb178.out.size
      clear hwo172 n165 l166 l167 l168 l169 l170 l171 hb162 B155 L163 L164
      refine (alike_eq false xa5 xc5 S5 ya5 yc5 D5 sa1 sc1 sz1 da1 dc1 dz1 HS5.out.2.2.1.symm HS5.out.2.2.2.symm (by rw [HS5.out.2.2.1]; exact x1) (by rw [HS5.out.2.2.2]; exact x2) _ (L176.out.is (by omega)) (L177.out.is (by omega)).1 ((HI.out.1.below hb178.out).mono hb178.out.size) ((HI.out.2.1.1.below hb178.out).mono hb178.out.size)).mono ?_
      rintro e v9 ⟨rfl, hB⟩
      have z179 : wo172.heap.size ≤ v9.heap.size := hB.size
      have B180 : Hid (Abx v9 (w.heap.size) (.bool false) (.slice sa1 sz1.length sc1) (.slice da1 dz1.length dc1)) := B174.out.go hB
      have B181 : Hid (Abx v9 (v8.heap.size) (.bool false) (.slice xa5 S5.length xc5) (.slice ya5 D5.length yc5)) := B175.out.go hB
      have L182 : Hid (MidC (wo144.heap.size) (v8.heap.size) v9 (xa5) (S5) (xc5)) := L176.out.go (by omega) hB
      have L183 : Hid (MidC (wo144.heap.size) (v8.heap.size) v9 (ya5) (D5) (D5.length)) := L177.out.go (by omega) hB
      have hb184 : Hid (Below w.heap.size w v9) := hb178.out.trans (hB.mono hb178.out.size)
      clear hB hb178 B174 B175 L176 L177
      go_wp2_with fail
      go_ret
      exact ⟨rfl, hb184.out⟩
end Go.Proofs.Ytnfdcdoelhanlaa
