/-
  The walk of the statement CutMirrors, where the two go together, given what the program tells.
-/
import Derived.Test.YtldjgacnjogbnabCMirrorsWalk
namespace Go.Proofs.Ytldjgacnjogbnab
open Go.RowKit
set_option linter.unusedVariables false

set_option maxRecDepth 100000 in
set_option maxHeartbeats 8000000 in
theorem mirrors_lo (HT : CTk) (HJ : CJn) (HR : CRvB) (xn : Nat) (c1 : Bool) (bs os : Nat) (sc1 : Nat) (sz1 : List Int) (da1 : Option Addr) (dc1 : Nat) (dz1 : List Int) (sa2 : Option Addr) (sc2 : Nat) (sz2 : List Int) (da2 : Option Addr) (dc2 : Nat) (dz2 : List Int) (n : Int) (hn : In64 n) (w : World) (w9_1 : IsArrD w (some ⟨bs, os, none⟩) sz1 sc1 da1 dz1 dc1) (w9_2 : IsArrD w sa2 sz2 sc2 da2 dz2 dc2) (E1 : Hid (jnE (xn : Int) c1 sz1 dz1 c1 sz2 dz2 = 0)) (B1 : n < 0) :
    Calls Try.prog 6 #[.int .i64 (xn : Int), .agg #[.bool c1, .slice (some ⟨bs, os, none⟩) sz1.length sc1, .slice da1 dz1.length dc1], .agg #[.bool c1, .slice sa2 sz2.length sc2, .slice da2 dz2.length dc2], .int .i64 n] w fun e w' => e = .returned (.bool true) ∧ Below w.heap.size w w' := by
  obtain ⟨x1_1, x2_1, x3, x4, s64, T⟩ := w9_1
  have HI1 : Hid (IsC w.heap.size w (some ⟨bs, os, none⟩) sz1 sc1 ∧ IsC w.heap.size w da1 dz1 dc1 ∧ ∀ j, In64 (nth dz1 j)) := ⟨x3, x4, T⟩
  clear x3 x4 T s64
  obtain ⟨x1_2, x2_2, x3, x4, s64, T⟩ := w9_2
  have HI2 : Hid (IsC w.heap.size w sa2 sz2 sc2 ∧ IsC w.heap.size w da2 dz2 dc2 ∧ ∀ j, In64 (nth dz2 j)) := ⟨x3, x4, T⟩
  clear x3 x4 T s64
  obtain ⟨hn0, hn1⟩ := hn
  have F1 : Hid (flawE c1 sz1 dz1 = 0 ∧ xn < sz1.length) := ⟨(jnZ.1 E1.out).1, (jnZ.1 E1.out).2.2.2.1⟩
  have hxl := F1.out.2
  have hl6 : sz1.length ≤ 6 := (flawE_short F1.out.1).1
  have hd1 : dz1.length ≤ 4096 := (flawE_short F1.out.1).2
  have t2 : ¬ ((sz1.length : Int) ≤ (xn : Int)) := by omega
  have HK : Hid (AllIn sz1) := (errOf_zero.1 (flawE_zero F1.out.1).1).2.1
  have hz := HK.out.nth xn
  obtain ⟨b9, o9, e9, hbs, hcS⟩ := HI1.out.1.1.at hxl
  cases e9
  have HC : Hid (∀ W, Below w.heap.size w W → W.cell? ⟨bs, os + xn, none⟩ = some (.int .i64 (nth sz1 xn))) := fun W hB => (hB.cell (p := ⟨bs, os + xn, none⟩) hbs).trans (hcS xn hxl)
  clear hcS
  obtain ⟨S1, hS1⟩ : ∃ S, S = jnS xn sz1 sz2 := ⟨_, rfl⟩
  have HS1 : Hid (jnS xn sz1 sz2 = S1) := hS1.symm
  clear hS1
  obtain ⟨D1, hD1⟩ : ∃ D, D = jnD xn sz1 dz1 sz2 dz2 := ⟨_, rfl⟩
  have HD1 : Hid (jnD xn sz1 dz1 sz2 dz2 = D1) := hD1.symm
  clear hD1
  obtain ⟨D2, hD2⟩ : ∃ D, D = rvG (xn : Int) S1 D1 := ⟨_, rfl⟩
  have HD2 : Hid (rvG (xn : Int) S1 D1 = D2) := hD2.symm
  clear hD2
  obtain ⟨D3, hD3⟩ : ∃ D, D = rvG (xn : Int) sz1 dz1 := ⟨_, rfl⟩
  have HD3 : Hid (rvG (xn : Int) sz1 dz1 = D3) := hD3.symm
  clear hD3
  obtain ⟨D4, hD4⟩ : ∃ D, D = rvG (xn : Int) sz2 dz2 := ⟨_, rfl⟩
  have HD4 : Hid (rvG (xn : Int) sz2 dz2 = D4) := hD4.symm
  clear hD4
  obtain ⟨S5, hS5⟩ : ∃ S, S = jnS xn sz2 sz1 := ⟨_, rfl⟩
  have HS5 : Hid (jnS xn sz2 sz1 = S5) := hS5.symm
  clear hS5
  obtain ⟨D5, hD5⟩ : ∃ D, D = jnD xn sz2 D4 sz1 D3 := ⟨_, rfl⟩
  have HD5 : Hid (jnD xn sz2 D4 sz1 D3 = D5) := hD5.symm
  clear hD5
  have MM := jn_mirror E1.out
  rw [HS1.out, HD1.out, HD3.out, HD4.out, HD2.out, HS5.out, HD5.out] at MM
  have HM : Hid (axE (xn : Int) c1 S1 D1 = 0 ∧ axE (xn : Int) c1 sz1 dz1 = 0 ∧ axE (xn : Int) c1 sz2 dz2 = 0 ∧ jnE (xn : Int) c1 sz2 D4 c1 sz1 D3 = 0 ∧ S5 = S1 ∧ D5 = D2) := MM
  clear MM
  have L1 : Hid (S1.length ≤ 6 ∧ D1.length ≤ 4096 ∧ ∀ j, In64 (nth D1 j)) := by rw [← HS1.out, ← HD1.out]; exact jn_facts E1.out HI1.out.2.2 HI2.out.2.2
  have L2 : Hid (S1.length ≤ 6 ∧ D2.length ≤ 4096 ∧ ∀ j, In64 (nth D2 j)) := by rw [← HD2.out]; exact rv_facts HM.out.1 L1.out.2.2
  have L3 : Hid (sz1.length ≤ 6 ∧ D3.length ≤ 4096 ∧ ∀ j, In64 (nth D3 j)) := by rw [← HD3.out]; exact rv_facts HM.out.2.1 HI1.out.2.2
  have L4 : Hid (sz2.length ≤ 6 ∧ D4.length ≤ 4096 ∧ ∀ j, In64 (nth D4 j)) := by rw [← HD4.out]; exact rv_facts HM.out.2.2.1 HI2.out.2.2
  have n1 := Abx.new w (.bool c1) (.slice (some ⟨bs, os, none⟩) sz1.length sc1) (.slice da1 dz1.length dc1)
  have n2 := Abx.new (w.alloc (.cells #[.bool c1, .slice (some ⟨bs, os, none⟩) sz1.length sc1, .slice da1 dz1.length dc1] 24)) (.bool c1) (.slice sa2 sz2.length sc2) (.slice da2 dz2.length dc2)
  simp only [World.size_alloc] at n2
  have n3 := lit_mid ((w.alloc (.cells #[.bool c1, .slice (some ⟨bs, os, none⟩) sz1.length sc1, .slice da1 dz1.length dc1] 24)).alloc (.cells #[.bool c1, .slice sa2 sz2.length sc2, .slice da2 dz2.length dc2] 24)) 3 [1] 1 rfl
  simp only [World.size_alloc, List.map_cons, List.map_nil] at n3
  go_enter Try.func6, Try.ntmps6
  go_wp2_with fail
  obtain ⟨u4, hu4⟩ : ∃ u4, u4 = (((w.alloc (.cells #[.bool c1, .slice (some ⟨bs, os, none⟩) sz1.length sc1, .slice da1 dz1.length dc1] 24)).alloc (.cells #[.bool c1, .slice sa2 sz2.length sc2, .slice da2 dz2.length dc2] 24)).alloc (.cells #[.int .i64 1] 3)) := ⟨_, rfl⟩
  rw [← hu4]
  have z5 : w.heap.size + 1 + 1 + 1 ≤ u4.heap.size := by rw [hu4]; simp only [World.size_alloc]; omega
  have B6 : Hid (Abx u4 (w.heap.size) (.bool c1) (.slice (some ⟨bs, os, none⟩) sz1.length sc1) (.slice da1 dz1.length dc1)) := by rw [hu4]; exact ((n1.al (.cells #[.bool c1, .slice sa2 sz2.length sc2, .slice da2 dz2.length dc2] 24)).al (.cells #[.int .i64 1] 3))
  have B7 : Hid (Abx u4 (w.heap.size + 1) (.bool c1) (.slice sa2 sz2.length sc2) (.slice da2 dz2.length dc2)) := by rw [hu4]; exact (n2.al (.cells #[.int .i64 1] 3))
  have L8 : Hid (MidC (w.heap.size + 1 + 1) (w.heap.size + 1 + 1 + 1) u4 (some ⟨w.heap.size + 1 + 1, 0, none⟩) ([1]) (1)) := by rw [hu4]; exact n3
  have hb9 : Hid (Below w.heap.size w u4) := by rw [hu4]; exact ((((Below.refl w.heap.size w).alloc (by omega) (.cells #[.bool c1, .slice (some ⟨bs, os, none⟩) sz1.length sc1, .slice da1 dz1.length dc1] 24)).alloc (by simp only [World.size_alloc]; omega) (.cells #[.bool c1, .slice sa2 sz2.length sc2, .slice da2 dz2.length dc2] 24)).alloc (by simp only [World.size_alloc]; omega) (.cells #[.int .i64 1] 3))
  have zu4 : w.heap.size ≤ u4.heap.size := hb9.out.size
  clear hu4 n1 n2 n3
  refine (vec_c (some ⟨w.heap.size + 1 + 1, 0, none⟩) 1 [1] (by simp) _ (L8.out.is (by omega)).1).mono ?_
  rintro e v1 ⟨va1, vc1, ga1, gc1, rfl, hV, hG, hB⟩
  have z10 : u4.heap.size ≤ v1.heap.size := hB.size
  have B11 : Hid (Abx v1 (w.heap.size) (.bool c1) (.slice (some ⟨bs, os, none⟩) sz1.length sc1) (.slice da1 dz1.length dc1)) := B6.out.go hB
  have B12 : Hid (Abx v1 (w.heap.size + 1) (.bool c1) (.slice sa2 sz2.length sc2) (.slice da2 dz2.length dc2)) := B7.out.go hB
  have L13 : Hid (MidC (w.heap.size + 1 + 1) (w.heap.size + 1 + 1 + 1) v1 (some ⟨w.heap.size + 1 + 1, 0, none⟩) ([1]) (1)) := L8.out.go (by omega) hB
  have hb14 : Hid (Below w.heap.size w v1) := hb9.out.trans (hB.mono hb9.out.size)
  have L15 : Hid (MidC (u4.heap.size) (v1.heap.size) v1 (va1) ([(1 : Int)]) (vc1)) := hV.midc
  have L16 : Hid (MidC (u4.heap.size) (v1.heap.size) v1 (ga1) ([1]) (gc1)) := hG.midc
  clear hB hb9 B6 B7 L8 hV hG
  clear L13
  have n17 := lit_mid v1 3 [2, 3] 2 rfl
  simp only [List.map_cons, List.map_nil] at n17
  go_wp2_with fail
  obtain ⟨u18, hu18⟩ : ∃ u18, u18 = (v1.alloc (.cells #[.int .i64 2, .int .i64 3] 3)) := ⟨_, rfl⟩
  rw [← hu18]
  have z19 : v1.heap.size + 1 ≤ u18.heap.size := by rw [hu18]; simp only [World.size_alloc]; omega
  have B20 : Hid (Abx u18 (w.heap.size) (.bool c1) (.slice (some ⟨bs, os, none⟩) sz1.length sc1) (.slice da1 dz1.length dc1)) := by rw [hu18]; exact (B11.out.al (.cells #[.int .i64 2, .int .i64 3] 3))
  have B21 : Hid (Abx u18 (w.heap.size + 1) (.bool c1) (.slice sa2 sz2.length sc2) (.slice da2 dz2.length dc2)) := by rw [hu18]; exact (B12.out.al (.cells #[.int .i64 2, .int .i64 3] 3))
  have L22 : Hid (MidC (u4.heap.size) (v1.heap.size) u18 (va1) ([(1 : Int)]) (vc1)) := by rw [hu18]; exact (L15.out.al (by omega) (.cells #[.int .i64 2, .int .i64 3] 3))
  have L23 : Hid (MidC (u4.heap.size) (v1.heap.size) u18 (ga1) ([1]) (gc1)) := by rw [hu18]; exact (L16.out.al (by omega) (.cells #[.int .i64 2, .int .i64 3] 3))
  have L24 : Hid (MidC (v1.heap.size) (v1.heap.size + 1) u18 (some ⟨v1.heap.size, 0, none⟩) ([2, 3]) (2)) := by rw [hu18]; exact n17
  have hb25 : Hid (Below w.heap.size w u18) := by rw [hu18]; exact (hb14.out.alloc (by omega) (.cells #[.int .i64 2, .int .i64 3] 3))
  have zu18 : w.heap.size ≤ u18.heap.size := hb25.out.size
  clear hu18 n17 hb14 B11 B12 L15 L16
  refine (vec_c (some ⟨v1.heap.size, 0, none⟩) 2 [2, 3] (by simp) _ (L24.out.is (by omega)).1).mono ?_
  rintro e v2 ⟨va2, vc2, ga2, gc2, rfl, hV, hG, hB⟩
  have z26 : u18.heap.size ≤ v2.heap.size := hB.size
  have B27 : Hid (Abx v2 (w.heap.size) (.bool c1) (.slice (some ⟨bs, os, none⟩) sz1.length sc1) (.slice da1 dz1.length dc1)) := B20.out.go hB
  have B28 : Hid (Abx v2 (w.heap.size + 1) (.bool c1) (.slice sa2 sz2.length sc2) (.slice da2 dz2.length dc2)) := B21.out.go hB
  have L29 : Hid (MidC (u4.heap.size) (v1.heap.size) v2 (va1) ([(1 : Int)]) (vc1)) := L22.out.go (by omega) hB
  have L30 : Hid (MidC (u4.heap.size) (v1.heap.size) v2 (ga1) ([1]) (gc1)) := L23.out.go (by omega) hB
  have L31 : Hid (MidC (v1.heap.size) (v1.heap.size + 1) v2 (some ⟨v1.heap.size, 0, none⟩) ([2, 3]) (2)) := L24.out.go (by omega) hB
  have hb32 : Hid (Below w.heap.size w v2) := hb25.out.trans (hB.mono hb25.out.size)
  have L33 : Hid (MidC (u18.heap.size) (v2.heap.size) v2 (va2) ([(2 : Int)]) (vc2)) := hV.midc
  have L34 : Hid (MidC (u18.heap.size) (v2.heap.size) v2 (ga2) ([2, 3]) (gc2)) := hG.midc
  clear hB hb25 B20 B21 L22 L23 L24 hV hG
  clear L31
  go_wp2_with fail
  refine (jn_ok 0 (by unfold In64; decide) false va1 vc1 [1] ga1 gc1 [1] false va2 vc2 [2] ga2 gc2 [2, 3] _ (by simp) (by simp) (L29.out.is (by omega)) (L30.out.is (by omega)) (lit_all (by decide)) (by simp) (by simp) (L33.out.is (by omega)) (L34.out.is (by omega)) (lit_all (by decide)) [3] [1, 2, 3] HJ (by decide)).mono ?_
  rintro e v3 ⟨f1, g1, f2, g2, rfl, hX0, hY0, hB⟩
  have z35 : v2.heap.size ≤ v3.heap.size := hB.size
  have B36 : Hid (Abx v3 (w.heap.size) (.bool c1) (.slice (some ⟨bs, os, none⟩) sz1.length sc1) (.slice da1 dz1.length dc1)) := B27.out.go hB
  have B37 : Hid (Abx v3 (w.heap.size + 1) (.bool c1) (.slice sa2 sz2.length sc2) (.slice da2 dz2.length dc2)) := B28.out.go hB
  have L38 : Hid (MidC (u4.heap.size) (v1.heap.size) v3 (va1) ([(1 : Int)]) (vc1)) := L29.out.go (by omega) hB
  have L39 : Hid (MidC (u4.heap.size) (v1.heap.size) v3 (ga1) ([1]) (gc1)) := L30.out.go (by omega) hB
  have L40 : Hid (MidC (u18.heap.size) (v2.heap.size) v3 (va2) ([(2 : Int)]) (vc2)) := L33.out.go (by omega) hB
  have L41 : Hid (MidC (u18.heap.size) (v2.heap.size) v3 (ga2) ([2, 3]) (gc2)) := L34.out.go (by omega) hB
  have hb42 : Hid (Below w.heap.size w v3) := hb32.out.trans (hB.mono hb32.out.size)
  have L43 : Hid (MidC (v2.heap.size) (v3.heap.size) v3 (f1) ([3]) (g1)) := hX0.midc
  have L44 : Hid (MidC (v2.heap.size) (v3.heap.size) v3 (f2) ([1, 2, 3]) (g2)) := hY0.midc
  clear hB hb32 B27 B28 L29 L30 L33 L34 hX0 hY0
  clear L38 L39 L40 L41
  have n45 := Abx.new v3 (.bool false) (.slice f1 1 g1) (.slice f2 3 g2)
  have l46 := (n45).c0
  have l47 := (n45).c1
  have l48 := (n45).c2
  have n49 := lit_mid (v3.alloc (.cells #[.bool false, .slice f1 1 g1, .slice f2 3 g2] 24)) 3 [1, 2, 3] 3 rfl
  simp only [World.size_alloc, List.map_cons, List.map_nil] at n49
  go_wp2_with fail
  obtain ⟨u50, hu50⟩ : ∃ u50, u50 = ((v3.alloc (.cells #[.bool false, .slice f1 1 g1, .slice f2 3 g2] 24)).alloc (.cells #[.int .i64 1, .int .i64 2, .int .i64 3] 3)) := ⟨_, rfl⟩
  rw [← hu50]
  have z51 : v3.heap.size + 1 + 1 ≤ u50.heap.size := by rw [hu50]; simp only [World.size_alloc]; omega
  have B52 : Hid (Abx u50 (w.heap.size) (.bool c1) (.slice (some ⟨bs, os, none⟩) sz1.length sc1) (.slice da1 dz1.length dc1)) := by rw [hu50]; exact ((B36.out.al (.cells #[.bool false, .slice f1 1 g1, .slice f2 3 g2] 24)).al (.cells #[.int .i64 1, .int .i64 2, .int .i64 3] 3))
  have B53 : Hid (Abx u50 (w.heap.size + 1) (.bool c1) (.slice sa2 sz2.length sc2) (.slice da2 dz2.length dc2)) := by rw [hu50]; exact ((B37.out.al (.cells #[.bool false, .slice f1 1 g1, .slice f2 3 g2] 24)).al (.cells #[.int .i64 1, .int .i64 2, .int .i64 3] 3))
  have B54 : Hid (Abx u50 (v3.heap.size) (.bool false) (.slice f1 1 g1) (.slice f2 3 g2)) := by rw [hu50]; exact (n45.al (.cells #[.int .i64 1, .int .i64 2, .int .i64 3] 3))
  have L55 : Hid (MidC (v2.heap.size) (v3.heap.size) u50 (f1) ([3]) (g1)) := by rw [hu50]; exact ((L43.out.al (by omega) (.cells #[.bool false, .slice f1 1 g1, .slice f2 3 g2] 24)).al (by simp only [World.size_alloc]; omega) (.cells #[.int .i64 1, .int .i64 2, .int .i64 3] 3))
  have L56 : Hid (MidC (v2.heap.size) (v3.heap.size) u50 (f2) ([1, 2, 3]) (g2)) := by rw [hu50]; exact ((L44.out.al (by omega) (.cells #[.bool false, .slice f1 1 g1, .slice f2 3 g2] 24)).al (by simp only [World.size_alloc]; omega) (.cells #[.int .i64 1, .int .i64 2, .int .i64 3] 3))
  have L57 : Hid (MidC (v3.heap.size + 1) (v3.heap.size + 1 + 1) u50 (some ⟨v3.heap.size + 1, 0, none⟩) ([1, 2, 3]) (3)) := by rw [hu50]; exact n49
  have hb58 : Hid (Below w.heap.size w u50) := by rw [hu50]; exact ((hb42.out.alloc (by omega) (.cells #[.bool false, .slice f1 1 g1, .slice f2 3 g2] 24)).alloc (by simp only [World.size_alloc]; omega) (.cells #[.int .i64 1, .int .i64 2, .int .i64 3] 3))
  have zu50 : w.heap.size ≤ u50.heap.size := hb58.out.size
  clear hu50 n45 l46 l47 l48 n49 hb42 B36 B37 L43 L44
  refine (ints_any f2 g2 [1, 2, 3] (some ⟨v3.heap.size + 1, 0, none⟩) 3 [1, 2, 3] (by simp) _ _ (L56.out.is (by omega)).1 (L57.out.is (by omega)).1).mono ?_
  rintro e v4 ⟨rfl, hB⟩
  have z59 : u50.heap.size ≤ v4.heap.size := hB.size
  have B60 : Hid (Abx v4 (w.heap.size) (.bool c1) (.slice (some ⟨bs, os, none⟩) sz1.length sc1) (.slice da1 dz1.length dc1)) := B52.out.go hB
  have B61 : Hid (Abx v4 (w.heap.size + 1) (.bool c1) (.slice sa2 sz2.length sc2) (.slice da2 dz2.length dc2)) := B53.out.go hB
  have B62 : Hid (Abx v4 (v3.heap.size) (.bool false) (.slice f1 1 g1) (.slice f2 3 g2)) := B54.out.go hB
  have L63 : Hid (MidC (v2.heap.size) (v3.heap.size) v4 (f1) ([3]) (g1)) := L55.out.go (by omega) hB
  have L64 : Hid (MidC (v2.heap.size) (v3.heap.size) v4 (f2) ([1, 2, 3]) (g2)) := L56.out.go (by omega) hB
  have L65 : Hid (MidC (v3.heap.size + 1) (v3.heap.size + 1 + 1) v4 (some ⟨v3.heap.size + 1, 0, none⟩) ([1, 2, 3]) (3)) := L57.out.go (by omega) hB
  have hb66 : Hid (Below w.heap.size w v4) := hb58.out.trans (hB.mono hb58.out.size)
  clear hB hb58 B52 B53 B54 L55 L56 L57
  rw [eqB_true rfl]
  clear L63 L64 L65 B62
  have l67 := (B60.out).c0
  have l68 := (B60.out).c1
  have l69 := (B60.out).c2
  have l70 := (B61.out).c0
  have l71 := (B61.out).c1
  have l72 := (B61.out).c2
  go_wp2_with fail
  clear l67 l68 l69 l70 l71 l72
  refine (jn_ok (xn : Int) (by unfold In64; omega) c1 (some ⟨bs, os, none⟩) sc1 sz1 da1 dc1 dz1 c1 sa2 sc2 sz2 da2 dc2 dz2 _ x1_1 x2_1 ((HI1.out.1.below hb66.out).mono hb66.out.size) ((HI1.out.2.1.below hb66.out).mono hb66.out.size) HI1.out.2.2 x1_2 x2_2 ((HI2.out.1.below hb66.out).mono hb66.out.size) ((HI2.out.2.1.below hb66.out).mono hb66.out.size) HI2.out.2.2 S1 D1 HJ ⟨E1.out, HS1.out, HD1.out⟩).mono ?_
  rintro e v5 ⟨xa1, xc1, ya1, yc1, rfl, hX1, hY1, hB⟩
  have z73 : v4.heap.size ≤ v5.heap.size := hB.size
  have B74 : Hid (Abx v5 (w.heap.size) (.bool c1) (.slice (some ⟨bs, os, none⟩) sz1.length sc1) (.slice da1 dz1.length dc1)) := B60.out.go hB
  have B75 : Hid (Abx v5 (w.heap.size + 1) (.bool c1) (.slice sa2 sz2.length sc2) (.slice da2 dz2.length dc2)) := B61.out.go hB
  have hb76 : Hid (Below w.heap.size w v5) := hb66.out.trans (hB.mono hb66.out.size)
  have L77 : Hid (MidC (v4.heap.size) (v5.heap.size) v5 (xa1) (S1) (xc1)) := hX1.midc
  have L78 : Hid (MidC (v4.heap.size) (v5.heap.size) v5 (ya1) (D1) (yc1)) := hY1.midc
  clear hB hb66 B60 B61 hX1 hY1
  have n79 := Abx.new v5 (.bool c1) (.slice xa1 S1.length xc1) (.slice ya1 D1.length yc1)
  have l80 := (n79).c0
  have l81 := (n79).c1
  have l82 := (n79).c2
  go_wp2_with fail
  obtain ⟨u83, hu83⟩ : ∃ u83, u83 = (v5.alloc (.cells #[.bool c1, .slice xa1 S1.length xc1, .slice ya1 D1.length yc1] 24)) := ⟨_, rfl⟩
  rw [← hu83]
  have z84 : v5.heap.size + 1 ≤ u83.heap.size := by rw [hu83]; simp only [World.size_alloc]; omega
  have B85 : Hid (Abx u83 (w.heap.size) (.bool c1) (.slice (some ⟨bs, os, none⟩) sz1.length sc1) (.slice da1 dz1.length dc1)) := by rw [hu83]; exact (B74.out.al (.cells #[.bool c1, .slice xa1 S1.length xc1, .slice ya1 D1.length yc1] 24))
  have B86 : Hid (Abx u83 (w.heap.size + 1) (.bool c1) (.slice sa2 sz2.length sc2) (.slice da2 dz2.length dc2)) := by rw [hu83]; exact (B75.out.al (.cells #[.bool c1, .slice xa1 S1.length xc1, .slice ya1 D1.length yc1] 24))
  have B87 : Hid (Abx u83 (v5.heap.size) (.bool c1) (.slice xa1 S1.length xc1) (.slice ya1 D1.length yc1)) := by rw [hu83]; exact n79
  have L88 : Hid (MidC (v4.heap.size) (v5.heap.size) u83 (xa1) (S1) (xc1)) := by rw [hu83]; exact (L77.out.al (by omega) (.cells #[.bool c1, .slice xa1 S1.length xc1, .slice ya1 D1.length yc1] 24))
  have L89 : Hid (MidC (v4.heap.size) (v5.heap.size) u83 (ya1) (D1) (yc1)) := by rw [hu83]; exact (L78.out.al (by omega) (.cells #[.bool c1, .slice xa1 S1.length xc1, .slice ya1 D1.length yc1] 24))
  have hb90 : Hid (Below w.heap.size w u83) := by rw [hu83]; exact (hb76.out.alloc (by omega) (.cells #[.bool c1, .slice xa1 S1.length xc1, .slice ya1 D1.length yc1] 24))
  have zu83 : w.heap.size ≤ u83.heap.size := hb90.out.size
  clear hu83 n79 l80 l81 l82 hb76 B74 B75 L77 L78
  refine (rvb_ok c1 xa1 xc1 S1 ya1 yc1 D1 _ (by have := L1.out.1; omega) (by have := L1.out.2.1; omega) (L88.out.is (by omega)) (L89.out.is (by omega)) L1.out.2.2 D2 HR (xn : Int) (by unfold In64; omega) ⟨HM.out.1, HD2.out⟩).mono ?_
  rintro e v6 ⟨xa2, xc2, ya2, yc2, rfl, hX2, hY2, hB⟩
  have z91 : u83.heap.size ≤ v6.heap.size := hB.size
  have B92 : Hid (Abx v6 (w.heap.size) (.bool c1) (.slice (some ⟨bs, os, none⟩) sz1.length sc1) (.slice da1 dz1.length dc1)) := B85.out.go hB
  have B93 : Hid (Abx v6 (w.heap.size + 1) (.bool c1) (.slice sa2 sz2.length sc2) (.slice da2 dz2.length dc2)) := B86.out.go hB
  have B94 : Hid (Abx v6 (v5.heap.size) (.bool c1) (.slice xa1 S1.length xc1) (.slice ya1 D1.length yc1)) := B87.out.go hB
  have L95 : Hid (MidC (v4.heap.size) (v5.heap.size) v6 (xa1) (S1) (xc1)) := L88.out.go (by omega) hB
  have L96 : Hid (MidC (v4.heap.size) (v5.heap.size) v6 (ya1) (D1) (yc1)) := L89.out.go (by omega) hB
  have hb97 : Hid (Below w.heap.size w v6) := hb90.out.trans (hB.mono hb90.out.size)
  have L98 : Hid (MidC (u83.heap.size) (v6.heap.size) v6 (xa2) (S1) (xc2)) := hX2.midc
  have L99 : Hid (MidC (u83.heap.size) (v6.heap.size) v6 (ya2) (D2) (yc2)) := hY2.midc
  clear hB hb90 B85 B86 B87 L88 L89 hX2 hY2
  clear L95 L96
  have l100 := (B94.out).fr 0
  have l101 := (B94.out).c0
  have l102 := (B94.out).fr 1
  have l103 := (B94.out).c1
  have l104 := (B94.out).fr 2
  have l105 := (B94.out).c2
  have l106 := ((abx_o3 B92.out (B := v5.heap.size) (by omega) (.bool c1) (.slice xa2 S1.length xc2) (.slice ya2 D2.length yc2))).c0
  have l107 := ((abx_o3 B92.out (B := v5.heap.size) (by omega) (.bool c1) (.slice xa2 S1.length xc2) (.slice ya2 D2.length yc2))).c1
  have l108 := ((abx_o3 B92.out (B := v5.heap.size) (by omega) (.bool c1) (.slice xa2 S1.length xc2) (.slice ya2 D2.length yc2))).c2
  go_wp2_with fail
  obtain ⟨u109, hu109⟩ : ∃ u109, u109 = (((v6.setCell ⟨v5.heap.size, 0, none⟩ (.bool c1)).setCell ⟨v5.heap.size, 1, none⟩ (.slice xa2 S1.length xc2)).setCell ⟨v5.heap.size, 2, none⟩ (.slice ya2 D2.length yc2)) := ⟨_, rfl⟩
  rw [← hu109]
  have z110 : v6.heap.size ≤ u109.heap.size := by rw [hu109]; simp only [World.size_setCell]; omega
  have B111 : Hid (Abx u109 (w.heap.size) (.bool c1) (.slice (some ⟨bs, os, none⟩) sz1.length sc1) (.slice da1 dz1.length dc1)) := by rw [hu109]; exact (abx_o3 B92.out (B := v5.heap.size) (by omega) (.bool c1) (.slice xa2 S1.length xc2) (.slice ya2 D2.length yc2))
  have B112 : Hid (Abx u109 (w.heap.size + 1) (.bool c1) (.slice sa2 sz2.length sc2) (.slice da2 dz2.length dc2)) := by rw [hu109]; exact (abx_o3 B93.out (B := v5.heap.size) (by omega) (.bool c1) (.slice xa2 S1.length xc2) (.slice ya2 D2.length yc2))
  have B113 : Hid (Abx u109 (v5.heap.size) (.bool c1) (.slice xa2 S1.length xc2) (.slice ya2 D2.length yc2)) := by rw [hu109]; exact (B94.out.set3 (.bool c1) (.slice xa2 S1.length xc2) (.slice ya2 D2.length yc2))
  have L114 : Hid (MidC (u83.heap.size) (v6.heap.size) u109 (xa2) (S1) (xc2)) := by rw [hu109]; exact (L98.out.s3 (b := v5.heap.size) (by omega) (.bool c1) (.slice xa2 S1.length xc2) (.slice ya2 D2.length yc2))
  have L115 : Hid (MidC (u83.heap.size) (v6.heap.size) u109 (ya2) (D2) (yc2)) := by rw [hu109]; exact (L99.out.s3 (b := v5.heap.size) (by omega) (.bool c1) (.slice xa2 S1.length xc2) (.slice ya2 D2.length yc2))
  have hb116 : Hid (Below w.heap.size w u109) := by rw [hu109]; exact (bel_s3 hb97.out (B := v5.heap.size) (by omega) (.bool c1) (.slice xa2 S1.length xc2) (.slice ya2 D2.length yc2))
  have zu109 : w.heap.size ≤ u109.heap.size := hb116.out.size
  clear hu109 l100 l101 l102 l103 l104 l105 l106 l107 l108 hb97 B92 B93 B94 L98 L99
  refine (rvb_ok c1 (some ⟨bs, os, none⟩) sc1 sz1 da1 dc1 dz1 _ x1_1 x2_1 ((HI1.out.1.below hb116.out).mono hb116.out.size) ((HI1.out.2.1.below hb116.out).mono hb116.out.size) HI1.out.2.2 D3 HR (xn : Int) (by unfold In64; omega) ⟨HM.out.2.1, HD3.out⟩).mono ?_
  rintro e v7 ⟨xa3, xc3, ya3, yc3, rfl, hX3, hY3, hB⟩
  have z117 : u109.heap.size ≤ v7.heap.size := hB.size
  have B118 : Hid (Abx v7 (w.heap.size) (.bool c1) (.slice (some ⟨bs, os, none⟩) sz1.length sc1) (.slice da1 dz1.length dc1)) := B111.out.go hB
  have B119 : Hid (Abx v7 (w.heap.size + 1) (.bool c1) (.slice sa2 sz2.length sc2) (.slice da2 dz2.length dc2)) := B112.out.go hB
  have B120 : Hid (Abx v7 (v5.heap.size) (.bool c1) (.slice xa2 S1.length xc2) (.slice ya2 D2.length yc2)) := B113.out.go hB
  have L121 : Hid (MidC (u83.heap.size) (v6.heap.size) v7 (xa2) (S1) (xc2)) := L114.out.go (by omega) hB
  have L122 : Hid (MidC (u83.heap.size) (v6.heap.size) v7 (ya2) (D2) (yc2)) := L115.out.go (by omega) hB
  have hb123 : Hid (Below w.heap.size w v7) := hb116.out.trans (hB.mono hb116.out.size)
  have L124 : Hid (MidC (u109.heap.size) (v7.heap.size) v7 (xa3) (sz1) (xc3)) := hX3.midc
  have L125 : Hid (MidC (u109.heap.size) (v7.heap.size) v7 (ya3) (D3) (yc3)) := hY3.midc
  clear hB hb116 B111 B112 B113 L114 L115 hX3 hY3
  have n126 := Abx.new v7 (.bool c1) (.slice xa3 sz1.length xc3) (.slice ya3 D3.length yc3)
  have l127 := ((B119.out.al (.cells #[.bool c1, .slice xa3 sz1.length xc3, .slice ya3 D3.length yc3] 24))).c0
  have l128 := ((B119.out.al (.cells #[.bool c1, .slice xa3 sz1.length xc3, .slice ya3 D3.length yc3] 24))).c1
  have l129 := ((B119.out.al (.cells #[.bool c1, .slice xa3 sz1.length xc3, .slice ya3 D3.length yc3] 24))).c2
  go_wp2_with fail
  obtain ⟨u130, hu130⟩ : ∃ u130, u130 = (v7.alloc (.cells #[.bool c1, .slice xa3 sz1.length xc3, .slice ya3 D3.length yc3] 24)) := ⟨_, rfl⟩
  rw [← hu130]
  have z131 : v7.heap.size + 1 ≤ u130.heap.size := by rw [hu130]; simp only [World.size_alloc]; omega
  have B132 : Hid (Abx u130 (w.heap.size) (.bool c1) (.slice (some ⟨bs, os, none⟩) sz1.length sc1) (.slice da1 dz1.length dc1)) := by rw [hu130]; exact (B118.out.al (.cells #[.bool c1, .slice xa3 sz1.length xc3, .slice ya3 D3.length yc3] 24))
  have B133 : Hid (Abx u130 (w.heap.size + 1) (.bool c1) (.slice sa2 sz2.length sc2) (.slice da2 dz2.length dc2)) := by rw [hu130]; exact (B119.out.al (.cells #[.bool c1, .slice xa3 sz1.length xc3, .slice ya3 D3.length yc3] 24))
  have B134 : Hid (Abx u130 (v5.heap.size) (.bool c1) (.slice xa2 S1.length xc2) (.slice ya2 D2.length yc2)) := by rw [hu130]; exact (B120.out.al (.cells #[.bool c1, .slice xa3 sz1.length xc3, .slice ya3 D3.length yc3] 24))
  have B135 : Hid (Abx u130 (v7.heap.size) (.bool c1) (.slice xa3 sz1.length xc3) (.slice ya3 D3.length yc3)) := by rw [hu130]; exact n126
  have L136 : Hid (MidC (u83.heap.size) (v6.heap.size) u130 (xa2) (S1) (xc2)) := by rw [hu130]; exact (L121.out.al (by omega) (.cells #[.bool c1, .slice xa3 sz1.length xc3, .slice ya3 D3.length yc3] 24))
  have L137 : Hid (MidC (u83.heap.size) (v6.heap.size) u130 (ya2) (D2) (yc2)) := by rw [hu130]; exact (L122.out.al (by omega) (.cells #[.bool c1, .slice xa3 sz1.length xc3, .slice ya3 D3.length yc3] 24))
  have L138 : Hid (MidC (u109.heap.size) (v7.heap.size) u130 (xa3) (sz1) (xc3)) := by rw [hu130]; exact (L124.out.al (by omega) (.cells #[.bool c1, .slice xa3 sz1.length xc3, .slice ya3 D3.length yc3] 24))
  have L139 : Hid (MidC (u109.heap.size) (v7.heap.size) u130 (ya3) (D3) (yc3)) := by rw [hu130]; exact (L125.out.al (by omega) (.cells #[.bool c1, .slice xa3 sz1.length xc3, .slice ya3 D3.length yc3] 24))
  have hb140 : Hid (Below w.heap.size w u130) := by rw [hu130]; exact (hb123.out.alloc (by omega) (.cells #[.bool c1, .slice xa3 sz1.length xc3, .slice ya3 D3.length yc3] 24))
  have zu130 : w.heap.size ≤ u130.heap.size := hb140.out.size
  clear hu130 n126 l127 l128 l129 hb123 B118 B119 B120 L121 L122 L124 L125
  refine (rvb_ok c1 sa2 sc2 sz2 da2 dc2 dz2 _ x1_2 x2_2 ((HI2.out.1.below hb140.out).mono hb140.out.size) ((HI2.out.2.1.below hb140.out).mono hb140.out.size) HI2.out.2.2 D4 HR (xn : Int) (by unfold In64; omega) ⟨HM.out.2.2.1, HD4.out⟩).mono ?_
  rintro e v8 ⟨xa4, xc4, ya4, yc4, rfl, hX4, hY4, hB⟩
  have z141 : u130.heap.size ≤ v8.heap.size := hB.size
  have B142 : Hid (Abx v8 (w.heap.size) (.bool c1) (.slice (some ⟨bs, os, none⟩) sz1.length sc1) (.slice da1 dz1.length dc1)) := B132.out.go hB
  have B143 : Hid (Abx v8 (w.heap.size + 1) (.bool c1) (.slice sa2 sz2.length sc2) (.slice da2 dz2.length dc2)) := B133.out.go hB
  have B144 : Hid (Abx v8 (v5.heap.size) (.bool c1) (.slice xa2 S1.length xc2) (.slice ya2 D2.length yc2)) := B134.out.go hB
  have B145 : Hid (Abx v8 (v7.heap.size) (.bool c1) (.slice xa3 sz1.length xc3) (.slice ya3 D3.length yc3)) := B135.out.go hB
  have L146 : Hid (MidC (u83.heap.size) (v6.heap.size) v8 (xa2) (S1) (xc2)) := L136.out.go (by omega) hB
  have L147 : Hid (MidC (u83.heap.size) (v6.heap.size) v8 (ya2) (D2) (yc2)) := L137.out.go (by omega) hB
  have L148 : Hid (MidC (u109.heap.size) (v7.heap.size) v8 (xa3) (sz1) (xc3)) := L138.out.go (by omega) hB
  have L149 : Hid (MidC (u109.heap.size) (v7.heap.size) v8 (ya3) (D3) (yc3)) := L139.out.go (by omega) hB
  have hb150 : Hid (Below w.heap.size w v8) := hb140.out.trans (hB.mono hb140.out.size)
  have L151 : Hid (MidC (u130.heap.size) (v8.heap.size) v8 (xa4) (sz2) (xc4)) := hX4.midc
  have L152 : Hid (MidC (u130.heap.size) (v8.heap.size) v8 (ya4) (D4) (yc4)) := hY4.midc
  clear hB hb140 B132 B133 B134 B135 L136 L137 L138 L139 hX4 hY4
  have n153 := Abx.new v8 (.bool c1) (.slice xa4 sz2.length xc4) (.slice ya4 D4.length yc4)
  have l154 := (n153).c0
  have l155 := (n153).c1
  have l156 := (n153).c2
  have l157 := ((B145.out.al (.cells #[.bool c1, .slice xa4 sz2.length xc4, .slice ya4 D4.length yc4] 24))).c0
  have l158 := ((B145.out.al (.cells #[.bool c1, .slice xa4 sz2.length xc4, .slice ya4 D4.length yc4] 24))).c1
  have l159 := ((B145.out.al (.cells #[.bool c1, .slice xa4 sz2.length xc4, .slice ya4 D4.length yc4] 24))).c2
  go_wp2_with fail
  obtain ⟨u160, hu160⟩ : ∃ u160, u160 = (v8.alloc (.cells #[.bool c1, .slice xa4 sz2.length xc4, .slice ya4 D4.length yc4] 24)) := ⟨_, rfl⟩
  rw [← hu160]
  have z161 : v8.heap.size + 1 ≤ u160.heap.size := by rw [hu160]; simp only [World.size_alloc]; omega
  have B162 : Hid (Abx u160 (w.heap.size) (.bool c1) (.slice (some ⟨bs, os, none⟩) sz1.length sc1) (.slice da1 dz1.length dc1)) := by rw [hu160]; exact (B142.out.al (.cells #[.bool c1, .slice xa4 sz2.length xc4, .slice ya4 D4.length yc4] 24))
  have B163 : Hid (Abx u160 (w.heap.size + 1) (.bool c1) (.slice sa2 sz2.length sc2) (.slice da2 dz2.length dc2)) := by rw [hu160]; exact (B143.out.al (.cells #[.bool c1, .slice xa4 sz2.length xc4, .slice ya4 D4.length yc4] 24))
  have B164 : Hid (Abx u160 (v5.heap.size) (.bool c1) (.slice xa2 S1.length xc2) (.slice ya2 D2.length yc2)) := by rw [hu160]; exact (B144.out.al (.cells #[.bool c1, .slice xa4 sz2.length xc4, .slice ya4 D4.length yc4] 24))
  have B165 : Hid (Abx u160 (v7.heap.size) (.bool c1) (.slice xa3 sz1.length xc3) (.slice ya3 D3.length yc3)) := by rw [hu160]; exact (B145.out.al (.cells #[.bool c1, .slice xa4 sz2.length xc4, .slice ya4 D4.length yc4] 24))
  have B166 : Hid (Abx u160 (v8.heap.size) (.bool c1) (.slice xa4 sz2.length xc4) (.slice ya4 D4.length yc4)) := by rw [hu160]; exact n153
  have L167 : Hid (MidC (u83.heap.size) (v6.heap.size) u160 (xa2) (S1) (xc2)) := by rw [hu160]; exact (L146.out.al (by omega) (.cells #[.bool c1, .slice xa4 sz2.length xc4, .slice ya4 D4.length yc4] 24))
  have L168 : Hid (MidC (u83.heap.size) (v6.heap.size) u160 (ya2) (D2) (yc2)) := by rw [hu160]; exact (L147.out.al (by omega) (.cells #[.bool c1, .slice xa4 sz2.length xc4, .slice ya4 D4.length yc4] 24))
  have L169 : Hid (MidC (u109.heap.size) (v7.heap.size) u160 (xa3) (sz1) (xc3)) := by rw [hu160]; exact (L148.out.al (by omega) (.cells #[.bool c1, .slice xa4 sz2.length xc4, .slice ya4 D4.length yc4] 24))
  have L170 : Hid (MidC (u109.heap.size) (v7.heap.size) u160 (ya3) (D3) (yc3)) := by rw [hu160]; exact (L149.out.al (by omega) (.cells #[.bool c1, .slice xa4 sz2.length xc4, .slice ya4 D4.length yc4] 24))
  have L171 : Hid (MidC (u130.heap.size) (v8.heap.size) u160 (xa4) (sz2) (xc4)) := by rw [hu160]; exact (L151.out.al (by omega) (.cells #[.bool c1, .slice xa4 sz2.length xc4, .slice ya4 D4.length yc4] 24))
  have L172 : Hid (MidC (u130.heap.size) (v8.heap.size) u160 (ya4) (D4) (yc4)) := by rw [hu160]; exact (L152.out.al (by omega) (.cells #[.bool c1, .slice xa4 sz2.length xc4, .slice ya4 D4.length yc4] 24))
  have hb173 : Hid (Below w.heap.size w u160) := by rw [hu160]; exact (hb150.out.alloc (by omega) (.cells #[.bool c1, .slice xa4 sz2.length xc4, .slice ya4 D4.length yc4] 24))
  have zu160 : w.heap.size ≤ u160.heap.size := hb173.out.size
  clear hu160 n153 l154 l155 l156 l157 l158 l159 hb150 B142 B143 B144 B145 L146 L147 L148 L149 L151 L152
  refine (jn_ok (xn : Int) (by unfold In64; omega) c1 xa4 xc4 sz2 ya4 yc4 D4 c1 xa3 xc3 sz1 ya3 yc3 D3 _ (by have := L4.out.1; omega) (by have := L4.out.2.1; omega) (L171.out.is (by omega)) (L172.out.is (by omega)) L4.out.2.2 (by have := L3.out.1; omega) (by have := L3.out.2.1; omega) (L169.out.is (by omega)) (L170.out.is (by omega)) L3.out.2.2 S5 D5 HJ ⟨HM.out.2.2.2.1, HS5.out, HD5.out⟩).mono ?_
  rintro e v9 ⟨xa5, xc5, ya5, yc5, rfl, hX5, hY5, hB⟩
  have z174 : u160.heap.size ≤ v9.heap.size := hB.size
  have B175 : Hid (Abx v9 (w.heap.size) (.bool c1) (.slice (some ⟨bs, os, none⟩) sz1.length sc1) (.slice da1 dz1.length dc1)) := B162.out.go hB
  have B176 : Hid (Abx v9 (w.heap.size + 1) (.bool c1) (.slice sa2 sz2.length sc2) (.slice da2 dz2.length dc2)) := B163.out.go hB
  have B177 : Hid (Abx v9 (v5.heap.size) (.bool c1) (.slice xa2 S1.length xc2) (.slice ya2 D2.length yc2)) := B164.out.go hB
  have B178 : Hid (Abx v9 (v7.heap.size) (.bool c1) (.slice xa3 sz1.length xc3) (.slice ya3 D3.length yc3)) := B165.out.go hB
  have B179 : Hid (Abx v9 (v8.heap.size) (.bool c1) (.slice xa4 sz2.length xc4) (.slice ya4 D4.length yc4)) := B166.out.go hB
  have L180 : Hid (MidC (u83.heap.size) (v6.heap.size) v9 (xa2) (S1) (xc2)) := L167.out.go (by omega) hB
  have L181 : Hid (MidC (u83.heap.size) (v6.heap.size) v9 (ya2) (D2) (yc2)) := L168.out.go (by omega) hB
  have L182 : Hid (MidC (u109.heap.size) (v7.heap.size) v9 (xa3) (sz1) (xc3)) := L169.out.go (by omega) hB
  have L183 : Hid (MidC (u109.heap.size) (v7.heap.size) v9 (ya3) (D3) (yc3)) := L170.out.go (by omega) hB
  have L184 : Hid (MidC (u130.heap.size) (v8.heap.size) v9 (xa4) (sz2) (xc4)) := L171.out.go (by omega) hB
  have L185 : Hid (MidC (u130.heap.size) (v8.heap.size) v9 (ya4) (D4) (yc4)) := L172.out.go (by omega) hB
  have hb186 : Hid (Below w.heap.size w v9) := hb173.out.trans (hB.mono hb173.out.size)
  have L187 : Hid (MidC (u160.heap.size) (v9.heap.size) v9 (xa5) (S5) (xc5)) := hX5.midc
  have L188 : Hid (MidC (u160.heap.size) (v9.heap.size) v9 (ya5) (D5) (yc5)) := hY5.midc
  clear hB hb173 B162 B163 B164 B165 B166 L167 L168 L169 L170 L171 L172 hX5 hY5
  clear L184 L185 B179 B176
  have n189 := Abx.new v9 (.bool c1) (.slice xa5 S5.length xc5) (.slice ya5 D5.length yc5)
  have l190 := ((B177.out.al (.cells #[.bool c1, .slice xa5 S5.length xc5, .slice ya5 D5.length yc5] 24))).c0
  have l191 := ((B177.out.al (.cells #[.bool c1, .slice xa5 S5.length xc5, .slice ya5 D5.length yc5] 24))).c1
  have l192 := ((B177.out.al (.cells #[.bool c1, .slice xa5 S5.length xc5, .slice ya5 D5.length yc5] 24))).c2
  have l193 := (n189).c0
  have l194 := (n189).c1
  have l195 := (n189).c2
  go_wp2_with fail
  obtain ⟨u196, hu196⟩ : ∃ u196, u196 = (v9.alloc (.cells #[.bool c1, .slice xa5 S5.length xc5, .slice ya5 D5.length yc5] 24)) := ⟨_, rfl⟩
  rw [← hu196]
  have z197 : v9.heap.size + 1 ≤ u196.heap.size := by rw [hu196]; simp only [World.size_alloc]; omega
  have B198 : Hid (Abx u196 (w.heap.size) (.bool c1) (.slice (some ⟨bs, os, none⟩) sz1.length sc1) (.slice da1 dz1.length dc1)) := by rw [hu196]; exact (B175.out.al (.cells #[.bool c1, .slice xa5 S5.length xc5, .slice ya5 D5.length yc5] 24))
  have B199 : Hid (Abx u196 (v5.heap.size) (.bool c1) (.slice xa2 S1.length xc2) (.slice ya2 D2.length yc2)) := by rw [hu196]; exact (B177.out.al (.cells #[.bool c1, .slice xa5 S5.length xc5, .slice ya5 D5.length yc5] 24))
  have B200 : Hid (Abx u196 (v7.heap.size) (.bool c1) (.slice xa3 sz1.length xc3) (.slice ya3 D3.length yc3)) := by rw [hu196]; exact (B178.out.al (.cells #[.bool c1, .slice xa5 S5.length xc5, .slice ya5 D5.length yc5] 24))
  have B201 : Hid (Abx u196 (v9.heap.size) (.bool c1) (.slice xa5 S5.length xc5) (.slice ya5 D5.length yc5)) := by rw [hu196]; exact n189
  have L202 : Hid (MidC (u83.heap.size) (v6.heap.size) u196 (xa2) (S1) (xc2)) := by rw [hu196]; exact (L180.out.al (by omega) (.cells #[.bool c1, .slice xa5 S5.length xc5, .slice ya5 D5.length yc5] 24))
  have L203 : Hid (MidC (u83.heap.size) (v6.heap.size) u196 (ya2) (D2) (yc2)) := by rw [hu196]; exact (L181.out.al (by omega) (.cells #[.bool c1, .slice xa5 S5.length xc5, .slice ya5 D5.length yc5] 24))
  have L204 : Hid (MidC (u109.heap.size) (v7.heap.size) u196 (xa3) (sz1) (xc3)) := by rw [hu196]; exact (L182.out.al (by omega) (.cells #[.bool c1, .slice xa5 S5.length xc5, .slice ya5 D5.length yc5] 24))
  have L205 : Hid (MidC (u109.heap.size) (v7.heap.size) u196 (ya3) (D3) (yc3)) := by rw [hu196]; exact (L183.out.al (by omega) (.cells #[.bool c1, .slice xa5 S5.length xc5, .slice ya5 D5.length yc5] 24))
  have L206 : Hid (MidC (u160.heap.size) (v9.heap.size) u196 (xa5) (S5) (xc5)) := by rw [hu196]; exact (L187.out.al (by omega) (.cells #[.bool c1, .slice xa5 S5.length xc5, .slice ya5 D5.length yc5] 24))
  have L207 : Hid (MidC (u160.heap.size) (v9.heap.size) u196 (ya5) (D5) (yc5)) := by rw [hu196]; exact (L188.out.al (by omega) (.cells #[.bool c1, .slice xa5 S5.length xc5, .slice ya5 D5.length yc5] 24))
  have hb208 : Hid (Below w.heap.size w u196) := by rw [hu196]; exact (hb186.out.alloc (by omega) (.cells #[.bool c1, .slice xa5 S5.length xc5, .slice ya5 D5.length yc5] 24))
  have zu196 : w.heap.size ≤ u196.heap.size := hb208.out.size
  clear hu196 n189 l190 l191 l192 l193 l194 l195 hb186 B175 B177 B178 L180 L181 L182 L183 L187 L188
  refine (alike_eq c1 xa2 xc2 S1 ya2 yc2 D2 xa5 xc5 S5 ya5 yc5 D5 HM.out.2.2.2.2.1 HM.out.2.2.2.2.2 (by have := L2.out.1; omega) (by have := L2.out.2.1; omega) _ (L202.out.is (by omega)) (L203.out.is (by omega)).1 (L206.out.is (by omega)) (L207.out.is (by omega)).1).mono ?_
  rintro e v10 ⟨rfl, hB⟩
  have z209 : u196.heap.size ≤ v10.heap.size := hB.size
  have B210 : Hid (Abx v10 (w.heap.size) (.bool c1) (.slice (some ⟨bs, os, none⟩) sz1.length sc1) (.slice da1 dz1.length dc1)) := B198.out.go hB
  have B211 : Hid (Abx v10 (v5.heap.size) (.bool c1) (.slice xa2 S1.length xc2) (.slice ya2 D2.length yc2)) := B199.out.go hB
  have B212 : Hid (Abx v10 (v7.heap.size) (.bool c1) (.slice xa3 sz1.length xc3) (.slice ya3 D3.length yc3)) := B200.out.go hB
  have B213 : Hid (Abx v10 (v9.heap.size) (.bool c1) (.slice xa5 S5.length xc5) (.slice ya5 D5.length yc5)) := B201.out.go hB
  have L214 : Hid (MidC (u83.heap.size) (v6.heap.size) v10 (xa2) (S1) (xc2)) := L202.out.go (by omega) hB
  have L215 : Hid (MidC (u83.heap.size) (v6.heap.size) v10 (ya2) (D2) (yc2)) := L203.out.go (by omega) hB
  have L216 : Hid (MidC (u109.heap.size) (v7.heap.size) v10 (xa3) (sz1) (xc3)) := L204.out.go (by omega) hB
  have L217 : Hid (MidC (u109.heap.size) (v7.heap.size) v10 (ya3) (D3) (yc3)) := L205.out.go (by omega) hB
  have L218 : Hid (MidC (u160.heap.size) (v9.heap.size) v10 (xa5) (S5) (xc5)) := L206.out.go (by omega) hB
  have L219 : Hid (MidC (u160.heap.size) (v9.heap.size) v10 (ya5) (D5) (yc5)) := L207.out.go (by omega) hB
  have hb220 : Hid (Below w.heap.size w v10) := hb208.out.trans (hB.mono hb208.out.size)
  clear hB hb208 B198 B199 B200 B201 L202 L203 L204 L205 L206 L207
  clear L214 L215 L218 L219 B211 B213
  have l221 := (B210.out).c0
  have l222 := (B210.out).c1
  have l223 := (B210.out).c2
  have l224 := HC.out _ hb220.out
  go_wp2_with fail
  clear l221 l222 l223 l224
  go_ret
  exact ⟨rfl, hb220.out⟩
set_option maxRecDepth 100000 in
set_option maxHeartbeats 8000000 in
theorem mirrors_hi (HT : CTk) (HJ : CJn) (HR : CRvB) (xn : Nat) (c1 : Bool) (bs os : Nat) (sc1 : Nat) (sz1 : List Int) (da1 : Option Addr) (dc1 : Nat) (dz1 : List Int) (sa2 : Option Addr) (sc2 : Nat) (sz2 : List Int) (da2 : Option Addr) (dc2 : Nat) (dz2 : List Int) (n : Int) (hn : In64 n) (w : World) (w9_1 : IsArrD w (some ⟨bs, os, none⟩) sz1 sc1 da1 dz1 dc1) (w9_2 : IsArrD w sa2 sz2 sc2 da2 dz2 dc2) (E1 : Hid (jnE (xn : Int) c1 sz1 dz1 c1 sz2 dz2 = 0)) (B0 : 0 ≤ n) (B1 : nth sz1 xn < n) :
    Calls Try.prog 6 #[.int .i64 (xn : Int), .agg #[.bool c1, .slice (some ⟨bs, os, none⟩) sz1.length sc1, .slice da1 dz1.length dc1], .agg #[.bool c1, .slice sa2 sz2.length sc2, .slice da2 dz2.length dc2], .int .i64 n] w fun e w' => e = .returned (.bool true) ∧ Below w.heap.size w w' := by
  obtain ⟨x1_1, x2_1, x3, x4, s64, T⟩ := w9_1
  have HI1 : Hid (IsC w.heap.size w (some ⟨bs, os, none⟩) sz1 sc1 ∧ IsC w.heap.size w da1 dz1 dc1 ∧ ∀ j, In64 (nth dz1 j)) := ⟨x3, x4, T⟩
  clear x3 x4 T s64
  obtain ⟨x1_2, x2_2, x3, x4, s64, T⟩ := w9_2
  have HI2 : Hid (IsC w.heap.size w sa2 sz2 sc2 ∧ IsC w.heap.size w da2 dz2 dc2 ∧ ∀ j, In64 (nth dz2 j)) := ⟨x3, x4, T⟩
  clear x3 x4 T s64
  obtain ⟨hn0, hn1⟩ := hn
  have F1 : Hid (flawE c1 sz1 dz1 = 0 ∧ xn < sz1.length) := ⟨(jnZ.1 E1.out).1, (jnZ.1 E1.out).2.2.2.1⟩
  have hxl := F1.out.2
  have hl6 : sz1.length ≤ 6 := (flawE_short F1.out.1).1
  have hd1 : dz1.length ≤ 4096 := (flawE_short F1.out.1).2
  have t2 : ¬ ((sz1.length : Int) ≤ (xn : Int)) := by omega
  have HK : Hid (AllIn sz1) := (errOf_zero.1 (flawE_zero F1.out.1).1).2.1
  have hz := HK.out.nth xn
  obtain ⟨b9, o9, e9, hbs, hcS⟩ := HI1.out.1.1.at hxl
  cases e9
  have HC : Hid (∀ W, Below w.heap.size w W → W.cell? ⟨bs, os + xn, none⟩ = some (.int .i64 (nth sz1 xn))) := fun W hB => (hB.cell (p := ⟨bs, os + xn, none⟩) hbs).trans (hcS xn hxl)
  clear hcS
  obtain ⟨S1, hS1⟩ : ∃ S, S = jnS xn sz1 sz2 := ⟨_, rfl⟩
  have HS1 : Hid (jnS xn sz1 sz2 = S1) := hS1.symm
  clear hS1
  obtain ⟨D1, hD1⟩ : ∃ D, D = jnD xn sz1 dz1 sz2 dz2 := ⟨_, rfl⟩
  have HD1 : Hid (jnD xn sz1 dz1 sz2 dz2 = D1) := hD1.symm
  clear hD1
  obtain ⟨D2, hD2⟩ : ∃ D, D = rvG (xn : Int) S1 D1 := ⟨_, rfl⟩
  have HD2 : Hid (rvG (xn : Int) S1 D1 = D2) := hD2.symm
  clear hD2
  obtain ⟨D3, hD3⟩ : ∃ D, D = rvG (xn : Int) sz1 dz1 := ⟨_, rfl⟩
  have HD3 : Hid (rvG (xn : Int) sz1 dz1 = D3) := hD3.symm
  clear hD3
  obtain ⟨D4, hD4⟩ : ∃ D, D = rvG (xn : Int) sz2 dz2 := ⟨_, rfl⟩
  have HD4 : Hid (rvG (xn : Int) sz2 dz2 = D4) := hD4.symm
  clear hD4
  obtain ⟨S5, hS5⟩ : ∃ S, S = jnS xn sz2 sz1 := ⟨_, rfl⟩
  have HS5 : Hid (jnS xn sz2 sz1 = S5) := hS5.symm
  clear hS5
  obtain ⟨D5, hD5⟩ : ∃ D, D = jnD xn sz2 D4 sz1 D3 := ⟨_, rfl⟩
  have HD5 : Hid (jnD xn sz2 D4 sz1 D3 = D5) := hD5.symm
  clear hD5
  have MM := jn_mirror E1.out
  rw [HS1.out, HD1.out, HD3.out, HD4.out, HD2.out, HS5.out, HD5.out] at MM
  have HM : Hid (axE (xn : Int) c1 S1 D1 = 0 ∧ axE (xn : Int) c1 sz1 dz1 = 0 ∧ axE (xn : Int) c1 sz2 dz2 = 0 ∧ jnE (xn : Int) c1 sz2 D4 c1 sz1 D3 = 0 ∧ S5 = S1 ∧ D5 = D2) := MM
  clear MM
  have L1 : Hid (S1.length ≤ 6 ∧ D1.length ≤ 4096 ∧ ∀ j, In64 (nth D1 j)) := by rw [← HS1.out, ← HD1.out]; exact jn_facts E1.out HI1.out.2.2 HI2.out.2.2
  have L2 : Hid (S1.length ≤ 6 ∧ D2.length ≤ 4096 ∧ ∀ j, In64 (nth D2 j)) := by rw [← HD2.out]; exact rv_facts HM.out.1 L1.out.2.2
  have L3 : Hid (sz1.length ≤ 6 ∧ D3.length ≤ 4096 ∧ ∀ j, In64 (nth D3 j)) := by rw [← HD3.out]; exact rv_facts HM.out.2.1 HI1.out.2.2
  have L4 : Hid (sz2.length ≤ 6 ∧ D4.length ≤ 4096 ∧ ∀ j, In64 (nth D4 j)) := by rw [← HD4.out]; exact rv_facts HM.out.2.2.1 HI2.out.2.2
  have n1 := Abx.new w (.bool c1) (.slice (some ⟨bs, os, none⟩) sz1.length sc1) (.slice da1 dz1.length dc1)
  have n2 := Abx.new (w.alloc (.cells #[.bool c1, .slice (some ⟨bs, os, none⟩) sz1.length sc1, .slice da1 dz1.length dc1] 24)) (.bool c1) (.slice sa2 sz2.length sc2) (.slice da2 dz2.length dc2)
  simp only [World.size_alloc] at n2
  have n3 := lit_mid ((w.alloc (.cells #[.bool c1, .slice (some ⟨bs, os, none⟩) sz1.length sc1, .slice da1 dz1.length dc1] 24)).alloc (.cells #[.bool c1, .slice sa2 sz2.length sc2, .slice da2 dz2.length dc2] 24)) 3 [1] 1 rfl
  simp only [World.size_alloc, List.map_cons, List.map_nil] at n3
  go_enter Try.func6, Try.ntmps6
  go_wp2_with fail
  obtain ⟨u4, hu4⟩ : ∃ u4, u4 = (((w.alloc (.cells #[.bool c1, .slice (some ⟨bs, os, none⟩) sz1.length sc1, .slice da1 dz1.length dc1] 24)).alloc (.cells #[.bool c1, .slice sa2 sz2.length sc2, .slice da2 dz2.length dc2] 24)).alloc (.cells #[.int .i64 1] 3)) := ⟨_, rfl⟩
  rw [← hu4]
  have z5 : w.heap.size + 1 + 1 + 1 ≤ u4.heap.size := by rw [hu4]; simp only [World.size_alloc]; omega
  have B6 : Hid (Abx u4 (w.heap.size) (.bool c1) (.slice (some ⟨bs, os, none⟩) sz1.length sc1) (.slice da1 dz1.length dc1)) := by rw [hu4]; exact ((n1.al (.cells #[.bool c1, .slice sa2 sz2.length sc2, .slice da2 dz2.length dc2] 24)).al (.cells #[.int .i64 1] 3))
  have B7 : Hid (Abx u4 (w.heap.size + 1) (.bool c1) (.slice sa2 sz2.length sc2) (.slice da2 dz2.length dc2)) := by rw [hu4]; exact (n2.al (.cells #[.int .i64 1] 3))
  have L8 : Hid (MidC (w.heap.size + 1 + 1) (w.heap.size + 1 + 1 + 1) u4 (some ⟨w.heap.size + 1 + 1, 0, none⟩) ([1]) (1)) := by rw [hu4]; exact n3
  have hb9 : Hid (Below w.heap.size w u4) := by rw [hu4]; exact ((((Below.refl w.heap.size w).alloc (by omega) (.cells #[.bool c1, .slice (some ⟨bs, os, none⟩) sz1.length sc1, .slice da1 dz1.length dc1] 24)).alloc (by simp only [World.size_alloc]; omega) (.cells #[.bool c1, .slice sa2 sz2.length sc2, .slice da2 dz2.length dc2] 24)).alloc (by simp only [World.size_alloc]; omega) (.cells #[.int .i64 1] 3))
  have zu4 : w.heap.size ≤ u4.heap.size := hb9.out.size
  clear hu4 n1 n2 n3
  refine (vec_c (some ⟨w.heap.size + 1 + 1, 0, none⟩) 1 [1] (by simp) _ (L8.out.is (by omega)).1).mono ?_
  rintro e v1 ⟨va1, vc1, ga1, gc1, rfl, hV, hG, hB⟩
  have z10 : u4.heap.size ≤ v1.heap.size := hB.size
  have B11 : Hid (Abx v1 (w.heap.size) (.bool c1) (.slice (some ⟨bs, os, none⟩) sz1.length sc1) (.slice da1 dz1.length dc1)) := B6.out.go hB
  have B12 : Hid (Abx v1 (w.heap.size + 1) (.bool c1) (.slice sa2 sz2.length sc2) (.slice da2 dz2.length dc2)) := B7.out.go hB
  have L13 : Hid (MidC (w.heap.size + 1 + 1) (w.heap.size + 1 + 1 + 1) v1 (some ⟨w.heap.size + 1 + 1, 0, none⟩) ([1]) (1)) := L8.out.go (by omega) hB
  have hb14 : Hid (Below w.heap.size w v1) := hb9.out.trans (hB.mono hb9.out.size)
  have L15 : Hid (MidC (u4.heap.size) (v1.heap.size) v1 (va1) ([(1 : Int)]) (vc1)) := hV.midc
  have L16 : Hid (MidC (u4.heap.size) (v1.heap.size) v1 (ga1) ([1]) (gc1)) := hG.midc
  clear hB hb9 B6 B7 L8 hV hG
  clear L13
  have n17 := lit_mid v1 3 [2, 3] 2 rfl
  simp only [List.map_cons, List.map_nil] at n17
  go_wp2_with fail
  obtain ⟨u18, hu18⟩ : ∃ u18, u18 = (v1.alloc (.cells #[.int .i64 2, .int .i64 3] 3)) := ⟨_, rfl⟩
  rw [← hu18]
  have z19 : v1.heap.size + 1 ≤ u18.heap.size := by rw [hu18]; simp only [World.size_alloc]; omega
  have B20 : Hid (Abx u18 (w.heap.size) (.bool c1) (.slice (some ⟨bs, os, none⟩) sz1.length sc1) (.slice da1 dz1.length dc1)) := by rw [hu18]; exact (B11.out.al (.cells #[.int .i64 2, .int .i64 3] 3))
  have B21 : Hid (Abx u18 (w.heap.size + 1) (.bool c1) (.slice sa2 sz2.length sc2) (.slice da2 dz2.length dc2)) := by rw [hu18]; exact (B12.out.al (.cells #[.int .i64 2, .int .i64 3] 3))
  have L22 : Hid (MidC (u4.heap.size) (v1.heap.size) u18 (va1) ([(1 : Int)]) (vc1)) := by rw [hu18]; exact (L15.out.al (by omega) (.cells #[.int .i64 2, .int .i64 3] 3))
  have L23 : Hid (MidC (u4.heap.size) (v1.heap.size) u18 (ga1) ([1]) (gc1)) := by rw [hu18]; exact (L16.out.al (by omega) (.cells #[.int .i64 2, .int .i64 3] 3))
  have L24 : Hid (MidC (v1.heap.size) (v1.heap.size + 1) u18 (some ⟨v1.heap.size, 0, none⟩) ([2, 3]) (2)) := by rw [hu18]; exact n17
  have hb25 : Hid (Below w.heap.size w u18) := by rw [hu18]; exact (hb14.out.alloc (by omega) (.cells #[.int .i64 2, .int .i64 3] 3))
  have zu18 : w.heap.size ≤ u18.heap.size := hb25.out.size
  clear hu18 n17 hb14 B11 B12 L15 L16
  refine (vec_c (some ⟨v1.heap.size, 0, none⟩) 2 [2, 3] (by simp) _ (L24.out.is (by omega)).1).mono ?_
  rintro e v2 ⟨va2, vc2, ga2, gc2, rfl, hV, hG, hB⟩
  have z26 : u18.heap.size ≤ v2.heap.size := hB.size
  have B27 : Hid (Abx v2 (w.heap.size) (.bool c1) (.slice (some ⟨bs, os, none⟩) sz1.length sc1) (.slice da1 dz1.length dc1)) := B20.out.go hB
  have B28 : Hid (Abx v2 (w.heap.size + 1) (.bool c1) (.slice sa2 sz2.length sc2) (.slice da2 dz2.length dc2)) := B21.out.go hB
  have L29 : Hid (MidC (u4.heap.size) (v1.heap.size) v2 (va1) ([(1 : Int)]) (vc1)) := L22.out.go (by omega) hB
  have L30 : Hid (MidC (u4.heap.size) (v1.heap.size) v2 (ga1) ([1]) (gc1)) := L23.out.go (by omega) hB
  have L31 : Hid (MidC (v1.heap.size) (v1.heap.size + 1) v2 (some ⟨v1.heap.size, 0, none⟩) ([2, 3]) (2)) := L24.out.go (by omega) hB
  have hb32 : Hid (Below w.heap.size w v2) := hb25.out.trans (hB.mono hb25.out.size)
  have L33 : Hid (MidC (u18.heap.size) (v2.heap.size) v2 (va2) ([(2 : Int)]) (vc2)) := hV.midc
  have L34 : Hid (MidC (u18.heap.size) (v2.heap.size) v2 (ga2) ([2, 3]) (gc2)) := hG.midc
  clear hB hb25 B20 B21 L22 L23 L24 hV hG
  clear L31
  go_wp2_with fail
  refine (jn_ok 0 (by unfold In64; decide) false va1 vc1 [1] ga1 gc1 [1] false va2 vc2 [2] ga2 gc2 [2, 3] _ (by simp) (by simp) (L29.out.is (by omega)) (L30.out.is (by omega)) (lit_all (by decide)) (by simp) (by simp) (L33.out.is (by omega)) (L34.out.is (by omega)) (lit_all (by decide)) [3] [1, 2, 3] HJ (by decide)).mono ?_
  rintro e v3 ⟨f1, g1, f2, g2, rfl, hX0, hY0, hB⟩
  have z35 : v2.heap.size ≤ v3.heap.size := hB.size
  have B36 : Hid (Abx v3 (w.heap.size) (.bool c1) (.slice (some ⟨bs, os, none⟩) sz1.length sc1) (.slice da1 dz1.length dc1)) := B27.out.go hB
  have B37 : Hid (Abx v3 (w.heap.size + 1) (.bool c1) (.slice sa2 sz2.length sc2) (.slice da2 dz2.length dc2)) := B28.out.go hB
  have L38 : Hid (MidC (u4.heap.size) (v1.heap.size) v3 (va1) ([(1 : Int)]) (vc1)) := L29.out.go (by omega) hB
  have L39 : Hid (MidC (u4.heap.size) (v1.heap.size) v3 (ga1) ([1]) (gc1)) := L30.out.go (by omega) hB
  have L40 : Hid (MidC (u18.heap.size) (v2.heap.size) v3 (va2) ([(2 : Int)]) (vc2)) := L33.out.go (by omega) hB
  have L41 : Hid (MidC (u18.heap.size) (v2.heap.size) v3 (ga2) ([2, 3]) (gc2)) := L34.out.go (by omega) hB
  have hb42 : Hid (Below w.heap.size w v3) := hb32.out.trans (hB.mono hb32.out.size)
  have L43 : Hid (MidC (v2.heap.size) (v3.heap.size) v3 (f1) ([3]) (g1)) := hX0.midc
  have L44 : Hid (MidC (v2.heap.size) (v3.heap.size) v3 (f2) ([1, 2, 3]) (g2)) := hY0.midc
  clear hB hb32 B27 B28 L29 L30 L33 L34 hX0 hY0
  clear L38 L39 L40 L41
  have n45 := Abx.new v3 (.bool false) (.slice f1 1 g1) (.slice f2 3 g2)
  have l46 := (n45).c0
  have l47 := (n45).c1
  have l48 := (n45).c2
  have n49 := lit_mid (v3.alloc (.cells #[.bool false, .slice f1 1 g1, .slice f2 3 g2] 24)) 3 [1, 2, 3] 3 rfl
  simp only [World.size_alloc, List.map_cons, List.map_nil] at n49
  go_wp2_with fail
  obtain ⟨u50, hu50⟩ : ∃ u50, u50 = ((v3.alloc (.cells #[.bool false, .slice f1 1 g1, .slice f2 3 g2] 24)).alloc (.cells #[.int .i64 1, .int .i64 2, .int .i64 3] 3)) := ⟨_, rfl⟩
  rw [← hu50]
  have z51 : v3.heap.size + 1 + 1 ≤ u50.heap.size := by rw [hu50]; simp only [World.size_alloc]; omega
  have B52 : Hid (Abx u50 (w.heap.size) (.bool c1) (.slice (some ⟨bs, os, none⟩) sz1.length sc1) (.slice da1 dz1.length dc1)) := by rw [hu50]; exact ((B36.out.al (.cells #[.bool false, .slice f1 1 g1, .slice f2 3 g2] 24)).al (.cells #[.int .i64 1, .int .i64 2, .int .i64 3] 3))
  have B53 : Hid (Abx u50 (w.heap.size + 1) (.bool c1) (.slice sa2 sz2.length sc2) (.slice da2 dz2.length dc2)) := by rw [hu50]; exact ((B37.out.al (.cells #[.bool false, .slice f1 1 g1, .slice f2 3 g2] 24)).al (.cells #[.int .i64 1, .int .i64 2, .int .i64 3] 3))
  have B54 : Hid (Abx u50 (v3.heap.size) (.bool false) (.slice f1 1 g1) (.slice f2 3 g2)) := by rw [hu50]; exact (n45.al (.cells #[.int .i64 1, .int .i64 2, .int .i64 3] 3))
  have L55 : Hid (MidC (v2.heap.size) (v3.heap.size) u50 (f1) ([3]) (g1)) := by rw [hu50]; exact ((L43.out.al (by omega) (.cells #[.bool false, .slice f1 1 g1, .slice f2 3 g2] 24)).al (by simp only [World.size_alloc]; omega) (.cells #[.int .i64 1, .int .i64 2, .int .i64 3] 3))
  have L56 : Hid (MidC (v2.heap.size) (v3.heap.size) u50 (f2) ([1, 2, 3]) (g2)) := by rw [hu50]; exact ((L44.out.al (by omega) (.cells #[.bool false, .slice f1 1 g1, .slice f2 3 g2] 24)).al (by simp only [World.size_alloc]; omega) (.cells #[.int .i64 1, .int .i64 2, .int .i64 3] 3))
  have L57 : Hid (MidC (v3.heap.size + 1) (v3.heap.size + 1 + 1) u50 (some ⟨v3.heap.size + 1, 0, none⟩) ([1, 2, 3]) (3)) := by rw [hu50]; exact n49
  have hb58 : Hid (Below w.heap.size w u50) := by rw [hu50]; exact ((hb42.out.alloc (by omega) (.cells #[.bool false, .slice f1 1 g1, .slice f2 3 g2] 24)).alloc (by simp only [World.size_alloc]; omega) (.cells #[.int .i64 1, .int .i64 2, .int .i64 3] 3))
  have zu50 : w.heap.size ≤ u50.heap.size := hb58.out.size
  clear hu50 n45 l46 l47 l48 n49 hb42 B36 B37 L43 L44
  refine (ints_any f2 g2 [1, 2, 3] (some ⟨v3.heap.size + 1, 0, none⟩) 3 [1, 2, 3] (by simp) _ _ (L56.out.is (by omega)).1 (L57.out.is (by omega)).1).mono ?_
  rintro e v4 ⟨rfl, hB⟩
  have z59 : u50.heap.size ≤ v4.heap.size := hB.size
  have B60 : Hid (Abx v4 (w.heap.size) (.bool c1) (.slice (some ⟨bs, os, none⟩) sz1.length sc1) (.slice da1 dz1.length dc1)) := B52.out.go hB
  have B61 : Hid (Abx v4 (w.heap.size + 1) (.bool c1) (.slice sa2 sz2.length sc2) (.slice da2 dz2.length dc2)) := B53.out.go hB
  have B62 : Hid (Abx v4 (v3.heap.size) (.bool false) (.slice f1 1 g1) (.slice f2 3 g2)) := B54.out.go hB
  have L63 : Hid (MidC (v2.heap.size) (v3.heap.size) v4 (f1) ([3]) (g1)) := L55.out.go (by omega) hB
  have L64 : Hid (MidC (v2.heap.size) (v3.heap.size) v4 (f2) ([1, 2, 3]) (g2)) := L56.out.go (by omega) hB
  have L65 : Hid (MidC (v3.heap.size + 1) (v3.heap.size + 1 + 1) v4 (some ⟨v3.heap.size + 1, 0, none⟩) ([1, 2, 3]) (3)) := L57.out.go (by omega) hB
  have hb66 : Hid (Below w.heap.size w v4) := hb58.out.trans (hB.mono hb58.out.size)
  clear hB hb58 B52 B53 B54 L55 L56 L57
  rw [eqB_true rfl]
  clear L63 L64 L65 B62
  have l67 := (B60.out).c0
  have l68 := (B60.out).c1
  have l69 := (B60.out).c2
  have l70 := (B61.out).c0
  have l71 := (B61.out).c1
  have l72 := (B61.out).c2
  go_wp2_with fail
  clear l67 l68 l69 l70 l71 l72
  refine (jn_ok (xn : Int) (by unfold In64; omega) c1 (some ⟨bs, os, none⟩) sc1 sz1 da1 dc1 dz1 c1 sa2 sc2 sz2 da2 dc2 dz2 _ x1_1 x2_1 ((HI1.out.1.below hb66.out).mono hb66.out.size) ((HI1.out.2.1.below hb66.out).mono hb66.out.size) HI1.out.2.2 x1_2 x2_2 ((HI2.out.1.below hb66.out).mono hb66.out.size) ((HI2.out.2.1.below hb66.out).mono hb66.out.size) HI2.out.2.2 S1 D1 HJ ⟨E1.out, HS1.out, HD1.out⟩).mono ?_
  rintro e v5 ⟨xa1, xc1, ya1, yc1, rfl, hX1, hY1, hB⟩
  have z73 : v4.heap.size ≤ v5.heap.size := hB.size
  have B74 : Hid (Abx v5 (w.heap.size) (.bool c1) (.slice (some ⟨bs, os, none⟩) sz1.length sc1) (.slice da1 dz1.length dc1)) := B60.out.go hB
  have B75 : Hid (Abx v5 (w.heap.size + 1) (.bool c1) (.slice sa2 sz2.length sc2) (.slice da2 dz2.length dc2)) := B61.out.go hB
  have hb76 : Hid (Below w.heap.size w v5) := hb66.out.trans (hB.mono hb66.out.size)
  have L77 : Hid (MidC (v4.heap.size) (v5.heap.size) v5 (xa1) (S1) (xc1)) := hX1.midc
  have L78 : Hid (MidC (v4.heap.size) (v5.heap.size) v5 (ya1) (D1) (yc1)) := hY1.midc
  clear hB hb66 B60 B61 hX1 hY1
  have n79 := Abx.new v5 (.bool c1) (.slice xa1 S1.length xc1) (.slice ya1 D1.length yc1)
  have l80 := (n79).c0
  have l81 := (n79).c1
  have l82 := (n79).c2
  go_wp2_with fail
  obtain ⟨u83, hu83⟩ : ∃ u83, u83 = (v5.alloc (.cells #[.bool c1, .slice xa1 S1.length xc1, .slice ya1 D1.length yc1] 24)) := ⟨_, rfl⟩
  rw [← hu83]
  have z84 : v5.heap.size + 1 ≤ u83.heap.size := by rw [hu83]; simp only [World.size_alloc]; omega
  have B85 : Hid (Abx u83 (w.heap.size) (.bool c1) (.slice (some ⟨bs, os, none⟩) sz1.length sc1) (.slice da1 dz1.length dc1)) := by rw [hu83]; exact (B74.out.al (.cells #[.bool c1, .slice xa1 S1.length xc1, .slice ya1 D1.length yc1] 24))
  have B86 : Hid (Abx u83 (w.heap.size + 1) (.bool c1) (.slice sa2 sz2.length sc2) (.slice da2 dz2.length dc2)) := by rw [hu83]; exact (B75.out.al (.cells #[.bool c1, .slice xa1 S1.length xc1, .slice ya1 D1.length yc1] 24))
  have B87 : Hid (Abx u83 (v5.heap.size) (.bool c1) (.slice xa1 S1.length xc1) (.slice ya1 D1.length yc1)) := by rw [hu83]; exact n79
  have L88 : Hid (MidC (v4.heap.size) (v5.heap.size) u83 (xa1) (S1) (xc1)) := by rw [hu83]; exact (L77.out.al (by omega) (.cells #[.bool c1, .slice xa1 S1.length xc1, .slice ya1 D1.length yc1] 24))
  have L89 : Hid (MidC (v4.heap.size) (v5.heap.size) u83 (ya1) (D1) (yc1)) := by rw [hu83]; exact (L78.out.al (by omega) (.cells #[.bool c1, .slice xa1 S1.length xc1, .slice ya1 D1.length yc1] 24))
  have hb90 : Hid (Below w.heap.size w u83) := by rw [hu83]; exact (hb76.out.alloc (by omega) (.cells #[.bool c1, .slice xa1 S1.length xc1, .slice ya1 D1.length yc1] 24))
  have zu83 : w.heap.size ≤ u83.heap.size := hb90.out.size
  clear hu83 n79 l80 l81 l82 hb76 B74 B75 L77 L78
  refine (rvb_ok c1 xa1 xc1 S1 ya1 yc1 D1 _ (by have := L1.out.1; omega) (by have := L1.out.2.1; omega) (L88.out.is (by omega)) (L89.out.is (by omega)) L1.out.2.2 D2 HR (xn : Int) (by unfold In64; omega) ⟨HM.out.1, HD2.out⟩).mono ?_
  rintro e v6 ⟨xa2, xc2, ya2, yc2, rfl, hX2, hY2, hB⟩
  have z91 : u83.heap.size ≤ v6.heap.size := hB.size
  have B92 : Hid (Abx v6 (w.heap.size) (.bool c1) (.slice (some ⟨bs, os, none⟩) sz1.length sc1) (.slice da1 dz1.length dc1)) := B85.out.go hB
  have B93 : Hid (Abx v6 (w.heap.size + 1) (.bool c1) (.slice sa2 sz2.length sc2) (.slice da2 dz2.length dc2)) := B86.out.go hB
  have B94 : Hid (Abx v6 (v5.heap.size) (.bool c1) (.slice xa1 S1.length xc1) (.slice ya1 D1.length yc1)) := B87.out.go hB
  have L95 : Hid (MidC (v4.heap.size) (v5.heap.size) v6 (xa1) (S1) (xc1)) := L88.out.go (by omega) hB
  have L96 : Hid (MidC (v4.heap.size) (v5.heap.size) v6 (ya1) (D1) (yc1)) := L89.out.go (by omega) hB
  have hb97 : Hid (Below w.heap.size w v6) := hb90.out.trans (hB.mono hb90.out.size)
  have L98 : Hid (MidC (u83.heap.size) (v6.heap.size) v6 (xa2) (S1) (xc2)) := hX2.midc
  have L99 : Hid (MidC (u83.heap.size) (v6.heap.size) v6 (ya2) (D2) (yc2)) := hY2.midc
  clear hB hb90 B85 B86 B87 L88 L89 hX2 hY2
  clear L95 L96
  have l100 := (B94.out).fr 0
  have l101 := (B94.out).c0
  have l102 := (B94.out).fr 1
  have l103 := (B94.out).c1
  have l104 := (B94.out).fr 2
  have l105 := (B94.out).c2
  have l106 := ((abx_o3 B92.out (B := v5.heap.size) (by omega) (.bool c1) (.slice xa2 S1.length xc2) (.slice ya2 D2.length yc2))).c0
  have l107 := ((abx_o3 B92.out (B := v5.heap.size) (by omega) (.bool c1) (.slice xa2 S1.length xc2) (.slice ya2 D2.length yc2))).c1
  have l108 := ((abx_o3 B92.out (B := v5.heap.size) (by omega) (.bool c1) (.slice xa2 S1.length xc2) (.slice ya2 D2.length yc2))).c2
  go_wp2_with fail
  obtain ⟨u109, hu109⟩ : ∃ u109, u109 = (((v6.setCell ⟨v5.heap.size, 0, none⟩ (.bool c1)).setCell ⟨v5.heap.size, 1, none⟩ (.slice xa2 S1.length xc2)).setCell ⟨v5.heap.size, 2, none⟩ (.slice ya2 D2.length yc2)) := ⟨_, rfl⟩
  rw [← hu109]
  have z110 : v6.heap.size ≤ u109.heap.size := by rw [hu109]; simp only [World.size_setCell]; omega
  have B111 : Hid (Abx u109 (w.heap.size) (.bool c1) (.slice (some ⟨bs, os, none⟩) sz1.length sc1) (.slice da1 dz1.length dc1)) := by rw [hu109]; exact (abx_o3 B92.out (B := v5.heap.size) (by omega) (.bool c1) (.slice xa2 S1.length xc2) (.slice ya2 D2.length yc2))
  have B112 : Hid (Abx u109 (w.heap.size + 1) (.bool c1) (.slice sa2 sz2.length sc2) (.slice da2 dz2.length dc2)) := by rw [hu109]; exact (abx_o3 B93.out (B := v5.heap.size) (by omega) (.bool c1) (.slice xa2 S1.length xc2) (.slice ya2 D2.length yc2))
  have B113 : Hid (Abx u109 (v5.heap.size) (.bool c1) (.slice xa2 S1.length xc2) (.slice ya2 D2.length yc2)) := by rw [hu109]; exact (B94.out.set3 (.bool c1) (.slice xa2 S1.length xc2) (.slice ya2 D2.length yc2))
  have L114 : Hid (MidC (u83.heap.size) (v6.heap.size) u109 (xa2) (S1) (xc2)) := by rw [hu109]; exact (L98.out.s3 (b := v5.heap.size) (by omega) (.bool c1) (.slice xa2 S1.length xc2) (.slice ya2 D2.length yc2))
  have L115 : Hid (MidC (u83.heap.size) (v6.heap.size) u109 (ya2) (D2) (yc2)) := by rw [hu109]; exact (L99.out.s3 (b := v5.heap.size) (by omega) (.bool c1) (.slice xa2 S1.length xc2) (.slice ya2 D2.length yc2))
  have hb116 : Hid (Below w.heap.size w u109) := by rw [hu109]; exact (bel_s3 hb97.out (B := v5.heap.size) (by omega) (.bool c1) (.slice xa2 S1.length xc2) (.slice ya2 D2.length yc2))
  have zu109 : w.heap.size ≤ u109.heap.size := hb116.out.size
  clear hu109 l100 l101 l102 l103 l104 l105 l106 l107 l108 hb97 B92 B93 B94 L98 L99
  refine (rvb_ok c1 (some ⟨bs, os, none⟩) sc1 sz1 da1 dc1 dz1 _ x1_1 x2_1 ((HI1.out.1.below hb116.out).mono hb116.out.size) ((HI1.out.2.1.below hb116.out).mono hb116.out.size) HI1.out.2.2 D3 HR (xn : Int) (by unfold In64; omega) ⟨HM.out.2.1, HD3.out⟩).mono ?_
  rintro e v7 ⟨xa3, xc3, ya3, yc3, rfl, hX3, hY3, hB⟩
  have z117 : u109.heap.size ≤ v7.heap.size := hB.size
  have B118 : Hid (Abx v7 (w.heap.size) (.bool c1) (.slice (some ⟨bs, os, none⟩) sz1.length sc1) (.slice da1 dz1.length dc1)) := B111.out.go hB
  have B119 : Hid (Abx v7 (w.heap.size + 1) (.bool c1) (.slice sa2 sz2.length sc2) (.slice da2 dz2.length dc2)) := B112.out.go hB
  have B120 : Hid (Abx v7 (v5.heap.size) (.bool c1) (.slice xa2 S1.length xc2) (.slice ya2 D2.length yc2)) := B113.out.go hB
  have L121 : Hid (MidC (u83.heap.size) (v6.heap.size) v7 (xa2) (S1) (xc2)) := L114.out.go (by omega) hB
  have L122 : Hid (MidC (u83.heap.size) (v6.heap.size) v7 (ya2) (D2) (yc2)) := L115.out.go (by omega) hB
  have hb123 : Hid (Below w.heap.size w v7) := hb116.out.trans (hB.mono hb116.out.size)
  have L124 : Hid (MidC (u109.heap.size) (v7.heap.size) v7 (xa3) (sz1) (xc3)) := hX3.midc
  have L125 : Hid (MidC (u109.heap.size) (v7.heap.size) v7 (ya3) (D3) (yc3)) := hY3.midc
  clear hB hb116 B111 B112 B113 L114 L115 hX3 hY3
  have n126 := Abx.new v7 (.bool c1) (.slice xa3 sz1.length xc3) (.slice ya3 D3.length yc3)
  have l127 := ((B119.out.al (.cells #[.bool c1, .slice xa3 sz1.length xc3, .slice ya3 D3.length yc3] 24))).c0
  have l128 := ((B119.out.al (.cells #[.bool c1, .slice xa3 sz1.length xc3, .slice ya3 D3.length yc3] 24))).c1
  have l129 := ((B119.out.al (.cells #[.bool c1, .slice xa3 sz1.length xc3, .slice ya3 D3.length yc3] 24))).c2
  go_wp2_with fail
  obtain ⟨u130, hu130⟩ : ∃ u130, u130 = (v7.alloc (.cells #[.bool c1, .slice xa3 sz1.length xc3, .slice ya3 D3.length yc3] 24)) := ⟨_, rfl⟩
  rw [← hu130]
  have z131 : v7.heap.size + 1 ≤ u130.heap.size := by rw [hu130]; simp only [World.size_alloc]; omega
  have B132 : Hid (Abx u130 (w.heap.size) (.bool c1) (.slice (some ⟨bs, os, none⟩) sz1.length sc1) (.slice da1 dz1.length dc1)) := by rw [hu130]; exact (B118.out.al (.cells #[.bool c1, .slice xa3 sz1.length xc3, .slice ya3 D3.length yc3] 24))
  have B133 : Hid (Abx u130 (w.heap.size + 1) (.bool c1) (.slice sa2 sz2.length sc2) (.slice da2 dz2.length dc2)) := by rw [hu130]; exact (B119.out.al (.cells #[.bool c1, .slice xa3 sz1.length xc3, .slice ya3 D3.length yc3] 24))
  have B134 : Hid (Abx u130 (v5.heap.size) (.bool c1) (.slice xa2 S1.length xc2) (.slice ya2 D2.length yc2)) := by rw [hu130]; exact (B120.out.al (.cells #[.bool c1, .slice xa3 sz1.length xc3, .slice ya3 D3.length yc3] 24))
  have B135 : Hid (Abx u130 (v7.heap.size) (.bool c1) (.slice xa3 sz1.length xc3) (.slice ya3 D3.length yc3)) := by rw [hu130]; exact n126
  have L136 : Hid (MidC (u83.heap.size) (v6.heap.size) u130 (xa2) (S1) (xc2)) := by rw [hu130]; exact (L121.out.al (by omega) (.cells #[.bool c1, .slice xa3 sz1.length xc3, .slice ya3 D3.length yc3] 24))
  have L137 : Hid (MidC (u83.heap.size) (v6.heap.size) u130 (ya2) (D2) (yc2)) := by rw [hu130]; exact (L122.out.al (by omega) (.cells #[.bool c1, .slice xa3 sz1.length xc3, .slice ya3 D3.length yc3] 24))
  have L138 : Hid (MidC (u109.heap.size) (v7.heap.size) u130 (xa3) (sz1) (xc3)) := by rw [hu130]; exact (L124.out.al (by omega) (.cells #[.bool c1, .slice xa3 sz1.length xc3, .slice ya3 D3.length yc3] 24))
  have L139 : Hid (MidC (u109.heap.size) (v7.heap.size) u130 (ya3) (D3) (yc3)) := by rw [hu130]; exact (L125.out.al (by omega) (.cells #[.bool c1, .slice xa3 sz1.length xc3, .slice ya3 D3.length yc3] 24))
  have hb140 : Hid (Below w.heap.size w u130) := by rw [hu130]; exact (hb123.out.alloc (by omega) (.cells #[.bool c1, .slice xa3 sz1.length xc3, .slice ya3 D3.length yc3] 24))
  have zu130 : w.heap.size ≤ u130.heap.size := hb140.out.size
  clear hu130 n126 l127 l128 l129 hb123 B118 B119 B120 L121 L122 L124 L125
  refine (rvb_ok c1 sa2 sc2 sz2 da2 dc2 dz2 _ x1_2 x2_2 ((HI2.out.1.below hb140.out).mono hb140.out.size) ((HI2.out.2.1.below hb140.out).mono hb140.out.size) HI2.out.2.2 D4 HR (xn : Int) (by unfold In64; omega) ⟨HM.out.2.2.1, HD4.out⟩).mono ?_
  rintro e v8 ⟨xa4, xc4, ya4, yc4, rfl, hX4, hY4, hB⟩
  have z141 : u130.heap.size ≤ v8.heap.size := hB.size
  have B142 : Hid (Abx v8 (w.heap.size) (.bool c1) (.slice (some ⟨bs, os, none⟩) sz1.length sc1) (.slice da1 dz1.length dc1)) := B132.out.go hB
  have B143 : Hid (Abx v8 (w.heap.size + 1) (.bool c1) (.slice sa2 sz2.length sc2) (.slice da2 dz2.length dc2)) := B133.out.go hB
  have B144 : Hid (Abx v8 (v5.heap.size) (.bool c1) (.slice xa2 S1.length xc2) (.slice ya2 D2.length yc2)) := B134.out.go hB
  have B145 : Hid (Abx v8 (v7.heap.size) (.bool c1) (.slice xa3 sz1.length xc3) (.slice ya3 D3.length yc3)) := B135.out.go hB
  have L146 : Hid (MidC (u83.heap.size) (v6.heap.size) v8 (xa2) (S1) (xc2)) := L136.out.go (by omega) hB
  have L147 : Hid (MidC (u83.heap.size) (v6.heap.size) v8 (ya2) (D2) (yc2)) := L137.out.go (by omega) hB
  have L148 : Hid (MidC (u109.heap.size) (v7.heap.size) v8 (xa3) (sz1) (xc3)) := L138.out.go (by omega) hB
  have L149 : Hid (MidC (u109.heap.size) (v7.heap.size) v8 (ya3) (D3) (yc3)) := L139.out.go (by omega) hB
  have hb150 : Hid (Below w.heap.size w v8) := hb140.out.trans (hB.mono hb140.out.size)
  have L151 : Hid (MidC (u130.heap.size) (v8.heap.size) v8 (xa4) (sz2) (xc4)) := hX4.midc
  have L152 : Hid (MidC (u130.heap.size) (v8.heap.size) v8 (ya4) (D4) (yc4)) := hY4.midc
  clear hB hb140 B132 B133 B134 B135 L136 L137 L138 L139 hX4 hY4
  have n153 := Abx.new v8 (.bool c1) (.slice xa4 sz2.length xc4) (.slice ya4 D4.length yc4)
  have l154 := (n153).c0
  have l155 := (n153).c1
  have l156 := (n153).c2
  have l157 := ((B145.out.al (.cells #[.bool c1, .slice xa4 sz2.length xc4, .slice ya4 D4.length yc4] 24))).c0
  have l158 := ((B145.out.al (.cells #[.bool c1, .slice xa4 sz2.length xc4, .slice ya4 D4.length yc4] 24))).c1
  have l159 := ((B145.out.al (.cells #[.bool c1, .slice xa4 sz2.length xc4, .slice ya4 D4.length yc4] 24))).c2
  go_wp2_with fail
  obtain ⟨u160, hu160⟩ : ∃ u160, u160 = (v8.alloc (.cells #[.bool c1, .slice xa4 sz2.length xc4, .slice ya4 D4.length yc4] 24)) := ⟨_, rfl⟩
  rw [← hu160]
  have z161 : v8.heap.size + 1 ≤ u160.heap.size := by rw [hu160]; simp only [World.size_alloc]; omega
  have B162 : Hid (Abx u160 (w.heap.size) (.bool c1) (.slice (some ⟨bs, os, none⟩) sz1.length sc1) (.slice da1 dz1.length dc1)) := by rw [hu160]; exact (B142.out.al (.cells #[.bool c1, .slice xa4 sz2.length xc4, .slice ya4 D4.length yc4] 24))
  have B163 : Hid (Abx u160 (w.heap.size + 1) (.bool c1) (.slice sa2 sz2.length sc2) (.slice da2 dz2.length dc2)) := by rw [hu160]; exact (B143.out.al (.cells #[.bool c1, .slice xa4 sz2.length xc4, .slice ya4 D4.length yc4] 24))
  have B164 : Hid (Abx u160 (v5.heap.size) (.bool c1) (.slice xa2 S1.length xc2) (.slice ya2 D2.length yc2)) := by rw [hu160]; exact (B144.out.al (.cells #[.bool c1, .slice xa4 sz2.length xc4, .slice ya4 D4.length yc4] 24))
  have B165 : Hid (Abx u160 (v7.heap.size) (.bool c1) (.slice xa3 sz1.length xc3) (.slice ya3 D3.length yc3)) := by rw [hu160]; exact (B145.out.al (.cells #[.bool c1, .slice xa4 sz2.length xc4, .slice ya4 D4.length yc4] 24))
  have B166 : Hid (Abx u160 (v8.heap.size) (.bool c1) (.slice xa4 sz2.length xc4) (.slice ya4 D4.length yc4)) := by rw [hu160]; exact n153
  have L167 : Hid (MidC (u83.heap.size) (v6.heap.size) u160 (xa2) (S1) (xc2)) := by rw [hu160]; exact (L146.out.al (by omega) (.cells #[.bool c1, .slice xa4 sz2.length xc4, .slice ya4 D4.length yc4] 24))
  have L168 : Hid (MidC (u83.heap.size) (v6.heap.size) u160 (ya2) (D2) (yc2)) := by rw [hu160]; exact (L147.out.al (by omega) (.cells #[.bool c1, .slice xa4 sz2.length xc4, .slice ya4 D4.length yc4] 24))
  have L169 : Hid (MidC (u109.heap.size) (v7.heap.size) u160 (xa3) (sz1) (xc3)) := by rw [hu160]; exact (L148.out.al (by omega) (.cells #[.bool c1, .slice xa4 sz2.length xc4, .slice ya4 D4.length yc4] 24))
  have L170 : Hid (MidC (u109.heap.size) (v7.heap.size) u160 (ya3) (D3) (yc3)) := by rw [hu160]; exact (L149.out.al (by omega) (.cells #[.bool c1, .slice xa4 sz2.length xc4, .slice ya4 D4.length yc4] 24))
  have L171 : Hid (MidC (u130.heap.size) (v8.heap.size) u160 (xa4) (sz2) (xc4)) := by rw [hu160]; exact (L151.out.al (by omega) (.cells #[.bool c1, .slice xa4 sz2.length xc4, .slice ya4 D4.length yc4] 24))
  have L172 : Hid (MidC (u130.heap.size) (v8.heap.size) u160 (ya4) (D4) (yc4)) := by rw [hu160]; exact (L152.out.al (by omega) (.cells #[.bool c1, .slice xa4 sz2.length xc4, .slice ya4 D4.length yc4] 24))
  have hb173 : Hid (Below w.heap.size w u160) := by rw [hu160]; exact (hb150.out.alloc (by omega) (.cells #[.bool c1, .slice xa4 sz2.length xc4, .slice ya4 D4.length yc4] 24))
  have zu160 : w.heap.size ≤ u160.heap.size := hb173.out.size
  clear hu160 n153 l154 l155 l156 l157 l158 l159 hb150 B142 B143 B144 B145 L146 L147 L148 L149 L151 L152
  refine (jn_ok (xn : Int) (by unfold In64; omega) c1 xa4 xc4 sz2 ya4 yc4 D4 c1 xa3 xc3 sz1 ya3 yc3 D3 _ (by have := L4.out.1; omega) (by have := L4.out.2.1; omega) (L171.out.is (by omega)) (L172.out.is (by omega)) L4.out.2.2 (by have := L3.out.1; omega) (by have := L3.out.2.1; omega) (L169.out.is (by omega)) (L170.out.is (by omega)) L3.out.2.2 S5 D5 HJ ⟨HM.out.2.2.2.1, HS5.out, HD5.out⟩).mono ?_
  rintro e v9 ⟨xa5, xc5, ya5, yc5, rfl, hX5, hY5, hB⟩
  have z174 : u160.heap.size ≤ v9.heap.size := hB.size
  have B175 : Hid (Abx v9 (w.heap.size) (.bool c1) (.slice (some ⟨bs, os, none⟩) sz1.length sc1) (.slice da1 dz1.length dc1)) := B162.out.go hB
  have B176 : Hid (Abx v9 (w.heap.size + 1) (.bool c1) (.slice sa2 sz2.length sc2) (.slice da2 dz2.length dc2)) := B163.out.go hB
  have B177 : Hid (Abx v9 (v5.heap.size) (.bool c1) (.slice xa2 S1.length xc2) (.slice ya2 D2.length yc2)) := B164.out.go hB
  have B178 : Hid (Abx v9 (v7.heap.size) (.bool c1) (.slice xa3 sz1.length xc3) (.slice ya3 D3.length yc3)) := B165.out.go hB
  have B179 : Hid (Abx v9 (v8.heap.size) (.bool c1) (.slice xa4 sz2.length xc4) (.slice ya4 D4.length yc4)) := B166.out.go hB
  have L180 : Hid (MidC (u83.heap.size) (v6.heap.size) v9 (xa2) (S1) (xc2)) := L167.out.go (by omega) hB
  have L181 : Hid (MidC (u83.heap.size) (v6.heap.size) v9 (ya2) (D2) (yc2)) := L168.out.go (by omega) hB
  have L182 : Hid (MidC (u109.heap.size) (v7.heap.size) v9 (xa3) (sz1) (xc3)) := L169.out.go (by omega) hB
  have L183 : Hid (MidC (u109.heap.size) (v7.heap.size) v9 (ya3) (D3) (yc3)) := L170.out.go (by omega) hB
  have L184 : Hid (MidC (u130.heap.size) (v8.heap.size) v9 (xa4) (sz2) (xc4)) := L171.out.go (by omega) hB
  have L185 : Hid (MidC (u130.heap.size) (v8.heap.size) v9 (ya4) (D4) (yc4)) := L172.out.go (by omega) hB
  have hb186 : Hid (Below w.heap.size w v9) := hb173.out.trans (hB.mono hb173.out.size)
  have L187 : Hid (MidC (u160.heap.size) (v9.heap.size) v9 (xa5) (S5) (xc5)) := hX5.midc
  have L188 : Hid (MidC (u160.heap.size) (v9.heap.size) v9 (ya5) (D5) (yc5)) := hY5.midc
  clear hB hb173 B162 B163 B164 B165 B166 L167 L168 L169 L170 L171 L172 hX5 hY5
  clear L184 L185 B179 B176
  have n189 := Abx.new v9 (.bool c1) (.slice xa5 S5.length xc5) (.slice ya5 D5.length yc5)
  have l190 := ((B177.out.al (.cells #[.bool c1, .slice xa5 S5.length xc5, .slice ya5 D5.length yc5] 24))).c0
  have l191 := ((B177.out.al (.cells #[.bool c1, .slice xa5 S5.length xc5, .slice ya5 D5.length yc5] 24))).c1
  have l192 := ((B177.out.al (.cells #[.bool c1, .slice xa5 S5.length xc5, .slice ya5 D5.length yc5] 24))).c2
  have l193 := (n189).c0
  have l194 := (n189).c1
  have l195 := (n189).c2
  go_wp2_with fail
  obtain ⟨u196, hu196⟩ : ∃ u196, u196 = (v9.alloc (.cells #[.bool c1, .slice xa5 S5.length xc5, .slice ya5 D5.length yc5] 24)) := ⟨_, rfl⟩
  rw [← hu196]
  have z197 : v9.heap.size + 1 ≤ u196.heap.size := by rw [hu196]; simp only [World.size_alloc]; omega
  have B198 : Hid (Abx u196 (w.heap.size) (.bool c1) (.slice (some ⟨bs, os, none⟩) sz1.length sc1) (.slice da1 dz1.length dc1)) := by rw [hu196]; exact (B175.out.al (.cells #[.bool c1, .slice xa5 S5.length xc5, .slice ya5 D5.length yc5] 24))
  have B199 : Hid (Abx u196 (v5.heap.size) (.bool c1) (.slice xa2 S1.length xc2) (.slice ya2 D2.length yc2)) := by rw [hu196]; exact (B177.out.al (.cells #[.bool c1, .slice xa5 S5.length xc5, .slice ya5 D5.length yc5] 24))
  have B200 : Hid (Abx u196 (v7.heap.size) (.bool c1) (.slice xa3 sz1.length xc3) (.slice ya3 D3.length yc3)) := by rw [hu196]; exact (B178.out.al (.cells #[.bool c1, .slice xa5 S5.length xc5, .slice ya5 D5.length yc5] 24))
  have B201 : Hid (Abx u196 (v9.heap.size) (.bool c1) (.slice xa5 S5.length xc5) (.slice ya5 D5.length yc5)) := by rw [hu196]; exact n189
  have L202 : Hid (MidC (u83.heap.size) (v6.heap.size) u196 (xa2) (S1) (xc2)) := by rw [hu196]; exact (L180.out.al (by omega) (.cells #[.bool c1, .slice xa5 S5.length xc5, .slice ya5 D5.length yc5] 24))
  have L203 : Hid (MidC (u83.heap.size) (v6.heap.size) u196 (ya2) (D2) (yc2)) := by rw [hu196]; exact (L181.out.al (by omega) (.cells #[.bool c1, .slice xa5 S5.length xc5, .slice ya5 D5.length yc5] 24))
  have L204 : Hid (MidC (u109.heap.size) (v7.heap.size) u196 (xa3) (sz1) (xc3)) := by rw [hu196]; exact (L182.out.al (by omega) (.cells #[.bool c1, .slice xa5 S5.length xc5, .slice ya5 D5.length yc5] 24))
  have L205 : Hid (MidC (u109.heap.size) (v7.heap.size) u196 (ya3) (D3) (yc3)) := by rw [hu196]; exact (L183.out.al (by omega) (.cells #[.bool c1, .slice xa5 S5.length xc5, .slice ya5 D5.length yc5] 24))
  have L206 : Hid (MidC (u160.heap.size) (v9.heap.size) u196 (xa5) (S5) (xc5)) := by rw [hu196]; exact (L187.out.al (by omega) (.cells #[.bool c1, .slice xa5 S5.length xc5, .slice ya5 D5.length yc5] 24))
  have L207 : Hid (MidC (u160.heap.size) (v9.heap.size) u196 (ya5) (D5) (yc5)) := by rw [hu196]; exact (L188.out.al (by omega) (.cells #[.bool c1, .slice xa5 S5.length xc5, .slice ya5 D5.length yc5] 24))
  have hb208 : Hid (Below w.heap.size w u196) := by rw [hu196]; exact (hb186.out.alloc (by omega) (.cells #[.bool c1, .slice xa5 S5.length xc5, .slice ya5 D5.length yc5] 24))
  have zu196 : w.heap.size ≤ u196.heap.size := hb208.out.size
  clear hu196 n189 l190 l191 l192 l193 l194 l195 hb186 B175 B177 B178 L180 L181 L182 L183 L187 L188
  refine (alike_eq c1 xa2 xc2 S1 ya2 yc2 D2 xa5 xc5 S5 ya5 yc5 D5 HM.out.2.2.2.2.1 HM.out.2.2.2.2.2 (by have := L2.out.1; omega) (by have := L2.out.2.1; omega) _ (L202.out.is (by omega)) (L203.out.is (by omega)).1 (L206.out.is (by omega)) (L207.out.is (by omega)).1).mono ?_
  rintro e v10 ⟨rfl, hB⟩
  have z209 : u196.heap.size ≤ v10.heap.size := hB.size
  have B210 : Hid (Abx v10 (w.heap.size) (.bool c1) (.slice (some ⟨bs, os, none⟩) sz1.length sc1) (.slice da1 dz1.length dc1)) := B198.out.go hB
  have B211 : Hid (Abx v10 (v5.heap.size) (.bool c1) (.slice xa2 S1.length xc2) (.slice ya2 D2.length yc2)) := B199.out.go hB
  have B212 : Hid (Abx v10 (v7.heap.size) (.bool c1) (.slice xa3 sz1.length xc3) (.slice ya3 D3.length yc3)) := B200.out.go hB
  have B213 : Hid (Abx v10 (v9.heap.size) (.bool c1) (.slice xa5 S5.length xc5) (.slice ya5 D5.length yc5)) := B201.out.go hB
  have L214 : Hid (MidC (u83.heap.size) (v6.heap.size) v10 (xa2) (S1) (xc2)) := L202.out.go (by omega) hB
  have L215 : Hid (MidC (u83.heap.size) (v6.heap.size) v10 (ya2) (D2) (yc2)) := L203.out.go (by omega) hB
  have L216 : Hid (MidC (u109.heap.size) (v7.heap.size) v10 (xa3) (sz1) (xc3)) := L204.out.go (by omega) hB
  have L217 : Hid (MidC (u109.heap.size) (v7.heap.size) v10 (ya3) (D3) (yc3)) := L205.out.go (by omega) hB
  have L218 : Hid (MidC (u160.heap.size) (v9.heap.size) v10 (xa5) (S5) (xc5)) := L206.out.go (by omega) hB
  have L219 : Hid (MidC (u160.heap.size) (v9.heap.size) v10 (ya5) (D5) (yc5)) := L207.out.go (by omega) hB
  have hb220 : Hid (Below w.heap.size w v10) := hb208.out.trans (hB.mono hb208.out.size)
  clear hB hb208 B198 B199 B200 B201 L202 L203 L204 L205 L206 L207
  clear L214 L215 L218 L219 B211 B213
  have l221 := (B210.out).c0
  have l222 := (B210.out).c1
  have l223 := (B210.out).c2
  have l224 := HC.out _ hb220.out
  go_wp2_with fail
  clear l221 l222 l223 l224
  go_ret
  exact ⟨rfl, hb220.out⟩
set_option maxRecDepth 100000 in
set_option maxHeartbeats 8000000 in
theorem mirrors_ok (HT : CTk) (HJ : CJn) (HR : CRvB) (xn : Nat) (c1 : Bool) (bs os : Nat) (sc1 : Nat) (sz1 : List Int) (da1 : Option Addr) (dc1 : Nat) (dz1 : List Int) (sa2 : Option Addr) (sc2 : Nat) (sz2 : List Int) (da2 : Option Addr) (dc2 : Nat) (dz2 : List Int) (n : Int) (hn : In64 n) (w : World) (w9_1 : IsArrD w (some ⟨bs, os, none⟩) sz1 sc1 da1 dz1 dc1) (w9_2 : IsArrD w sa2 sz2 sc2 da2 dz2 dc2) (E1 : Hid (jnE (xn : Int) c1 sz1 dz1 c1 sz2 dz2 = 0)) (B3 : 0 ≤ n) (B4 : n ≤ nth sz1 xn) :
    Calls Try.prog 6 #[.int .i64 (xn : Int), .agg #[.bool c1, .slice (some ⟨bs, os, none⟩) sz1.length sc1, .slice da1 dz1.length dc1], .agg #[.bool c1, .slice sa2 sz2.length sc2, .slice da2 dz2.length dc2], .int .i64 n] w fun e w' => e = .returned (.bool true) ∧ Below w.heap.size w w' := by
  obtain ⟨x1_1, x2_1, x3, x4, s64, T⟩ := w9_1
  have HI1 : Hid (IsC w.heap.size w (some ⟨bs, os, none⟩) sz1 sc1 ∧ IsC w.heap.size w da1 dz1 dc1 ∧ ∀ j, In64 (nth dz1 j)) := ⟨x3, x4, T⟩
  clear x3 x4 T s64
  obtain ⟨x1_2, x2_2, x3, x4, s64, T⟩ := w9_2
  have HI2 : Hid (IsC w.heap.size w sa2 sz2 sc2 ∧ IsC w.heap.size w da2 dz2 dc2 ∧ ∀ j, In64 (nth dz2 j)) := ⟨x3, x4, T⟩
  clear x3 x4 T s64
  obtain ⟨hn0, hn1⟩ := hn
  have F1 : Hid (flawE c1 sz1 dz1 = 0 ∧ xn < sz1.length) := ⟨(jnZ.1 E1.out).1, (jnZ.1 E1.out).2.2.2.1⟩
  have hxl := F1.out.2
  have hl6 : sz1.length ≤ 6 := (flawE_short F1.out.1).1
  have hd1 : dz1.length ≤ 4096 := (flawE_short F1.out.1).2
  have t2 : ¬ ((sz1.length : Int) ≤ (xn : Int)) := by omega
  have HK : Hid (AllIn sz1) := (errOf_zero.1 (flawE_zero F1.out.1).1).2.1
  have hz := HK.out.nth xn
  obtain ⟨b9, o9, e9, hbs, hcS⟩ := HI1.out.1.1.at hxl
  cases e9
  have HC : Hid (∀ W, Below w.heap.size w W → W.cell? ⟨bs, os + xn, none⟩ = some (.int .i64 (nth sz1 xn))) := fun W hB => (hB.cell (p := ⟨bs, os + xn, none⟩) hbs).trans (hcS xn hxl)
  clear hcS
  obtain ⟨S1, hS1⟩ : ∃ S, S = jnS xn sz1 sz2 := ⟨_, rfl⟩
  have HS1 : Hid (jnS xn sz1 sz2 = S1) := hS1.symm
  clear hS1
  obtain ⟨D1, hD1⟩ : ∃ D, D = jnD xn sz1 dz1 sz2 dz2 := ⟨_, rfl⟩
  have HD1 : Hid (jnD xn sz1 dz1 sz2 dz2 = D1) := hD1.symm
  clear hD1
  obtain ⟨D2, hD2⟩ : ∃ D, D = rvG (xn : Int) S1 D1 := ⟨_, rfl⟩
  have HD2 : Hid (rvG (xn : Int) S1 D1 = D2) := hD2.symm
  clear hD2
  obtain ⟨D3, hD3⟩ : ∃ D, D = rvG (xn : Int) sz1 dz1 := ⟨_, rfl⟩
  have HD3 : Hid (rvG (xn : Int) sz1 dz1 = D3) := hD3.symm
  clear hD3
  obtain ⟨D4, hD4⟩ : ∃ D, D = rvG (xn : Int) sz2 dz2 := ⟨_, rfl⟩
  have HD4 : Hid (rvG (xn : Int) sz2 dz2 = D4) := hD4.symm
  clear hD4
  obtain ⟨S5, hS5⟩ : ∃ S, S = jnS xn sz2 sz1 := ⟨_, rfl⟩
  have HS5 : Hid (jnS xn sz2 sz1 = S5) := hS5.symm
  clear hS5
  obtain ⟨D5, hD5⟩ : ∃ D, D = jnD xn sz2 D4 sz1 D3 := ⟨_, rfl⟩
  have HD5 : Hid (jnD xn sz2 D4 sz1 D3 = D5) := hD5.symm
  clear hD5
  have MM := jn_mirror E1.out
  rw [HS1.out, HD1.out, HD3.out, HD4.out, HD2.out, HS5.out, HD5.out] at MM
  have HM : Hid (axE (xn : Int) c1 S1 D1 = 0 ∧ axE (xn : Int) c1 sz1 dz1 = 0 ∧ axE (xn : Int) c1 sz2 dz2 = 0 ∧ jnE (xn : Int) c1 sz2 D4 c1 sz1 D3 = 0 ∧ S5 = S1 ∧ D5 = D2) := MM
  clear MM
  have L1 : Hid (S1.length ≤ 6 ∧ D1.length ≤ 4096 ∧ ∀ j, In64 (nth D1 j)) := by rw [← HS1.out, ← HD1.out]; exact jn_facts E1.out HI1.out.2.2 HI2.out.2.2
  have L2 : Hid (S1.length ≤ 6 ∧ D2.length ≤ 4096 ∧ ∀ j, In64 (nth D2 j)) := by rw [← HD2.out]; exact rv_facts HM.out.1 L1.out.2.2
  have L3 : Hid (sz1.length ≤ 6 ∧ D3.length ≤ 4096 ∧ ∀ j, In64 (nth D3 j)) := by rw [← HD3.out]; exact rv_facts HM.out.2.1 HI1.out.2.2
  have L4 : Hid (sz2.length ≤ 6 ∧ D4.length ≤ 4096 ∧ ∀ j, In64 (nth D4 j)) := by rw [← HD4.out]; exact rv_facts HM.out.2.2.1 HI2.out.2.2
  obtain ⟨S6, hS6⟩ : ∃ S, S = sz1.set xn n := ⟨_, rfl⟩
  obtain ⟨D6, hD6⟩ : ∃ D, D = tkD (sz1.set xn n) c1 sz1 dz1 := ⟨_, rfl⟩
  have HS6 : Hid (sz1.set xn n = S6 ∧ tkD (sz1.set xn n) c1 sz1 dz1 = D6) := ⟨hS6.symm, hD6.symm⟩
  clear hS6 hD6
  obtain ⟨D7, hD7⟩ : ∃ D, D = rvG (xn : Int) S6 D6 := ⟨_, rfl⟩
  have HD7 : Hid (rvG (xn : Int) S6 D6 = D7) := hD7.symm
  clear hD7
  have TT := tk_mirror F1.out.1 hxl B3 B4
  rw [HS6.out.2, HD3.out, HS6.out.1, HD7.out] at TT
  have HT2 : Hid (axE (xn : Int) c1 S6 D6 = 0 ∧ tkE ((sz1.set xn n).set xn (-n)) c1 sz1 D3 = 0 ∧ tkS ((sz1.set xn n).set xn (-n)) = S6 ∧ tkD ((sz1.set xn n).set xn (-n)) c1 sz1 D3 = D7) := by rw [set_set]; exact TT
  clear TT
  have HT1 : Hid (tkE (sz1.set xn n) c1 sz1 dz1 = 0 ∧ tkS (sz1.set xn n) = S6 ∧ tkD (sz1.set xn n) c1 sz1 dz1 = D6) := by have h := tk_head F1.out.1 hxl B3 B4; exact ⟨h.1, by rw [h.2.1]; exact HS6.out.1, HS6.out.2⟩
  have L6 : Hid (S6.length ≤ 6 ∧ D6.length ≤ 4096 ∧ ∀ j, In64 (nth D6 j)) := by
    have e1 : errOf S6 = 0 := by rw [← HT1.out.2.1]; exact (tkE_zero.1 HT1.out.1).2.2.2
    have f1 : D6 = ptD c1 sz1 dz1 S6 (tkU sz1 (sz1.set xn n)) := by rw [← HT1.out.2.2, ← HT1.out.2.1]; rfl
    refine ⟨(errOf_zero.1 e1).1, ?_, ?_⟩
    · rw [f1, ptD, TA_length]; exact (errS e1).2
    · rw [f1]; exact pt_64 e1 HI1.out.2.2
  have L7 : Hid (S6.length ≤ 6 ∧ D7.length ≤ 4096 ∧ ∀ j, In64 (nth D7 j)) := by rw [← HD7.out]; exact rv_facts HT2.out.1 L6.out.2.2
  have T1 : Hid (∀ j, In64 (nth (sz1.set xn n) j)) := fun j => by rw [nth_set _ _ _ _ hxl]; split <;> first | (unfold In64; omega) | (have := HK.out.nth j; unfold In64; omega)
  have T2 : Hid (∀ j, In64 (nth ((sz1.set xn n).set xn (-n)) j)) := fun j => by rw [set_set, nth_set _ _ _ _ hxl]; split <;> first | (unfold In64; omega) | (have := HK.out.nth j; unfold In64; omega)
  have hsl : xn < (sz1.set xn n).length := by rw [List.length_set]; exact hxl
  have t3 : ¬ (nth sz1 xn < n) := by omega
  have n1 := Abx.new w (.bool c1) (.slice (some ⟨bs, os, none⟩) sz1.length sc1) (.slice da1 dz1.length dc1)
  have n2 := Abx.new (w.alloc (.cells #[.bool c1, .slice (some ⟨bs, os, none⟩) sz1.length sc1, .slice da1 dz1.length dc1] 24)) (.bool c1) (.slice sa2 sz2.length sc2) (.slice da2 dz2.length dc2)
  simp only [World.size_alloc] at n2
  have n3 := lit_mid ((w.alloc (.cells #[.bool c1, .slice (some ⟨bs, os, none⟩) sz1.length sc1, .slice da1 dz1.length dc1] 24)).alloc (.cells #[.bool c1, .slice sa2 sz2.length sc2, .slice da2 dz2.length dc2] 24)) 3 [1] 1 rfl
  simp only [World.size_alloc, List.map_cons, List.map_nil] at n3
  go_enter Try.func6, Try.ntmps6
  go_wp2_with fail
  obtain ⟨u4, hu4⟩ : ∃ u4, u4 = (((w.alloc (.cells #[.bool c1, .slice (some ⟨bs, os, none⟩) sz1.length sc1, .slice da1 dz1.length dc1] 24)).alloc (.cells #[.bool c1, .slice sa2 sz2.length sc2, .slice da2 dz2.length dc2] 24)).alloc (.cells #[.int .i64 1] 3)) := ⟨_, rfl⟩
  rw [← hu4]
  have z5 : w.heap.size + 1 + 1 + 1 ≤ u4.heap.size := by rw [hu4]; simp only [World.size_alloc]; omega
  have B6 : Hid (Abx u4 (w.heap.size) (.bool c1) (.slice (some ⟨bs, os, none⟩) sz1.length sc1) (.slice da1 dz1.length dc1)) := by rw [hu4]; exact ((n1.al (.cells #[.bool c1, .slice sa2 sz2.length sc2, .slice da2 dz2.length dc2] 24)).al (.cells #[.int .i64 1] 3))
  have B7 : Hid (Abx u4 (w.heap.size + 1) (.bool c1) (.slice sa2 sz2.length sc2) (.slice da2 dz2.length dc2)) := by rw [hu4]; exact (n2.al (.cells #[.int .i64 1] 3))
  have L8 : Hid (MidC (w.heap.size + 1 + 1) (w.heap.size + 1 + 1 + 1) u4 (some ⟨w.heap.size + 1 + 1, 0, none⟩) ([1]) (1)) := by rw [hu4]; exact n3
  have hb9 : Hid (Below w.heap.size w u4) := by rw [hu4]; exact ((((Below.refl w.heap.size w).alloc (by omega) (.cells #[.bool c1, .slice (some ⟨bs, os, none⟩) sz1.length sc1, .slice da1 dz1.length dc1] 24)).alloc (by simp only [World.size_alloc]; omega) (.cells #[.bool c1, .slice sa2 sz2.length sc2, .slice da2 dz2.length dc2] 24)).alloc (by simp only [World.size_alloc]; omega) (.cells #[.int .i64 1] 3))
  have zu4 : w.heap.size ≤ u4.heap.size := hb9.out.size
  clear hu4 n1 n2 n3
  refine (vec_c (some ⟨w.heap.size + 1 + 1, 0, none⟩) 1 [1] (by simp) _ (L8.out.is (by omega)).1).mono ?_
  rintro e v1 ⟨va1, vc1, ga1, gc1, rfl, hV, hG, hB⟩
  have z10 : u4.heap.size ≤ v1.heap.size := hB.size
  have B11 : Hid (Abx v1 (w.heap.size) (.bool c1) (.slice (some ⟨bs, os, none⟩) sz1.length sc1) (.slice da1 dz1.length dc1)) := B6.out.go hB
  have B12 : Hid (Abx v1 (w.heap.size + 1) (.bool c1) (.slice sa2 sz2.length sc2) (.slice da2 dz2.length dc2)) := B7.out.go hB
  have L13 : Hid (MidC (w.heap.size + 1 + 1) (w.heap.size + 1 + 1 + 1) v1 (some ⟨w.heap.size + 1 + 1, 0, none⟩) ([1]) (1)) := L8.out.go (by omega) hB
  have hb14 : Hid (Below w.heap.size w v1) := hb9.out.trans (hB.mono hb9.out.size)
  have L15 : Hid (MidC (u4.heap.size) (v1.heap.size) v1 (va1) ([(1 : Int)]) (vc1)) := hV.midc
  have L16 : Hid (MidC (u4.heap.size) (v1.heap.size) v1 (ga1) ([1]) (gc1)) := hG.midc
  clear hB hb9 B6 B7 L8 hV hG
  clear L13
  have n17 := lit_mid v1 3 [2, 3] 2 rfl
  simp only [List.map_cons, List.map_nil] at n17
  go_wp2_with fail
  obtain ⟨u18, hu18⟩ : ∃ u18, u18 = (v1.alloc (.cells #[.int .i64 2, .int .i64 3] 3)) := ⟨_, rfl⟩
  rw [← hu18]
  have z19 : v1.heap.size + 1 ≤ u18.heap.size := by rw [hu18]; simp only [World.size_alloc]; omega
  have B20 : Hid (Abx u18 (w.heap.size) (.bool c1) (.slice (some ⟨bs, os, none⟩) sz1.length sc1) (.slice da1 dz1.length dc1)) := by rw [hu18]; exact (B11.out.al (.cells #[.int .i64 2, .int .i64 3] 3))
  have B21 : Hid (Abx u18 (w.heap.size + 1) (.bool c1) (.slice sa2 sz2.length sc2) (.slice da2 dz2.length dc2)) := by rw [hu18]; exact (B12.out.al (.cells #[.int .i64 2, .int .i64 3] 3))
  have L22 : Hid (MidC (u4.heap.size) (v1.heap.size) u18 (va1) ([(1 : Int)]) (vc1)) := by rw [hu18]; exact (L15.out.al (by omega) (.cells #[.int .i64 2, .int .i64 3] 3))
  have L23 : Hid (MidC (u4.heap.size) (v1.heap.size) u18 (ga1) ([1]) (gc1)) := by rw [hu18]; exact (L16.out.al (by omega) (.cells #[.int .i64 2, .int .i64 3] 3))
  have L24 : Hid (MidC (v1.heap.size) (v1.heap.size + 1) u18 (some ⟨v1.heap.size, 0, none⟩) ([2, 3]) (2)) := by rw [hu18]; exact n17
  have hb25 : Hid (Below w.heap.size w u18) := by rw [hu18]; exact (hb14.out.alloc (by omega) (.cells #[.int .i64 2, .int .i64 3] 3))
  have zu18 : w.heap.size ≤ u18.heap.size := hb25.out.size
  clear hu18 n17 hb14 B11 B12 L15 L16
  refine (vec_c (some ⟨v1.heap.size, 0, none⟩) 2 [2, 3] (by simp) _ (L24.out.is (by omega)).1).mono ?_
  rintro e v2 ⟨va2, vc2, ga2, gc2, rfl, hV, hG, hB⟩
  have z26 : u18.heap.size ≤ v2.heap.size := hB.size
  have B27 : Hid (Abx v2 (w.heap.size) (.bool c1) (.slice (some ⟨bs, os, none⟩) sz1.length sc1) (.slice da1 dz1.length dc1)) := B20.out.go hB
  have B28 : Hid (Abx v2 (w.heap.size + 1) (.bool c1) (.slice sa2 sz2.length sc2) (.slice da2 dz2.length dc2)) := B21.out.go hB
  have L29 : Hid (MidC (u4.heap.size) (v1.heap.size) v2 (va1) ([(1 : Int)]) (vc1)) := L22.out.go (by omega) hB
  have L30 : Hid (MidC (u4.heap.size) (v1.heap.size) v2 (ga1) ([1]) (gc1)) := L23.out.go (by omega) hB
  have L31 : Hid (MidC (v1.heap.size) (v1.heap.size + 1) v2 (some ⟨v1.heap.size, 0, none⟩) ([2, 3]) (2)) := L24.out.go (by omega) hB
  have hb32 : Hid (Below w.heap.size w v2) := hb25.out.trans (hB.mono hb25.out.size)
  have L33 : Hid (MidC (u18.heap.size) (v2.heap.size) v2 (va2) ([(2 : Int)]) (vc2)) := hV.midc
  have L34 : Hid (MidC (u18.heap.size) (v2.heap.size) v2 (ga2) ([2, 3]) (gc2)) := hG.midc
  clear hB hb25 B20 B21 L22 L23 L24 hV hG
  clear L31
  go_wp2_with fail
  refine (jn_ok 0 (by unfold In64; decide) false va1 vc1 [1] ga1 gc1 [1] false va2 vc2 [2] ga2 gc2 [2, 3] _ (by simp) (by simp) (L29.out.is (by omega)) (L30.out.is (by omega)) (lit_all (by decide)) (by simp) (by simp) (L33.out.is (by omega)) (L34.out.is (by omega)) (lit_all (by decide)) [3] [1, 2, 3] HJ (by decide)).mono ?_
  rintro e v3 ⟨f1, g1, f2, g2, rfl, hX0, hY0, hB⟩
  have z35 : v2.heap.size ≤ v3.heap.size := hB.size
  have B36 : Hid (Abx v3 (w.heap.size) (.bool c1) (.slice (some ⟨bs, os, none⟩) sz1.length sc1) (.slice da1 dz1.length dc1)) := B27.out.go hB
  have B37 : Hid (Abx v3 (w.heap.size + 1) (.bool c1) (.slice sa2 sz2.length sc2) (.slice da2 dz2.length dc2)) := B28.out.go hB
  have L38 : Hid (MidC (u4.heap.size) (v1.heap.size) v3 (va1) ([(1 : Int)]) (vc1)) := L29.out.go (by omega) hB
  have L39 : Hid (MidC (u4.heap.size) (v1.heap.size) v3 (ga1) ([1]) (gc1)) := L30.out.go (by omega) hB
  have L40 : Hid (MidC (u18.heap.size) (v2.heap.size) v3 (va2) ([(2 : Int)]) (vc2)) := L33.out.go (by omega) hB
  have L41 : Hid (MidC (u18.heap.size) (v2.heap.size) v3 (ga2) ([2, 3]) (gc2)) := L34.out.go (by omega) hB
  have hb42 : Hid (Below w.heap.size w v3) := hb32.out.trans (hB.mono hb32.out.size)
  have L43 : Hid (MidC (v2.heap.size) (v3.heap.size) v3 (f1) ([3]) (g1)) := hX0.midc
  have L44 : Hid (MidC (v2.heap.size) (v3.heap.size) v3 (f2) ([1, 2, 3]) (g2)) := hY0.midc
  clear hB hb32 B27 B28 L29 L30 L33 L34 hX0 hY0
  clear L38 L39 L40 L41
  have n45 := Abx.new v3 (.bool false) (.slice f1 1 g1) (.slice f2 3 g2)
  have l46 := (n45).c0
  have l47 := (n45).c1
  have l48 := (n45).c2
  have n49 := lit_mid (v3.alloc (.cells #[.bool false, .slice f1 1 g1, .slice f2 3 g2] 24)) 3 [1, 2, 3] 3 rfl
  simp only [World.size_alloc, List.map_cons, List.map_nil] at n49
  go_wp2_with fail
  obtain ⟨u50, hu50⟩ : ∃ u50, u50 = ((v3.alloc (.cells #[.bool false, .slice f1 1 g1, .slice f2 3 g2] 24)).alloc (.cells #[.int .i64 1, .int .i64 2, .int .i64 3] 3)) := ⟨_, rfl⟩
  rw [← hu50]
  have z51 : v3.heap.size + 1 + 1 ≤ u50.heap.size := by rw [hu50]; simp only [World.size_alloc]; omega
  have B52 : Hid (Abx u50 (w.heap.size) (.bool c1) (.slice (some ⟨bs, os, none⟩) sz1.length sc1) (.slice da1 dz1.length dc1)) := by rw [hu50]; exact ((B36.out.al (.cells #[.bool false, .slice f1 1 g1, .slice f2 3 g2] 24)).al (.cells #[.int .i64 1, .int .i64 2, .int .i64 3] 3))
  have B53 : Hid (Abx u50 (w.heap.size + 1) (.bool c1) (.slice sa2 sz2.length sc2) (.slice da2 dz2.length dc2)) := by rw [hu50]; exact ((B37.out.al (.cells #[.bool false, .slice f1 1 g1, .slice f2 3 g2] 24)).al (.cells #[.int .i64 1, .int .i64 2, .int .i64 3] 3))
  have B54 : Hid (Abx u50 (v3.heap.size) (.bool false) (.slice f1 1 g1) (.slice f2 3 g2)) := by rw [hu50]; exact (n45.al (.cells #[.int .i64 1, .int .i64 2, .int .i64 3] 3))
  have L55 : Hid (MidC (v2.heap.size) (v3.heap.size) u50 (f1) ([3]) (g1)) := by rw [hu50]; exact ((L43.out.al (by omega) (.cells #[.bool false, .slice f1 1 g1, .slice f2 3 g2] 24)).al (by simp only [World.size_alloc]; omega) (.cells #[.int .i64 1, .int .i64 2, .int .i64 3] 3))
  have L56 : Hid (MidC (v2.heap.size) (v3.heap.size) u50 (f2) ([1, 2, 3]) (g2)) := by rw [hu50]; exact ((L44.out.al (by omega) (.cells #[.bool false, .slice f1 1 g1, .slice f2 3 g2] 24)).al (by simp only [World.size_alloc]; omega) (.cells #[.int .i64 1, .int .i64 2, .int .i64 3] 3))
  have L57 : Hid (MidC (v3.heap.size + 1) (v3.heap.size + 1 + 1) u50 (some ⟨v3.heap.size + 1, 0, none⟩) ([1, 2, 3]) (3)) := by rw [hu50]; exact n49
  have hb58 : Hid (Below w.heap.size w u50) := by rw [hu50]; exact ((hb42.out.alloc (by omega) (.cells #[.bool false, .slice f1 1 g1, .slice f2 3 g2] 24)).alloc (by simp only [World.size_alloc]; omega) (.cells #[.int .i64 1, .int .i64 2, .int .i64 3] 3))
  have zu50 : w.heap.size ≤ u50.heap.size := hb58.out.size
  clear hu50 n45 l46 l47 l48 n49 hb42 B36 B37 L43 L44
  refine (ints_any f2 g2 [1, 2, 3] (some ⟨v3.heap.size + 1, 0, none⟩) 3 [1, 2, 3] (by simp) _ _ (L56.out.is (by omega)).1 (L57.out.is (by omega)).1).mono ?_
  rintro e v4 ⟨rfl, hB⟩
  have z59 : u50.heap.size ≤ v4.heap.size := hB.size
  have B60 : Hid (Abx v4 (w.heap.size) (.bool c1) (.slice (some ⟨bs, os, none⟩) sz1.length sc1) (.slice da1 dz1.length dc1)) := B52.out.go hB
  have B61 : Hid (Abx v4 (w.heap.size + 1) (.bool c1) (.slice sa2 sz2.length sc2) (.slice da2 dz2.length dc2)) := B53.out.go hB
  have B62 : Hid (Abx v4 (v3.heap.size) (.bool false) (.slice f1 1 g1) (.slice f2 3 g2)) := B54.out.go hB
  have L63 : Hid (MidC (v2.heap.size) (v3.heap.size) v4 (f1) ([3]) (g1)) := L55.out.go (by omega) hB
  have L64 : Hid (MidC (v2.heap.size) (v3.heap.size) v4 (f2) ([1, 2, 3]) (g2)) := L56.out.go (by omega) hB
  have L65 : Hid (MidC (v3.heap.size + 1) (v3.heap.size + 1 + 1) v4 (some ⟨v3.heap.size + 1, 0, none⟩) ([1, 2, 3]) (3)) := L57.out.go (by omega) hB
  have hb66 : Hid (Below w.heap.size w v4) := hb58.out.trans (hB.mono hb58.out.size)
  clear hB hb58 B52 B53 B54 L55 L56 L57
  rw [eqB_true rfl]
  clear L63 L64 L65 B62
  have l67 := (B60.out).c0
  have l68 := (B60.out).c1
  have l69 := (B60.out).c2
  have l70 := (B61.out).c0
  have l71 := (B61.out).c1
  have l72 := (B61.out).c2
  go_wp2_with fail
  clear l67 l68 l69 l70 l71 l72
  refine (jn_ok (xn : Int) (by unfold In64; omega) c1 (some ⟨bs, os, none⟩) sc1 sz1 da1 dc1 dz1 c1 sa2 sc2 sz2 da2 dc2 dz2 _ x1_1 x2_1 ((HI1.out.1.below hb66.out).mono hb66.out.size) ((HI1.out.2.1.below hb66.out).mono hb66.out.size) HI1.out.2.2 x1_2 x2_2 ((HI2.out.1.below hb66.out).mono hb66.out.size) ((HI2.out.2.1.below hb66.out).mono hb66.out.size) HI2.out.2.2 S1 D1 HJ ⟨E1.out, HS1.out, HD1.out⟩).mono ?_
  rintro e v5 ⟨xa1, xc1, ya1, yc1, rfl, hX1, hY1, hB⟩
  have z73 : v4.heap.size ≤ v5.heap.size := hB.size
  have B74 : Hid (Abx v5 (w.heap.size) (.bool c1) (.slice (some ⟨bs, os, none⟩) sz1.length sc1) (.slice da1 dz1.length dc1)) := B60.out.go hB
  have B75 : Hid (Abx v5 (w.heap.size + 1) (.bool c1) (.slice sa2 sz2.length sc2) (.slice da2 dz2.length dc2)) := B61.out.go hB
  have hb76 : Hid (Below w.heap.size w v5) := hb66.out.trans (hB.mono hb66.out.size)
  have L77 : Hid (MidC (v4.heap.size) (v5.heap.size) v5 (xa1) (S1) (xc1)) := hX1.midc
  have L78 : Hid (MidC (v4.heap.size) (v5.heap.size) v5 (ya1) (D1) (yc1)) := hY1.midc
  clear hB hb66 B60 B61 hX1 hY1
  have n79 := Abx.new v5 (.bool c1) (.slice xa1 S1.length xc1) (.slice ya1 D1.length yc1)
  have l80 := (n79).c0
  have l81 := (n79).c1
  have l82 := (n79).c2
  go_wp2_with fail
  obtain ⟨u83, hu83⟩ : ∃ u83, u83 = (v5.alloc (.cells #[.bool c1, .slice xa1 S1.length xc1, .slice ya1 D1.length yc1] 24)) := ⟨_, rfl⟩
  rw [← hu83]
  have z84 : v5.heap.size + 1 ≤ u83.heap.size := by rw [hu83]; simp only [World.size_alloc]; omega
  have B85 : Hid (Abx u83 (w.heap.size) (.bool c1) (.slice (some ⟨bs, os, none⟩) sz1.length sc1) (.slice da1 dz1.length dc1)) := by rw [hu83]; exact (B74.out.al (.cells #[.bool c1, .slice xa1 S1.length xc1, .slice ya1 D1.length yc1] 24))
  have B86 : Hid (Abx u83 (w.heap.size + 1) (.bool c1) (.slice sa2 sz2.length sc2) (.slice da2 dz2.length dc2)) := by rw [hu83]; exact (B75.out.al (.cells #[.bool c1, .slice xa1 S1.length xc1, .slice ya1 D1.length yc1] 24))
  have B87 : Hid (Abx u83 (v5.heap.size) (.bool c1) (.slice xa1 S1.length xc1) (.slice ya1 D1.length yc1)) := by rw [hu83]; exact n79
  have L88 : Hid (MidC (v4.heap.size) (v5.heap.size) u83 (xa1) (S1) (xc1)) := by rw [hu83]; exact (L77.out.al (by omega) (.cells #[.bool c1, .slice xa1 S1.length xc1, .slice ya1 D1.length yc1] 24))
  have L89 : Hid (MidC (v4.heap.size) (v5.heap.size) u83 (ya1) (D1) (yc1)) := by rw [hu83]; exact (L78.out.al (by omega) (.cells #[.bool c1, .slice xa1 S1.length xc1, .slice ya1 D1.length yc1] 24))
  have hb90 : Hid (Below w.heap.size w u83) := by rw [hu83]; exact (hb76.out.alloc (by omega) (.cells #[.bool c1, .slice xa1 S1.length xc1, .slice ya1 D1.length yc1] 24))
  have zu83 : w.heap.size ≤ u83.heap.size := hb90.out.size
  clear hu83 n79 l80 l81 l82 hb76 B74 B75 L77 L78
  refine (rvb_ok c1 xa1 xc1 S1 ya1 yc1 D1 _ (by have := L1.out.1; omega) (by have := L1.out.2.1; omega) (L88.out.is (by omega)) (L89.out.is (by omega)) L1.out.2.2 D2 HR (xn : Int) (by unfold In64; omega) ⟨HM.out.1, HD2.out⟩).mono ?_
  rintro e v6 ⟨xa2, xc2, ya2, yc2, rfl, hX2, hY2, hB⟩
  have z91 : u83.heap.size ≤ v6.heap.size := hB.size
  have B92 : Hid (Abx v6 (w.heap.size) (.bool c1) (.slice (some ⟨bs, os, none⟩) sz1.length sc1) (.slice da1 dz1.length dc1)) := B85.out.go hB
  have B93 : Hid (Abx v6 (w.heap.size + 1) (.bool c1) (.slice sa2 sz2.length sc2) (.slice da2 dz2.length dc2)) := B86.out.go hB
  have B94 : Hid (Abx v6 (v5.heap.size) (.bool c1) (.slice xa1 S1.length xc1) (.slice ya1 D1.length yc1)) := B87.out.go hB
  have L95 : Hid (MidC (v4.heap.size) (v5.heap.size) v6 (xa1) (S1) (xc1)) := L88.out.go (by omega) hB
  have L96 : Hid (MidC (v4.heap.size) (v5.heap.size) v6 (ya1) (D1) (yc1)) := L89.out.go (by omega) hB
  have hb97 : Hid (Below w.heap.size w v6) := hb90.out.trans (hB.mono hb90.out.size)
  have L98 : Hid (MidC (u83.heap.size) (v6.heap.size) v6 (xa2) (S1) (xc2)) := hX2.midc
  have L99 : Hid (MidC (u83.heap.size) (v6.heap.size) v6 (ya2) (D2) (yc2)) := hY2.midc
  clear hB hb90 B85 B86 B87 L88 L89 hX2 hY2
  clear L95 L96
  have l100 := (B94.out).fr 0
  have l101 := (B94.out).c0
  have l102 := (B94.out).fr 1
  have l103 := (B94.out).c1
  have l104 := (B94.out).fr 2
  have l105 := (B94.out).c2
  have l106 := ((abx_o3 B92.out (B := v5.heap.size) (by omega) (.bool c1) (.slice xa2 S1.length xc2) (.slice ya2 D2.length yc2))).c0
  have l107 := ((abx_o3 B92.out (B := v5.heap.size) (by omega) (.bool c1) (.slice xa2 S1.length xc2) (.slice ya2 D2.length yc2))).c1
  have l108 := ((abx_o3 B92.out (B := v5.heap.size) (by omega) (.bool c1) (.slice xa2 S1.length xc2) (.slice ya2 D2.length yc2))).c2
  go_wp2_with fail
  obtain ⟨u109, hu109⟩ : ∃ u109, u109 = (((v6.setCell ⟨v5.heap.size, 0, none⟩ (.bool c1)).setCell ⟨v5.heap.size, 1, none⟩ (.slice xa2 S1.length xc2)).setCell ⟨v5.heap.size, 2, none⟩ (.slice ya2 D2.length yc2)) := ⟨_, rfl⟩
  rw [← hu109]
  have z110 : v6.heap.size ≤ u109.heap.size := by rw [hu109]; simp only [World.size_setCell]; omega
  have B111 : Hid (Abx u109 (w.heap.size) (.bool c1) (.slice (some ⟨bs, os, none⟩) sz1.length sc1) (.slice da1 dz1.length dc1)) := by rw [hu109]; exact (abx_o3 B92.out (B := v5.heap.size) (by omega) (.bool c1) (.slice xa2 S1.length xc2) (.slice ya2 D2.length yc2))
  have B112 : Hid (Abx u109 (w.heap.size + 1) (.bool c1) (.slice sa2 sz2.length sc2) (.slice da2 dz2.length dc2)) := by rw [hu109]; exact (abx_o3 B93.out (B := v5.heap.size) (by omega) (.bool c1) (.slice xa2 S1.length xc2) (.slice ya2 D2.length yc2))
  have B113 : Hid (Abx u109 (v5.heap.size) (.bool c1) (.slice xa2 S1.length xc2) (.slice ya2 D2.length yc2)) := by rw [hu109]; exact (B94.out.set3 (.bool c1) (.slice xa2 S1.length xc2) (.slice ya2 D2.length yc2))
  have L114 : Hid (MidC (u83.heap.size) (v6.heap.size) u109 (xa2) (S1) (xc2)) := by rw [hu109]; exact (L98.out.s3 (b := v5.heap.size) (by omega) (.bool c1) (.slice xa2 S1.length xc2) (.slice ya2 D2.length yc2))
  have L115 : Hid (MidC (u83.heap.size) (v6.heap.size) u109 (ya2) (D2) (yc2)) := by rw [hu109]; exact (L99.out.s3 (b := v5.heap.size) (by omega) (.bool c1) (.slice xa2 S1.length xc2) (.slice ya2 D2.length yc2))
  have hb116 : Hid (Below w.heap.size w u109) := by rw [hu109]; exact (bel_s3 hb97.out (B := v5.heap.size) (by omega) (.bool c1) (.slice xa2 S1.length xc2) (.slice ya2 D2.length yc2))
  have zu109 : w.heap.size ≤ u109.heap.size := hb116.out.size
  clear hu109 l100 l101 l102 l103 l104 l105 l106 l107 l108 hb97 B92 B93 B94 L98 L99
  refine (rvb_ok c1 (some ⟨bs, os, none⟩) sc1 sz1 da1 dc1 dz1 _ x1_1 x2_1 ((HI1.out.1.below hb116.out).mono hb116.out.size) ((HI1.out.2.1.below hb116.out).mono hb116.out.size) HI1.out.2.2 D3 HR (xn : Int) (by unfold In64; omega) ⟨HM.out.2.1, HD3.out⟩).mono ?_
  rintro e v7 ⟨xa3, xc3, ya3, yc3, rfl, hX3, hY3, hB⟩
  have z117 : u109.heap.size ≤ v7.heap.size := hB.size
  have B118 : Hid (Abx v7 (w.heap.size) (.bool c1) (.slice (some ⟨bs, os, none⟩) sz1.length sc1) (.slice da1 dz1.length dc1)) := B111.out.go hB
  have B119 : Hid (Abx v7 (w.heap.size + 1) (.bool c1) (.slice sa2 sz2.length sc2) (.slice da2 dz2.length dc2)) := B112.out.go hB
  have B120 : Hid (Abx v7 (v5.heap.size) (.bool c1) (.slice xa2 S1.length xc2) (.slice ya2 D2.length yc2)) := B113.out.go hB
  have L121 : Hid (MidC (u83.heap.size) (v6.heap.size) v7 (xa2) (S1) (xc2)) := L114.out.go (by omega) hB
  have L122 : Hid (MidC (u83.heap.size) (v6.heap.size) v7 (ya2) (D2) (yc2)) := L115.out.go (by omega) hB
  have hb123 : Hid (Below w.heap.size w v7) := hb116.out.trans (hB.mono hb116.out.size)
  have L124 : Hid (MidC (u109.heap.size) (v7.heap.size) v7 (xa3) (sz1) (xc3)) := hX3.midc
  have L125 : Hid (MidC (u109.heap.size) (v7.heap.size) v7 (ya3) (D3) (yc3)) := hY3.midc
  clear hB hb116 B111 B112 B113 L114 L115 hX3 hY3
  have n126 := Abx.new v7 (.bool c1) (.slice xa3 sz1.length xc3) (.slice ya3 D3.length yc3)
  have l127 := ((B119.out.al (.cells #[.bool c1, .slice xa3 sz1.length xc3, .slice ya3 D3.length yc3] 24))).c0
  have l128 := ((B119.out.al (.cells #[.bool c1, .slice xa3 sz1.length xc3, .slice ya3 D3.length yc3] 24))).c1
  have l129 := ((B119.out.al (.cells #[.bool c1, .slice xa3 sz1.length xc3, .slice ya3 D3.length yc3] 24))).c2
  go_wp2_with fail
  obtain ⟨u130, hu130⟩ : ∃ u130, u130 = (v7.alloc (.cells #[.bool c1, .slice xa3 sz1.length xc3, .slice ya3 D3.length yc3] 24)) := ⟨_, rfl⟩
  rw [← hu130]
  have z131 : v7.heap.size + 1 ≤ u130.heap.size := by rw [hu130]; simp only [World.size_alloc]; omega
  have B132 : Hid (Abx u130 (w.heap.size) (.bool c1) (.slice (some ⟨bs, os, none⟩) sz1.length sc1) (.slice da1 dz1.length dc1)) := by rw [hu130]; exact (B118.out.al (.cells #[.bool c1, .slice xa3 sz1.length xc3, .slice ya3 D3.length yc3] 24))
  have B133 : Hid (Abx u130 (w.heap.size + 1) (.bool c1) (.slice sa2 sz2.length sc2) (.slice da2 dz2.length dc2)) := by rw [hu130]; exact (B119.out.al (.cells #[.bool c1, .slice xa3 sz1.length xc3, .slice ya3 D3.length yc3] 24))
  have B134 : Hid (Abx u130 (v5.heap.size) (.bool c1) (.slice xa2 S1.length xc2) (.slice ya2 D2.length yc2)) := by rw [hu130]; exact (B120.out.al (.cells #[.bool c1, .slice xa3 sz1.length xc3, .slice ya3 D3.length yc3] 24))
  have B135 : Hid (Abx u130 (v7.heap.size) (.bool c1) (.slice xa3 sz1.length xc3) (.slice ya3 D3.length yc3)) := by rw [hu130]; exact n126
  have L136 : Hid (MidC (u83.heap.size) (v6.heap.size) u130 (xa2) (S1) (xc2)) := by rw [hu130]; exact (L121.out.al (by omega) (.cells #[.bool c1, .slice xa3 sz1.length xc3, .slice ya3 D3.length yc3] 24))
  have L137 : Hid (MidC (u83.heap.size) (v6.heap.size) u130 (ya2) (D2) (yc2)) := by rw [hu130]; exact (L122.out.al (by omega) (.cells #[.bool c1, .slice xa3 sz1.length xc3, .slice ya3 D3.length yc3] 24))
  have L138 : Hid (MidC (u109.heap.size) (v7.heap.size) u130 (xa3) (sz1) (xc3)) := by rw [hu130]; exact (L124.out.al (by omega) (.cells #[.bool c1, .slice xa3 sz1.length xc3, .slice ya3 D3.length yc3] 24))
  have L139 : Hid (MidC (u109.heap.size) (v7.heap.size) u130 (ya3) (D3) (yc3)) := by rw [hu130]; exact (L125.out.al (by omega) (.cells #[.bool c1, .slice xa3 sz1.length xc3, .slice ya3 D3.length yc3] 24))
  have hb140 : Hid (Below w.heap.size w u130) := by rw [hu130]; exact (hb123.out.alloc (by omega) (.cells #[.bool c1, .slice xa3 sz1.length xc3, .slice ya3 D3.length yc3] 24))
  have zu130 : w.heap.size ≤ u130.heap.size := hb140.out.size
  clear hu130 n126 l127 l128 l129 hb123 B118 B119 B120 L121 L122 L124 L125
  refine (rvb_ok c1 sa2 sc2 sz2 da2 dc2 dz2 _ x1_2 x2_2 ((HI2.out.1.below hb140.out).mono hb140.out.size) ((HI2.out.2.1.below hb140.out).mono hb140.out.size) HI2.out.2.2 D4 HR (xn : Int) (by unfold In64; omega) ⟨HM.out.2.2.1, HD4.out⟩).mono ?_
  rintro e v8 ⟨xa4, xc4, ya4, yc4, rfl, hX4, hY4, hB⟩
  have z141 : u130.heap.size ≤ v8.heap.size := hB.size
  have B142 : Hid (Abx v8 (w.heap.size) (.bool c1) (.slice (some ⟨bs, os, none⟩) sz1.length sc1) (.slice da1 dz1.length dc1)) := B132.out.go hB
  have B143 : Hid (Abx v8 (w.heap.size + 1) (.bool c1) (.slice sa2 sz2.length sc2) (.slice da2 dz2.length dc2)) := B133.out.go hB
  have B144 : Hid (Abx v8 (v5.heap.size) (.bool c1) (.slice xa2 S1.length xc2) (.slice ya2 D2.length yc2)) := B134.out.go hB
  have B145 : Hid (Abx v8 (v7.heap.size) (.bool c1) (.slice xa3 sz1.length xc3) (.slice ya3 D3.length yc3)) := B135.out.go hB
  have L146 : Hid (MidC (u83.heap.size) (v6.heap.size) v8 (xa2) (S1) (xc2)) := L136.out.go (by omega) hB
  have L147 : Hid (MidC (u83.heap.size) (v6.heap.size) v8 (ya2) (D2) (yc2)) := L137.out.go (by omega) hB
  have L148 : Hid (MidC (u109.heap.size) (v7.heap.size) v8 (xa3) (sz1) (xc3)) := L138.out.go (by omega) hB
  have L149 : Hid (MidC (u109.heap.size) (v7.heap.size) v8 (ya3) (D3) (yc3)) := L139.out.go (by omega) hB
  have hb150 : Hid (Below w.heap.size w v8) := hb140.out.trans (hB.mono hb140.out.size)
  have L151 : Hid (MidC (u130.heap.size) (v8.heap.size) v8 (xa4) (sz2) (xc4)) := hX4.midc
  have L152 : Hid (MidC (u130.heap.size) (v8.heap.size) v8 (ya4) (D4) (yc4)) := hY4.midc
  clear hB hb140 B132 B133 B134 B135 L136 L137 L138 L139 hX4 hY4
  have n153 := Abx.new v8 (.bool c1) (.slice xa4 sz2.length xc4) (.slice ya4 D4.length yc4)
  have l154 := (n153).c0
  have l155 := (n153).c1
  have l156 := (n153).c2
  have l157 := ((B145.out.al (.cells #[.bool c1, .slice xa4 sz2.length xc4, .slice ya4 D4.length yc4] 24))).c0
  have l158 := ((B145.out.al (.cells #[.bool c1, .slice xa4 sz2.length xc4, .slice ya4 D4.length yc4] 24))).c1
  have l159 := ((B145.out.al (.cells #[.bool c1, .slice xa4 sz2.length xc4, .slice ya4 D4.length yc4] 24))).c2
  go_wp2_with fail
  obtain ⟨u160, hu160⟩ : ∃ u160, u160 = (v8.alloc (.cells #[.bool c1, .slice xa4 sz2.length xc4, .slice ya4 D4.length yc4] 24)) := ⟨_, rfl⟩
  rw [← hu160]
  have z161 : v8.heap.size + 1 ≤ u160.heap.size := by rw [hu160]; simp only [World.size_alloc]; omega
  have B162 : Hid (Abx u160 (w.heap.size) (.bool c1) (.slice (some ⟨bs, os, none⟩) sz1.length sc1) (.slice da1 dz1.length dc1)) := by rw [hu160]; exact (B142.out.al (.cells #[.bool c1, .slice xa4 sz2.length xc4, .slice ya4 D4.length yc4] 24))
  have B163 : Hid (Abx u160 (w.heap.size + 1) (.bool c1) (.slice sa2 sz2.length sc2) (.slice da2 dz2.length dc2)) := by rw [hu160]; exact (B143.out.al (.cells #[.bool c1, .slice xa4 sz2.length xc4, .slice ya4 D4.length yc4] 24))
  have B164 : Hid (Abx u160 (v5.heap.size) (.bool c1) (.slice xa2 S1.length xc2) (.slice ya2 D2.length yc2)) := by rw [hu160]; exact (B144.out.al (.cells #[.bool c1, .slice xa4 sz2.length xc4, .slice ya4 D4.length yc4] 24))
  have B165 : Hid (Abx u160 (v7.heap.size) (.bool c1) (.slice xa3 sz1.length xc3) (.slice ya3 D3.length yc3)) := by rw [hu160]; exact (B145.out.al (.cells #[.bool c1, .slice xa4 sz2.length xc4, .slice ya4 D4.length yc4] 24))
  have B166 : Hid (Abx u160 (v8.heap.size) (.bool c1) (.slice xa4 sz2.length xc4) (.slice ya4 D4.length yc4)) := by rw [hu160]; exact n153
  have L167 : Hid (MidC (u83.heap.size) (v6.heap.size) u160 (xa2) (S1) (xc2)) := by rw [hu160]; exact (L146.out.al (by omega) (.cells #[.bool c1, .slice xa4 sz2.length xc4, .slice ya4 D4.length yc4] 24))
  have L168 : Hid (MidC (u83.heap.size) (v6.heap.size) u160 (ya2) (D2) (yc2)) := by rw [hu160]; exact (L147.out.al (by omega) (.cells #[.bool c1, .slice xa4 sz2.length xc4, .slice ya4 D4.length yc4] 24))
  have L169 : Hid (MidC (u109.heap.size) (v7.heap.size) u160 (xa3) (sz1) (xc3)) := by rw [hu160]; exact (L148.out.al (by omega) (.cells #[.bool c1, .slice xa4 sz2.length xc4, .slice ya4 D4.length yc4] 24))
  have L170 : Hid (MidC (u109.heap.size) (v7.heap.size) u160 (ya3) (D3) (yc3)) := by rw [hu160]; exact (L149.out.al (by omega) (.cells #[.bool c1, .slice xa4 sz2.length xc4, .slice ya4 D4.length yc4] 24))
  have L171 : Hid (MidC (u130.heap.size) (v8.heap.size) u160 (xa4) (sz2) (xc4)) := by rw [hu160]; exact (L151.out.al (by omega) (.cells #[.bool c1, .slice xa4 sz2.length xc4, .slice ya4 D4.length yc4] 24))
  have L172 : Hid (MidC (u130.heap.size) (v8.heap.size) u160 (ya4) (D4) (yc4)) := by rw [hu160]; exact (L152.out.al (by omega) (.cells #[.bool c1, .slice xa4 sz2.length xc4, .slice ya4 D4.length yc4] 24))
  have hb173 : Hid (Below w.heap.size w u160) := by rw [hu160]; exact (hb150.out.alloc (by omega) (.cells #[.bool c1, .slice xa4 sz2.length xc4, .slice ya4 D4.length yc4] 24))
  have zu160 : w.heap.size ≤ u160.heap.size := hb173.out.size
  clear hu160 n153 l154 l155 l156 l157 l158 l159 hb150 B142 B143 B144 B145 L146 L147 L148 L149 L151 L152
  refine (jn_ok (xn : Int) (by unfold In64; omega) c1 xa4 xc4 sz2 ya4 yc4 D4 c1 xa3 xc3 sz1 ya3 yc3 D3 _ (by have := L4.out.1; omega) (by have := L4.out.2.1; omega) (L171.out.is (by omega)) (L172.out.is (by omega)) L4.out.2.2 (by have := L3.out.1; omega) (by have := L3.out.2.1; omega) (L169.out.is (by omega)) (L170.out.is (by omega)) L3.out.2.2 S5 D5 HJ ⟨HM.out.2.2.2.1, HS5.out, HD5.out⟩).mono ?_
  rintro e v9 ⟨xa5, xc5, ya5, yc5, rfl, hX5, hY5, hB⟩
  have z174 : u160.heap.size ≤ v9.heap.size := hB.size
  have B175 : Hid (Abx v9 (w.heap.size) (.bool c1) (.slice (some ⟨bs, os, none⟩) sz1.length sc1) (.slice da1 dz1.length dc1)) := B162.out.go hB
  have B176 : Hid (Abx v9 (w.heap.size + 1) (.bool c1) (.slice sa2 sz2.length sc2) (.slice da2 dz2.length dc2)) := B163.out.go hB
  have B177 : Hid (Abx v9 (v5.heap.size) (.bool c1) (.slice xa2 S1.length xc2) (.slice ya2 D2.length yc2)) := B164.out.go hB
  have B178 : Hid (Abx v9 (v7.heap.size) (.bool c1) (.slice xa3 sz1.length xc3) (.slice ya3 D3.length yc3)) := B165.out.go hB
  have B179 : Hid (Abx v9 (v8.heap.size) (.bool c1) (.slice xa4 sz2.length xc4) (.slice ya4 D4.length yc4)) := B166.out.go hB
  have L180 : Hid (MidC (u83.heap.size) (v6.heap.size) v9 (xa2) (S1) (xc2)) := L167.out.go (by omega) hB
  have L181 : Hid (MidC (u83.heap.size) (v6.heap.size) v9 (ya2) (D2) (yc2)) := L168.out.go (by omega) hB
  have L182 : Hid (MidC (u109.heap.size) (v7.heap.size) v9 (xa3) (sz1) (xc3)) := L169.out.go (by omega) hB
  have L183 : Hid (MidC (u109.heap.size) (v7.heap.size) v9 (ya3) (D3) (yc3)) := L170.out.go (by omega) hB
  have L184 : Hid (MidC (u130.heap.size) (v8.heap.size) v9 (xa4) (sz2) (xc4)) := L171.out.go (by omega) hB
  have L185 : Hid (MidC (u130.heap.size) (v8.heap.size) v9 (ya4) (D4) (yc4)) := L172.out.go (by omega) hB
  have hb186 : Hid (Below w.heap.size w v9) := hb173.out.trans (hB.mono hb173.out.size)
  have L187 : Hid (MidC (u160.heap.size) (v9.heap.size) v9 (xa5) (S5) (xc5)) := hX5.midc
  have L188 : Hid (MidC (u160.heap.size) (v9.heap.size) v9 (ya5) (D5) (yc5)) := hY5.midc
  clear hB hb173 B162 B163 B164 B165 B166 L167 L168 L169 L170 L171 L172 hX5 hY5
  clear L184 L185 B179 B176
  have n189 := Abx.new v9 (.bool c1) (.slice xa5 S5.length xc5) (.slice ya5 D5.length yc5)
  have l190 := ((B177.out.al (.cells #[.bool c1, .slice xa5 S5.length xc5, .slice ya5 D5.length yc5] 24))).c0
  have l191 := ((B177.out.al (.cells #[.bool c1, .slice xa5 S5.length xc5, .slice ya5 D5.length yc5] 24))).c1
  have l192 := ((B177.out.al (.cells #[.bool c1, .slice xa5 S5.length xc5, .slice ya5 D5.length yc5] 24))).c2
  have l193 := (n189).c0
  have l194 := (n189).c1
  have l195 := (n189).c2
  go_wp2_with fail
  obtain ⟨u196, hu196⟩ : ∃ u196, u196 = (v9.alloc (.cells #[.bool c1, .slice xa5 S5.length xc5, .slice ya5 D5.length yc5] 24)) := ⟨_, rfl⟩
  rw [← hu196]
  have z197 : v9.heap.size + 1 ≤ u196.heap.size := by rw [hu196]; simp only [World.size_alloc]; omega
  have B198 : Hid (Abx u196 (w.heap.size) (.bool c1) (.slice (some ⟨bs, os, none⟩) sz1.length sc1) (.slice da1 dz1.length dc1)) := by rw [hu196]; exact (B175.out.al (.cells #[.bool c1, .slice xa5 S5.length xc5, .slice ya5 D5.length yc5] 24))
  have B199 : Hid (Abx u196 (v5.heap.size) (.bool c1) (.slice xa2 S1.length xc2) (.slice ya2 D2.length yc2)) := by rw [hu196]; exact (B177.out.al (.cells #[.bool c1, .slice xa5 S5.length xc5, .slice ya5 D5.length yc5] 24))
  have B200 : Hid (Abx u196 (v7.heap.size) (.bool c1) (.slice xa3 sz1.length xc3) (.slice ya3 D3.length yc3)) := by rw [hu196]; exact (B178.out.al (.cells #[.bool c1, .slice xa5 S5.length xc5, .slice ya5 D5.length yc5] 24))
  have B201 : Hid (Abx u196 (v9.heap.size) (.bool c1) (.slice xa5 S5.length xc5) (.slice ya5 D5.length yc5)) := by rw [hu196]; exact n189
  have L202 : Hid (MidC (u83.heap.size) (v6.heap.size) u196 (xa2) (S1) (xc2)) := by rw [hu196]; exact (L180.out.al (by omega) (.cells #[.bool c1, .slice xa5 S5.length xc5, .slice ya5 D5.length yc5] 24))
  have L203 : Hid (MidC (u83.heap.size) (v6.heap.size) u196 (ya2) (D2) (yc2)) := by rw [hu196]; exact (L181.out.al (by omega) (.cells #[.bool c1, .slice xa5 S5.length xc5, .slice ya5 D5.length yc5] 24))
  have L204 : Hid (MidC (u109.heap.size) (v7.heap.size) u196 (xa3) (sz1) (xc3)) := by rw [hu196]; exact (L182.out.al (by omega) (.cells #[.bool c1, .slice xa5 S5.length xc5, .slice ya5 D5.length yc5] 24))
  have L205 : Hid (MidC (u109.heap.size) (v7.heap.size) u196 (ya3) (D3) (yc3)) := by rw [hu196]; exact (L183.out.al (by omega) (.cells #[.bool c1, .slice xa5 S5.length xc5, .slice ya5 D5.length yc5] 24))
  have L206 : Hid (MidC (u160.heap.size) (v9.heap.size) u196 (xa5) (S5) (xc5)) := by rw [hu196]; exact (L187.out.al (by omega) (.cells #[.bool c1, .slice xa5 S5.length xc5, .slice ya5 D5.length yc5] 24))
  have L207 : Hid (MidC (u160.heap.size) (v9.heap.size) u196 (ya5) (D5) (yc5)) := by rw [hu196]; exact (L188.out.al (by omega) (.cells #[.bool c1, .slice xa5 S5.length xc5, .slice ya5 D5.length yc5] 24))
  have hb208 : Hid (Below w.heap.size w u196) := by rw [hu196]; exact (hb186.out.alloc (by omega) (.cells #[.bool c1, .slice xa5 S5.length xc5, .slice ya5 D5.length yc5] 24))
  have zu196 : w.heap.size ≤ u196.heap.size := hb208.out.size
  clear hu196 n189 l190 l191 l192 l193 l194 l195 hb186 B175 B177 B178 L180 L181 L182 L183 L187 L188
  refine (alike_eq c1 xa2 xc2 S1 ya2 yc2 D2 xa5 xc5 S5 ya5 yc5 D5 HM.out.2.2.2.2.1 HM.out.2.2.2.2.2 (by have := L2.out.1; omega) (by have := L2.out.2.1; omega) _ (L202.out.is (by omega)) (L203.out.is (by omega)).1 (L206.out.is (by omega)) (L207.out.is (by omega)).1).mono ?_
  rintro e v10 ⟨rfl, hB⟩
  have z209 : u196.heap.size ≤ v10.heap.size := hB.size
  have B210 : Hid (Abx v10 (w.heap.size) (.bool c1) (.slice (some ⟨bs, os, none⟩) sz1.length sc1) (.slice da1 dz1.length dc1)) := B198.out.go hB
  have B211 : Hid (Abx v10 (v5.heap.size) (.bool c1) (.slice xa2 S1.length xc2) (.slice ya2 D2.length yc2)) := B199.out.go hB
  have B212 : Hid (Abx v10 (v7.heap.size) (.bool c1) (.slice xa3 sz1.length xc3) (.slice ya3 D3.length yc3)) := B200.out.go hB
  have B213 : Hid (Abx v10 (v9.heap.size) (.bool c1) (.slice xa5 S5.length xc5) (.slice ya5 D5.length yc5)) := B201.out.go hB
  have L214 : Hid (MidC (u83.heap.size) (v6.heap.size) v10 (xa2) (S1) (xc2)) := L202.out.go (by omega) hB
  have L215 : Hid (MidC (u83.heap.size) (v6.heap.size) v10 (ya2) (D2) (yc2)) := L203.out.go (by omega) hB
  have L216 : Hid (MidC (u109.heap.size) (v7.heap.size) v10 (xa3) (sz1) (xc3)) := L204.out.go (by omega) hB
  have L217 : Hid (MidC (u109.heap.size) (v7.heap.size) v10 (ya3) (D3) (yc3)) := L205.out.go (by omega) hB
  have L218 : Hid (MidC (u160.heap.size) (v9.heap.size) v10 (xa5) (S5) (xc5)) := L206.out.go (by omega) hB
  have L219 : Hid (MidC (u160.heap.size) (v9.heap.size) v10 (ya5) (D5) (yc5)) := L207.out.go (by omega) hB
  have hb220 : Hid (Below w.heap.size w v10) := hb208.out.trans (hB.mono hb208.out.size)
  clear hB hb208 B198 B199 B200 B201 L202 L203 L204 L205 L206 L207
  clear L214 L215 L218 L219 B211 B213
  have l221 := (B210.out).c0
  have l222 := (B210.out).c1
  have l223 := (B210.out).c2
  have l224 := HC.out _ hb220.out
  go_wp2_with fail
  clear l221 l222 l223 l224 t2 t3
  refine (copy_c (some ⟨bs, os, none⟩) sc1 sz1 (by omega) _ ((HI1.out.1.1.below hb220.out).mono hb220.out.size)).mono ?_
  rintro e v11 ⟨ga, gc, rfl, hH, hB⟩
  have z225 : v10.heap.size ≤ v11.heap.size := hB.size
  have B226 : Hid (Abx v11 (w.heap.size) (.bool c1) (.slice (some ⟨bs, os, none⟩) sz1.length sc1) (.slice da1 dz1.length dc1)) := B210.out.go hB
  have B227 : Hid (Abx v11 (v7.heap.size) (.bool c1) (.slice xa3 sz1.length xc3) (.slice ya3 D3.length yc3)) := B212.out.go hB
  have L228 : Hid (MidC (u109.heap.size) (v7.heap.size) v11 (xa3) (sz1) (xc3)) := L216.out.go (by omega) hB
  have L229 : Hid (MidC (u109.heap.size) (v7.heap.size) v11 (ya3) (D3) (yc3)) := L217.out.go (by omega) hB
  have hb230 : Hid (Below w.heap.size w v11) := hb220.out.trans (hB.mono hb220.out.size)
  have L231 : Hid (MidC (v10.heap.size) (v11.heap.size) v11 (ga) (sz1) (gc)) := hH.midc
  clear hB hb220 B210 B212 L216 L217 hH
  obtain ⟨hb, ho, e8, hh1, hh2, _⟩ := L231.out.at hxl
  cases e8
  obtain ⟨l232b, l232o, l232e, _, _, l232, l232f⟩ := (L231.out).at (i := xn) hxl
  cases l232e
  have l233 := ((B226.out.ot (a := ⟨hb, ho + xn, none⟩) (by show w.heap.size ≠ hb; omega) (.int .i64 (n)))).c0
  have l234 := ((B226.out.ot (a := ⟨hb, ho + xn, none⟩) (by show w.heap.size ≠ hb; omega) (.int .i64 (n)))).c1
  have l235 := ((B226.out.ot (a := ⟨hb, ho + xn, none⟩) (by show w.heap.size ≠ hb; omega) (.int .i64 (n)))).c2
  go_wp2_with fail
  obtain ⟨u236, hu236⟩ : ∃ u236, u236 = (v11.setCell ⟨hb, ho + xn, none⟩ (.int .i64 (n))) := ⟨_, rfl⟩
  rw [← hu236]
  have z237 : v11.heap.size ≤ u236.heap.size := by rw [hu236]; simp only [World.size_setCell]; omega
  have B238 : Hid (Abx u236 (w.heap.size) (.bool c1) (.slice (some ⟨bs, os, none⟩) sz1.length sc1) (.slice da1 dz1.length dc1)) := by rw [hu236]; exact (B226.out.ot (a := ⟨hb, ho + xn, none⟩) (by show w.heap.size ≠ hb; omega) (.int .i64 (n)))
  have B239 : Hid (Abx u236 (v7.heap.size) (.bool c1) (.slice xa3 sz1.length xc3) (.slice ya3 D3.length yc3)) := by rw [hu236]; exact (B227.out.ot (a := ⟨hb, ho + xn, none⟩) (by show v7.heap.size ≠ hb; omega) (.int .i64 (n)))
  have L240 : Hid (MidC (u109.heap.size) (v7.heap.size) u236 (xa3) (sz1) (xc3)) := by rw [hu236]; exact (L228.out.s1 (p := ⟨hb, ho + xn, none⟩) (by show hb < u109.heap.size ∨ v7.heap.size ≤ hb; omega) (.int .i64 (n)))
  have L241 : Hid (MidC (u109.heap.size) (v7.heap.size) u236 (ya3) (D3) (yc3)) := by rw [hu236]; exact (L229.out.s1 (p := ⟨hb, ho + xn, none⟩) (by show hb < u109.heap.size ∨ v7.heap.size ≤ hb; omega) (.int .i64 (n)))
  have L242 : Hid (MidC (v10.heap.size) (v11.heap.size) u236 (some ⟨hb, ho, none⟩) (sz1.set xn n) (gc)) := by rw [hu236]; exact (L231.out.put hxl (n))
  have hb243 : Hid (Below w.heap.size w u236) := by rw [hu236]; exact (hb230.out.setCell (p := ⟨hb, ho + xn, none⟩) (by show w.heap.size ≤ hb; omega) (.int .i64 (n)))
  have zu236 : w.heap.size ≤ u236.heap.size := hb243.out.size
  clear hu236 l232 l232f l233 l234 l235 hb230 B226 B227 L228 L229 L231
  refine (tk_okl (some ⟨hb, ho, none⟩) gc (sz1.set xn n) sz1.length (by rw [List.length_set]) c1 (some ⟨bs, os, none⟩) sc1 sz1 da1 dc1 dz1 _ (by rw [List.length_set]; omega) T1.out (L242.out.is (by omega)) x1_1 x2_1 ((HI1.out.1.below hb243.out).mono hb243.out.size) ((HI1.out.2.1.below hb243.out).mono hb243.out.size) HI1.out.2.2 S6 D6 HT HT1.out).mono ?_
  rintro e v12 ⟨xa6, xc6, ya6, yc6, rfl, hX6, hY6, hB⟩
  have z244 : u236.heap.size ≤ v12.heap.size := hB.size
  have B245 : Hid (Abx v12 (w.heap.size) (.bool c1) (.slice (some ⟨bs, os, none⟩) sz1.length sc1) (.slice da1 dz1.length dc1)) := B238.out.go hB
  have B246 : Hid (Abx v12 (v7.heap.size) (.bool c1) (.slice xa3 sz1.length xc3) (.slice ya3 D3.length yc3)) := B239.out.go hB
  have L247 : Hid (MidC (u109.heap.size) (v7.heap.size) v12 (xa3) (sz1) (xc3)) := L240.out.go (by omega) hB
  have L248 : Hid (MidC (u109.heap.size) (v7.heap.size) v12 (ya3) (D3) (yc3)) := L241.out.go (by omega) hB
  have L249 : Hid (MidC (v10.heap.size) (v11.heap.size) v12 (some ⟨hb, ho, none⟩) (sz1.set xn n) (gc)) := L242.out.go (by omega) hB
  have hb250 : Hid (Below w.heap.size w v12) := hb243.out.trans (hB.mono hb243.out.size)
  have L251 : Hid (MidC (u236.heap.size) (v12.heap.size) v12 (xa6) (S6) (xc6)) := hX6.midc
  have L252 : Hid (MidC (u236.heap.size) (v12.heap.size) v12 (ya6) (D6) (yc6)) := hY6.midc
  clear hB hb243 B238 B239 L240 L241 L242 hX6 hY6
  have n253 := Abx.new v12 (.bool c1) (.slice xa6 S6.length xc6) (.slice ya6 D6.length yc6)
  have l254 := (n253).c0
  have l255 := (n253).c1
  have l256 := (n253).c2
  go_wp2_with fail
  obtain ⟨u257, hu257⟩ : ∃ u257, u257 = (v12.alloc (.cells #[.bool c1, .slice xa6 S6.length xc6, .slice ya6 D6.length yc6] 24)) := ⟨_, rfl⟩
  rw [← hu257]
  have z258 : v12.heap.size + 1 ≤ u257.heap.size := by rw [hu257]; simp only [World.size_alloc]; omega
  have B259 : Hid (Abx u257 (w.heap.size) (.bool c1) (.slice (some ⟨bs, os, none⟩) sz1.length sc1) (.slice da1 dz1.length dc1)) := by rw [hu257]; exact (B245.out.al (.cells #[.bool c1, .slice xa6 S6.length xc6, .slice ya6 D6.length yc6] 24))
  have B260 : Hid (Abx u257 (v7.heap.size) (.bool c1) (.slice xa3 sz1.length xc3) (.slice ya3 D3.length yc3)) := by rw [hu257]; exact (B246.out.al (.cells #[.bool c1, .slice xa6 S6.length xc6, .slice ya6 D6.length yc6] 24))
  have B261 : Hid (Abx u257 (v12.heap.size) (.bool c1) (.slice xa6 S6.length xc6) (.slice ya6 D6.length yc6)) := by rw [hu257]; exact n253
  have L262 : Hid (MidC (u109.heap.size) (v7.heap.size) u257 (xa3) (sz1) (xc3)) := by rw [hu257]; exact (L247.out.al (by omega) (.cells #[.bool c1, .slice xa6 S6.length xc6, .slice ya6 D6.length yc6] 24))
  have L263 : Hid (MidC (u109.heap.size) (v7.heap.size) u257 (ya3) (D3) (yc3)) := by rw [hu257]; exact (L248.out.al (by omega) (.cells #[.bool c1, .slice xa6 S6.length xc6, .slice ya6 D6.length yc6] 24))
  have L264 : Hid (MidC (v10.heap.size) (v11.heap.size) u257 (some ⟨hb, ho, none⟩) (sz1.set xn n) (gc)) := by rw [hu257]; exact (L249.out.al (by omega) (.cells #[.bool c1, .slice xa6 S6.length xc6, .slice ya6 D6.length yc6] 24))
  have L265 : Hid (MidC (u236.heap.size) (v12.heap.size) u257 (xa6) (S6) (xc6)) := by rw [hu257]; exact (L251.out.al (by omega) (.cells #[.bool c1, .slice xa6 S6.length xc6, .slice ya6 D6.length yc6] 24))
  have L266 : Hid (MidC (u236.heap.size) (v12.heap.size) u257 (ya6) (D6) (yc6)) := by rw [hu257]; exact (L252.out.al (by omega) (.cells #[.bool c1, .slice xa6 S6.length xc6, .slice ya6 D6.length yc6] 24))
  have hb267 : Hid (Below w.heap.size w u257) := by rw [hu257]; exact (hb250.out.alloc (by omega) (.cells #[.bool c1, .slice xa6 S6.length xc6, .slice ya6 D6.length yc6] 24))
  have zu257 : w.heap.size ≤ u257.heap.size := hb267.out.size
  clear hu257 n253 l254 l255 l256 hb250 B245 B246 L247 L248 L249 L251 L252
  refine (rvb_ok c1 xa6 xc6 S6 ya6 yc6 D6 _ (by have := L6.out.1; omega) (by have := L6.out.2.1; omega) (L265.out.is (by omega)) (L266.out.is (by omega)) L6.out.2.2 D7 HR (xn : Int) (by unfold In64; omega) ⟨HT2.out.1, HD7.out⟩).mono ?_
  rintro e v13 ⟨xa7, xc7, ya7, yc7, rfl, hX7, hY7, hB⟩
  have z268 : u257.heap.size ≤ v13.heap.size := hB.size
  have B269 : Hid (Abx v13 (w.heap.size) (.bool c1) (.slice (some ⟨bs, os, none⟩) sz1.length sc1) (.slice da1 dz1.length dc1)) := B259.out.go hB
  have B270 : Hid (Abx v13 (v7.heap.size) (.bool c1) (.slice xa3 sz1.length xc3) (.slice ya3 D3.length yc3)) := B260.out.go hB
  have B271 : Hid (Abx v13 (v12.heap.size) (.bool c1) (.slice xa6 S6.length xc6) (.slice ya6 D6.length yc6)) := B261.out.go hB
  have L272 : Hid (MidC (u109.heap.size) (v7.heap.size) v13 (xa3) (sz1) (xc3)) := L262.out.go (by omega) hB
  have L273 : Hid (MidC (u109.heap.size) (v7.heap.size) v13 (ya3) (D3) (yc3)) := L263.out.go (by omega) hB
  have L274 : Hid (MidC (v10.heap.size) (v11.heap.size) v13 (some ⟨hb, ho, none⟩) (sz1.set xn n) (gc)) := L264.out.go (by omega) hB
  have L275 : Hid (MidC (u236.heap.size) (v12.heap.size) v13 (xa6) (S6) (xc6)) := L265.out.go (by omega) hB
  have L276 : Hid (MidC (u236.heap.size) (v12.heap.size) v13 (ya6) (D6) (yc6)) := L266.out.go (by omega) hB
  have hb277 : Hid (Below w.heap.size w v13) := hb267.out.trans (hB.mono hb267.out.size)
  have L278 : Hid (MidC (u257.heap.size) (v13.heap.size) v13 (xa7) (S6) (xc7)) := hX7.midc
  have L279 : Hid (MidC (u257.heap.size) (v13.heap.size) v13 (ya7) (D7) (yc7)) := hY7.midc
  clear hB hb267 B259 B260 B261 L262 L263 L264 L265 L266 hX7 hY7
  clear L275 L276
  have l280 := (B271.out).fr 0
  have l281 := (B271.out).c0
  have l282 := (B271.out).fr 1
  have l283 := (B271.out).c1
  have l284 := (B271.out).fr 2
  have l285 := (B271.out).c2
  obtain ⟨l286b, l286o, l286e, _, _, l286, l286f⟩ := ((L274.out.s3 (b := v12.heap.size) (by omega) (.bool c1) (.slice xa7 S6.length xc7) (.slice ya7 D7.length yc7))).at (i := xn) hsl
  cases l286e
  have l287 := (((abx_o3 B270.out (B := v12.heap.size) (by omega) (.bool c1) (.slice xa7 S6.length xc7) (.slice ya7 D7.length yc7)).ot (a := ⟨hb, ho + xn, none⟩) (by show v7.heap.size ≠ hb; omega) (.int .i64 (-n)))).c0
  have l288 := (((abx_o3 B270.out (B := v12.heap.size) (by omega) (.bool c1) (.slice xa7 S6.length xc7) (.slice ya7 D7.length yc7)).ot (a := ⟨hb, ho + xn, none⟩) (by show v7.heap.size ≠ hb; omega) (.int .i64 (-n)))).c1
  have l289 := (((abx_o3 B270.out (B := v12.heap.size) (by omega) (.bool c1) (.slice xa7 S6.length xc7) (.slice ya7 D7.length yc7)).ot (a := ⟨hb, ho + xn, none⟩) (by show v7.heap.size ≠ hb; omega) (.int .i64 (-n)))).c2
  go_wp2_with fail
  obtain ⟨u290, hu290⟩ : ∃ u290, u290 = ((((v13.setCell ⟨v12.heap.size, 0, none⟩ (.bool c1)).setCell ⟨v12.heap.size, 1, none⟩ (.slice xa7 S6.length xc7)).setCell ⟨v12.heap.size, 2, none⟩ (.slice ya7 D7.length yc7)).setCell ⟨hb, ho + xn, none⟩ (.int .i64 (-n))) := ⟨_, rfl⟩
  rw [← hu290]
  have z291 : v13.heap.size ≤ u290.heap.size := by rw [hu290]; simp only [World.size_setCell]; omega
  have B292 : Hid (Abx u290 (w.heap.size) (.bool c1) (.slice (some ⟨bs, os, none⟩) sz1.length sc1) (.slice da1 dz1.length dc1)) := by rw [hu290]; exact ((abx_o3 B269.out (B := v12.heap.size) (by omega) (.bool c1) (.slice xa7 S6.length xc7) (.slice ya7 D7.length yc7)).ot (a := ⟨hb, ho + xn, none⟩) (by show w.heap.size ≠ hb; omega) (.int .i64 (-n)))
  have B293 : Hid (Abx u290 (v7.heap.size) (.bool c1) (.slice xa3 sz1.length xc3) (.slice ya3 D3.length yc3)) := by rw [hu290]; exact ((abx_o3 B270.out (B := v12.heap.size) (by omega) (.bool c1) (.slice xa7 S6.length xc7) (.slice ya7 D7.length yc7)).ot (a := ⟨hb, ho + xn, none⟩) (by show v7.heap.size ≠ hb; omega) (.int .i64 (-n)))
  have B294 : Hid (Abx u290 (v12.heap.size) (.bool c1) (.slice xa7 S6.length xc7) (.slice ya7 D7.length yc7)) := by rw [hu290]; exact ((B271.out.set3 (.bool c1) (.slice xa7 S6.length xc7) (.slice ya7 D7.length yc7)).ot (a := ⟨hb, ho + xn, none⟩) (by show v12.heap.size ≠ hb; omega) (.int .i64 (-n)))
  have L295 : Hid (MidC (u109.heap.size) (v7.heap.size) u290 (xa3) (sz1) (xc3)) := by rw [hu290]; exact ((L272.out.s3 (b := v12.heap.size) (by omega) (.bool c1) (.slice xa7 S6.length xc7) (.slice ya7 D7.length yc7)).s1 (p := ⟨hb, ho + xn, none⟩) (by show hb < u109.heap.size ∨ v7.heap.size ≤ hb; omega) (.int .i64 (-n)))
  have L296 : Hid (MidC (u109.heap.size) (v7.heap.size) u290 (ya3) (D3) (yc3)) := by rw [hu290]; exact ((L273.out.s3 (b := v12.heap.size) (by omega) (.bool c1) (.slice xa7 S6.length xc7) (.slice ya7 D7.length yc7)).s1 (p := ⟨hb, ho + xn, none⟩) (by show hb < u109.heap.size ∨ v7.heap.size ≤ hb; omega) (.int .i64 (-n)))
  have L297 : Hid (MidC (v10.heap.size) (v11.heap.size) u290 (some ⟨hb, ho, none⟩) ((sz1.set xn n).set xn (-n)) (gc)) := by rw [hu290]; exact ((L274.out.s3 (b := v12.heap.size) (by omega) (.bool c1) (.slice xa7 S6.length xc7) (.slice ya7 D7.length yc7)).put hsl (-n))
  have L298 : Hid (MidC (u257.heap.size) (v13.heap.size) u290 (xa7) (S6) (xc7)) := by rw [hu290]; exact ((L278.out.s3 (b := v12.heap.size) (by omega) (.bool c1) (.slice xa7 S6.length xc7) (.slice ya7 D7.length yc7)).s1 (p := ⟨hb, ho + xn, none⟩) (by show hb < u257.heap.size ∨ v13.heap.size ≤ hb; omega) (.int .i64 (-n)))
  have L299 : Hid (MidC (u257.heap.size) (v13.heap.size) u290 (ya7) (D7) (yc7)) := by rw [hu290]; exact ((L279.out.s3 (b := v12.heap.size) (by omega) (.bool c1) (.slice xa7 S6.length xc7) (.slice ya7 D7.length yc7)).s1 (p := ⟨hb, ho + xn, none⟩) (by show hb < u257.heap.size ∨ v13.heap.size ≤ hb; omega) (.int .i64 (-n)))
  have hb300 : Hid (Below w.heap.size w u290) := by rw [hu290]; exact ((bel_s3 hb277.out (B := v12.heap.size) (by omega) (.bool c1) (.slice xa7 S6.length xc7) (.slice ya7 D7.length yc7)).setCell (p := ⟨hb, ho + xn, none⟩) (by show w.heap.size ≤ hb; omega) (.int .i64 (-n)))
  have zu290 : w.heap.size ≤ u290.heap.size := hb300.out.size
  clear hu290 l280 l281 l282 l283 l284 l285 l286 l286f l287 l288 l289 hb277 B269 B270 B271 L272 L273 L274 L278 L279
  refine (tk_okl (some ⟨hb, ho, none⟩) gc ((sz1.set xn n).set xn (-n)) sz1.length (by rw [List.length_set, List.length_set]) c1 xa3 xc3 sz1 ya3 yc3 D3 _ (by rw [List.length_set, List.length_set]; omega) T2.out (L297.out.is (by omega)) (by have := L3.out.1; omega) (by have := L3.out.2.1; omega) (L295.out.is (by omega)) (L296.out.is (by omega)) L3.out.2.2 S6 D7 HT HT2.out.2).mono ?_
  rintro e v14 ⟨xa8, xc8, ya8, yc8, rfl, hX8, hY8, hB⟩
  have z301 : u290.heap.size ≤ v14.heap.size := hB.size
  have B302 : Hid (Abx v14 (w.heap.size) (.bool c1) (.slice (some ⟨bs, os, none⟩) sz1.length sc1) (.slice da1 dz1.length dc1)) := B292.out.go hB
  have B303 : Hid (Abx v14 (v7.heap.size) (.bool c1) (.slice xa3 sz1.length xc3) (.slice ya3 D3.length yc3)) := B293.out.go hB
  have B304 : Hid (Abx v14 (v12.heap.size) (.bool c1) (.slice xa7 S6.length xc7) (.slice ya7 D7.length yc7)) := B294.out.go hB
  have L305 : Hid (MidC (u109.heap.size) (v7.heap.size) v14 (xa3) (sz1) (xc3)) := L295.out.go (by omega) hB
  have L306 : Hid (MidC (u109.heap.size) (v7.heap.size) v14 (ya3) (D3) (yc3)) := L296.out.go (by omega) hB
  have L307 : Hid (MidC (v10.heap.size) (v11.heap.size) v14 (some ⟨hb, ho, none⟩) ((sz1.set xn n).set xn (-n)) (gc)) := L297.out.go (by omega) hB
  have L308 : Hid (MidC (u257.heap.size) (v13.heap.size) v14 (xa7) (S6) (xc7)) := L298.out.go (by omega) hB
  have L309 : Hid (MidC (u257.heap.size) (v13.heap.size) v14 (ya7) (D7) (yc7)) := L299.out.go (by omega) hB
  have hb310 : Hid (Below w.heap.size w v14) := hb300.out.trans (hB.mono hb300.out.size)
  have L311 : Hid (MidC (u290.heap.size) (v14.heap.size) v14 (xa8) (S6) (xc8)) := hX8.midc
  have L312 : Hid (MidC (u290.heap.size) (v14.heap.size) v14 (ya8) (D7) (yc8)) := hY8.midc
  clear hB hb300 B292 B293 B294 L295 L296 L297 L298 L299 hX8 hY8
  have n313 := Abx.new v14 (.bool c1) (.slice xa8 S6.length xc8) (.slice ya8 D7.length yc8)
  have l314 := ((B304.out.al (.cells #[.bool c1, .slice xa8 S6.length xc8, .slice ya8 D7.length yc8] 24))).c0
  have l315 := ((B304.out.al (.cells #[.bool c1, .slice xa8 S6.length xc8, .slice ya8 D7.length yc8] 24))).c1
  have l316 := ((B304.out.al (.cells #[.bool c1, .slice xa8 S6.length xc8, .slice ya8 D7.length yc8] 24))).c2
  have l317 := (n313).c0
  have l318 := (n313).c1
  have l319 := (n313).c2
  go_wp2_with fail
  obtain ⟨u320, hu320⟩ : ∃ u320, u320 = (v14.alloc (.cells #[.bool c1, .slice xa8 S6.length xc8, .slice ya8 D7.length yc8] 24)) := ⟨_, rfl⟩
  rw [← hu320]
  have z321 : v14.heap.size + 1 ≤ u320.heap.size := by rw [hu320]; simp only [World.size_alloc]; omega
  have B322 : Hid (Abx u320 (w.heap.size) (.bool c1) (.slice (some ⟨bs, os, none⟩) sz1.length sc1) (.slice da1 dz1.length dc1)) := by rw [hu320]; exact (B302.out.al (.cells #[.bool c1, .slice xa8 S6.length xc8, .slice ya8 D7.length yc8] 24))
  have B323 : Hid (Abx u320 (v7.heap.size) (.bool c1) (.slice xa3 sz1.length xc3) (.slice ya3 D3.length yc3)) := by rw [hu320]; exact (B303.out.al (.cells #[.bool c1, .slice xa8 S6.length xc8, .slice ya8 D7.length yc8] 24))
  have B324 : Hid (Abx u320 (v12.heap.size) (.bool c1) (.slice xa7 S6.length xc7) (.slice ya7 D7.length yc7)) := by rw [hu320]; exact (B304.out.al (.cells #[.bool c1, .slice xa8 S6.length xc8, .slice ya8 D7.length yc8] 24))
  have B325 : Hid (Abx u320 (v14.heap.size) (.bool c1) (.slice xa8 S6.length xc8) (.slice ya8 D7.length yc8)) := by rw [hu320]; exact n313
  have L326 : Hid (MidC (u109.heap.size) (v7.heap.size) u320 (xa3) (sz1) (xc3)) := by rw [hu320]; exact (L305.out.al (by omega) (.cells #[.bool c1, .slice xa8 S6.length xc8, .slice ya8 D7.length yc8] 24))
  have L327 : Hid (MidC (u109.heap.size) (v7.heap.size) u320 (ya3) (D3) (yc3)) := by rw [hu320]; exact (L306.out.al (by omega) (.cells #[.bool c1, .slice xa8 S6.length xc8, .slice ya8 D7.length yc8] 24))
  have L328 : Hid (MidC (v10.heap.size) (v11.heap.size) u320 (some ⟨hb, ho, none⟩) ((sz1.set xn n).set xn (-n)) (gc)) := by rw [hu320]; exact (L307.out.al (by omega) (.cells #[.bool c1, .slice xa8 S6.length xc8, .slice ya8 D7.length yc8] 24))
  have L329 : Hid (MidC (u257.heap.size) (v13.heap.size) u320 (xa7) (S6) (xc7)) := by rw [hu320]; exact (L308.out.al (by omega) (.cells #[.bool c1, .slice xa8 S6.length xc8, .slice ya8 D7.length yc8] 24))
  have L330 : Hid (MidC (u257.heap.size) (v13.heap.size) u320 (ya7) (D7) (yc7)) := by rw [hu320]; exact (L309.out.al (by omega) (.cells #[.bool c1, .slice xa8 S6.length xc8, .slice ya8 D7.length yc8] 24))
  have L331 : Hid (MidC (u290.heap.size) (v14.heap.size) u320 (xa8) (S6) (xc8)) := by rw [hu320]; exact (L311.out.al (by omega) (.cells #[.bool c1, .slice xa8 S6.length xc8, .slice ya8 D7.length yc8] 24))
  have L332 : Hid (MidC (u290.heap.size) (v14.heap.size) u320 (ya8) (D7) (yc8)) := by rw [hu320]; exact (L312.out.al (by omega) (.cells #[.bool c1, .slice xa8 S6.length xc8, .slice ya8 D7.length yc8] 24))
  have hb333 : Hid (Below w.heap.size w u320) := by rw [hu320]; exact (hb310.out.alloc (by omega) (.cells #[.bool c1, .slice xa8 S6.length xc8, .slice ya8 D7.length yc8] 24))
  have zu320 : w.heap.size ≤ u320.heap.size := hb333.out.size
  clear hu320 n313 l314 l315 l316 l317 l318 l319 hb310 B302 B303 B304 L305 L306 L307 L308 L309 L311 L312
  refine (alike_eq c1 xa7 xc7 S6 ya7 yc7 D7 xa8 xc8 S6 ya8 yc8 D7 rfl rfl (by have := L7.out.1; omega) (by have := L7.out.2.1; omega) _ (L329.out.is (by omega)) (L330.out.is (by omega)).1 (L331.out.is (by omega)) (L332.out.is (by omega)).1).mono ?_
  rintro e v15 ⟨rfl, hB⟩
  have z334 : u320.heap.size ≤ v15.heap.size := hB.size
  have B335 : Hid (Abx v15 (w.heap.size) (.bool c1) (.slice (some ⟨bs, os, none⟩) sz1.length sc1) (.slice da1 dz1.length dc1)) := B322.out.go hB
  have B336 : Hid (Abx v15 (v7.heap.size) (.bool c1) (.slice xa3 sz1.length xc3) (.slice ya3 D3.length yc3)) := B323.out.go hB
  have B337 : Hid (Abx v15 (v12.heap.size) (.bool c1) (.slice xa7 S6.length xc7) (.slice ya7 D7.length yc7)) := B324.out.go hB
  have B338 : Hid (Abx v15 (v14.heap.size) (.bool c1) (.slice xa8 S6.length xc8) (.slice ya8 D7.length yc8)) := B325.out.go hB
  have L339 : Hid (MidC (u109.heap.size) (v7.heap.size) v15 (xa3) (sz1) (xc3)) := L326.out.go (by omega) hB
  have L340 : Hid (MidC (u109.heap.size) (v7.heap.size) v15 (ya3) (D3) (yc3)) := L327.out.go (by omega) hB
  have L341 : Hid (MidC (v10.heap.size) (v11.heap.size) v15 (some ⟨hb, ho, none⟩) ((sz1.set xn n).set xn (-n)) (gc)) := L328.out.go (by omega) hB
  have L342 : Hid (MidC (u257.heap.size) (v13.heap.size) v15 (xa7) (S6) (xc7)) := L329.out.go (by omega) hB
  have L343 : Hid (MidC (u257.heap.size) (v13.heap.size) v15 (ya7) (D7) (yc7)) := L330.out.go (by omega) hB
  have L344 : Hid (MidC (u290.heap.size) (v14.heap.size) v15 (xa8) (S6) (xc8)) := L331.out.go (by omega) hB
  have L345 : Hid (MidC (u290.heap.size) (v14.heap.size) v15 (ya8) (D7) (yc8)) := L332.out.go (by omega) hB
  have hb346 : Hid (Below w.heap.size w v15) := hb333.out.trans (hB.mono hb333.out.size)
  clear hB hb333 B322 B323 B324 B325 L326 L327 L328 L329 L330 L331 L332
  go_wp2_with fail
  go_ret
  exact ⟨rfl, hb346.out⟩
end Go.Proofs.Ytldjgacnjogbnab
