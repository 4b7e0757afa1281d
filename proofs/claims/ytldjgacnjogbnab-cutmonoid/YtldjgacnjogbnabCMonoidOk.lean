/-
  The walk of the statement CutMonoid, where nothing is wrong, given what the program tells.
-/
import Derived.Test.YtldjgacnjogbnabCMonoidWalk
namespace Go.Proofs.Ytldjgacnjogbnab
open Go.RowKit
set_option linter.unusedVariables false

set_option maxRecDepth 100000 in
set_option maxHeartbeats 8000000 in
theorem monoid_ok (HT : CTk) (HJ : CJn) (xn : Nat) (c1 : Bool) (bs os : Nat) (sc1 : Nat) (sz1 : List Int) (da1 : Option Addr) (dc1 : Nat) (dz1 : List Int) (sa2 : Option Addr) (sc2 : Nat) (sz2 : List Int) (da2 : Option Addr) (dc2 : Nat) (dz2 : List Int) (sa3 : Option Addr) (sc3 : Nat) (sz3 : List Int) (da3 : Option Addr) (dc3 : Nat) (dz3 : List Int) (w : World) (w9_1 : IsArrD w (some ⟨bs, os, none⟩) sz1 sc1 da1 dz1 dc1) (w9_2 : IsArrD w sa2 sz2 sc2 da2 dz2 dc2) (w9_3 : IsArrD w sa3 sz3 sc3 da3 dz3 dc3) (E1 : Hid (jnE (xn : Int) c1 sz1 dz1 c1 sz2 dz2 = 0)) (E2 : Hid (jnE (xn : Int) c1 (jnS xn sz1 sz2) (jnD xn sz1 dz1 sz2 dz2) c1 sz3 dz3 = 0)) :
    Calls Try.prog 3 #[.int .i64 (xn : Int), .agg #[.bool c1, .slice (some ⟨bs, os, none⟩) sz1.length sc1, .slice da1 dz1.length dc1], .agg #[.bool c1, .slice sa2 sz2.length sc2, .slice da2 dz2.length dc2], .agg #[.bool c1, .slice sa3 sz3.length sc3, .slice da3 dz3.length dc3]] w fun e w' => e = .returned (.bool true) ∧ Below w.heap.size w w' := by
  obtain ⟨x1_1, x2_1, x3, x4, s64, T⟩ := w9_1
  have HI1 : Hid (IsC w.heap.size w (some ⟨bs, os, none⟩) sz1 sc1 ∧ IsC w.heap.size w da1 dz1 dc1 ∧ ∀ j, In64 (nth dz1 j)) := ⟨x3, x4, T⟩
  clear x3 x4 T s64
  obtain ⟨x1_2, x2_2, x3, x4, s64, T⟩ := w9_2
  have HI2 : Hid (IsC w.heap.size w sa2 sz2 sc2 ∧ IsC w.heap.size w da2 dz2 dc2 ∧ ∀ j, In64 (nth dz2 j)) := ⟨x3, x4, T⟩
  clear x3 x4 T s64
  obtain ⟨x1_3, x2_3, x3, x4, s64, T⟩ := w9_3
  have HI3 : Hid (IsC w.heap.size w sa3 sz3 sc3 ∧ IsC w.heap.size w da3 dz3 dc3 ∧ ∀ j, In64 (nth dz3 j)) := ⟨x3, x4, T⟩
  clear x3 x4 T s64
  have F1 : Hid (flawE c1 sz1 dz1 = 0 ∧ xn < sz1.length) := ⟨(jnZ.1 E1.out).1, (jnZ.1 E1.out).2.2.2.1⟩
  have hxl := F1.out.2
  have hl6 : sz1.length ≤ 6 := (flawE_short F1.out.1).1
  have HK : Hid (AllIn sz1) := (errOf_zero.1 (flawE_zero F1.out.1).1).2.1
  have t2 : ¬ ((sz1.length : Int) ≤ (xn : Int)) := by omega
  obtain ⟨S1, hS1⟩ : ∃ S, S = jnS xn sz1 sz2 := ⟨_, rfl⟩
  obtain ⟨D1, hD1⟩ : ∃ D, D = jnD xn sz1 dz1 sz2 dz2 := ⟨_, rfl⟩
  have HS1 : Hid (jnS xn sz1 sz2 = S1 ∧ jnD xn sz1 dz1 sz2 dz2 = D1) := ⟨hS1.symm, hD1.symm⟩
  clear hS1 hD1
  obtain ⟨S2, hS2⟩ : ∃ S, S = jnS xn S1 sz3 := ⟨_, rfl⟩
  obtain ⟨D2, hD2⟩ : ∃ D, D = jnD xn S1 D1 sz3 dz3 := ⟨_, rfl⟩
  have HS2 : Hid (jnS xn S1 sz3 = S2 ∧ jnD xn S1 D1 sz3 dz3 = D2) := ⟨hS2.symm, hD2.symm⟩
  clear hS2 hD2
  obtain ⟨S3, hS3⟩ : ∃ S, S = jnS xn sz2 sz3 := ⟨_, rfl⟩
  obtain ⟨D3, hD3⟩ : ∃ D, D = jnD xn sz2 dz2 sz3 dz3 := ⟨_, rfl⟩
  have HS3 : Hid (jnS xn sz2 sz3 = S3 ∧ jnD xn sz2 dz2 sz3 dz3 = D3) := ⟨hS3.symm, hD3.symm⟩
  clear hS3 hD3
  obtain ⟨S4, hS4⟩ : ∃ S, S = jnS xn sz1 S3 := ⟨_, rfl⟩
  obtain ⟨D4, hD4⟩ : ∃ D, D = jnD xn sz1 dz1 S3 D3 := ⟨_, rfl⟩
  have HS4 : Hid (jnS xn sz1 S3 = S4 ∧ jnD xn sz1 dz1 S3 D3 = D4) := ⟨hS4.symm, hD4.symm⟩
  clear hS4 hD4
  obtain ⟨S5, hS5⟩ : ∃ S, S = sz1.set xn 0 := ⟨_, rfl⟩
  obtain ⟨D5, hD5⟩ : ∃ D, D = TA (sz1.set xn 0) (cel sz1 dz1) := ⟨_, rfl⟩
  have HS5 : Hid (sz1.set xn 0 = S5 ∧ TA (sz1.set xn 0) (cel sz1 dz1) = D5) := ⟨hS5.symm, hD5.symm⟩
  clear hS5 hD5
  have EE : Hid (jnE xn c1 S1 D1 c1 sz3 dz3 = 0) := by rw [← HS1.out.1, ← HS1.out.2]; exact E2.out
  have AA := jn_assoc E1.out E2.out
  rw [HS1.out.1, HS1.out.2, HS2.out.1, HS2.out.2, HS3.out.1, HS3.out.2, HS4.out.1, HS4.out.2] at AA
  have HA : Hid (jnE xn c1 sz2 dz2 c1 sz3 dz3 = 0 ∧ jnE xn c1 sz1 dz1 c1 S3 D3 = 0 ∧ S4 = S2 ∧ D4 = D2) := AA
  clear AA
  have NN := jn_none F1.out.1 hxl
  rw [HS5.out.2] at NN
  rw [HS5.out.1] at NN
  have HN : Hid _ := NN
  clear NN
  have L1 : Hid (S1.length ≤ 6 ∧ D1.length ≤ 4096 ∧ ∀ j, In64 (nth D1 j)) := by rw [← HS1.out.1, ← HS1.out.2]; exact jn_facts E1.out HI1.out.2.2 HI2.out.2.2
  have L2 : Hid (S2.length ≤ 6 ∧ D2.length ≤ 4096 ∧ ∀ j, In64 (nth D2 j)) := by rw [← HS2.out.1, ← HS2.out.2]; exact jn_facts EE.out L1.out.2.2 HI3.out.2.2
  have L3 : Hid (S3.length ≤ 6 ∧ D3.length ≤ 4096 ∧ ∀ j, In64 (nth D3 j)) := by rw [← HS3.out.1, ← HS3.out.2]; exact jn_facts HA.out.1 HI2.out.2.2 HI3.out.2.2
  have hz0 := (HK.out.nth xn).1
  have GT : Hid (tkE (sz1.set xn 0) c1 sz1 dz1 = 0 ∧ tkS (sz1.set xn 0) = S5 ∧ tkD (sz1.set xn 0) c1 sz1 dz1 = D5) := by rw [← HS5.out.2, ← HS5.out.1]; exact tk_head F1.out.1 hxl (Int.le_refl 0) hz0
  have L5 : Hid (S5.length ≤ 6 ∧ D5.length ≤ 4096 ∧ ∀ j, In64 (nth D5 j)) := by
    have e1 : errOf S5 = 0 := by rw [← GT.out.2.1]; exact (tkE_zero.1 GT.out.1).2.2.2
    have f1 : D5 = ptD c1 sz1 dz1 S5 (tkU sz1 (sz1.set xn 0)) := by rw [← GT.out.2.2, ← GT.out.2.1]; rfl
    refine ⟨(errOf_zero.1 e1).1, ?_, ?_⟩
    · rw [f1, ptD, TA_length]; exact (errS e1).2
    · rw [f1]; exact pt_64 e1 HI1.out.2.2
  have T1 : Hid (∀ j, In64 (nth (sz1.set xn 0) j)) := fun j => by rw [nth_set _ _ _ _ hxl]; split <;> first | (unfold In64; omega) | (have := HK.out.nth j; unfold In64; omega)
  have hd1 : dz1.length ≤ 4096 := (flawE_short F1.out.1).2
  have n1 := Abx.new w (.bool c1) (.slice (some ⟨bs, os, none⟩) sz1.length sc1) (.slice da1 dz1.length dc1)
  have n2 := Abx.new (w.alloc (.cells #[.bool c1, .slice (some ⟨bs, os, none⟩) sz1.length sc1, .slice da1 dz1.length dc1] 24)) (.bool c1) (.slice sa2 sz2.length sc2) (.slice da2 dz2.length dc2)
  simp only [World.size_alloc] at n2
  have n3 := Abx.new ((w.alloc (.cells #[.bool c1, .slice (some ⟨bs, os, none⟩) sz1.length sc1, .slice da1 dz1.length dc1] 24)).alloc (.cells #[.bool c1, .slice sa2 sz2.length sc2, .slice da2 dz2.length dc2] 24)) (.bool c1) (.slice sa3 sz3.length sc3) (.slice da3 dz3.length dc3)
  simp only [World.size_alloc] at n3
  have n4 := lit_mid (((w.alloc (.cells #[.bool c1, .slice (some ⟨bs, os, none⟩) sz1.length sc1, .slice da1 dz1.length dc1] 24)).alloc (.cells #[.bool c1, .slice sa2 sz2.length sc2, .slice da2 dz2.length dc2] 24)).alloc (.cells #[.bool c1, .slice sa3 sz3.length sc3, .slice da3 dz3.length dc3] 24)) 3 [1] 1 rfl
  simp only [World.size_alloc, List.map_cons, List.map_nil] at n4
  go_enter Try.func3, Try.ntmps3
  go_wp2_with fail
  obtain ⟨u5, hu5⟩ : ∃ u5, u5 = ((((w.alloc (.cells #[.bool c1, .slice (some ⟨bs, os, none⟩) sz1.length sc1, .slice da1 dz1.length dc1] 24)).alloc (.cells #[.bool c1, .slice sa2 sz2.length sc2, .slice da2 dz2.length dc2] 24)).alloc (.cells #[.bool c1, .slice sa3 sz3.length sc3, .slice da3 dz3.length dc3] 24)).alloc (.cells #[.int .i64 1] 3)) := ⟨_, rfl⟩
  rw [← hu5]
  have z6 : w.heap.size + 1 + 1 + 1 + 1 ≤ u5.heap.size := by rw [hu5]; simp only [World.size_alloc]; omega
  have B7 : Hid (Abx u5 (w.heap.size) (.bool c1) (.slice (some ⟨bs, os, none⟩) sz1.length sc1) (.slice da1 dz1.length dc1)) := by rw [hu5]; exact (((n1.al (.cells #[.bool c1, .slice sa2 sz2.length sc2, .slice da2 dz2.length dc2] 24)).al (.cells #[.bool c1, .slice sa3 sz3.length sc3, .slice da3 dz3.length dc3] 24)).al (.cells #[.int .i64 1] 3))
  have B8 : Hid (Abx u5 (w.heap.size + 1) (.bool c1) (.slice sa2 sz2.length sc2) (.slice da2 dz2.length dc2)) := by rw [hu5]; exact ((n2.al (.cells #[.bool c1, .slice sa3 sz3.length sc3, .slice da3 dz3.length dc3] 24)).al (.cells #[.int .i64 1] 3))
  have B9 : Hid (Abx u5 (w.heap.size + 1 + 1) (.bool c1) (.slice sa3 sz3.length sc3) (.slice da3 dz3.length dc3)) := by rw [hu5]; exact (n3.al (.cells #[.int .i64 1] 3))
  have L10 : Hid (MidC (w.heap.size + 1 + 1 + 1) (w.heap.size + 1 + 1 + 1 + 1) u5 (some ⟨w.heap.size + 1 + 1 + 1, 0, none⟩) ([1]) (1)) := by rw [hu5]; exact n4
  have hb11 : Hid (Below w.heap.size w u5) := by rw [hu5]; exact (((((Below.refl w.heap.size w).alloc (by omega) (.cells #[.bool c1, .slice (some ⟨bs, os, none⟩) sz1.length sc1, .slice da1 dz1.length dc1] 24)).alloc (by simp only [World.size_alloc]; omega) (.cells #[.bool c1, .slice sa2 sz2.length sc2, .slice da2 dz2.length dc2] 24)).alloc (by simp only [World.size_alloc]; omega) (.cells #[.bool c1, .slice sa3 sz3.length sc3, .slice da3 dz3.length dc3] 24)).alloc (by simp only [World.size_alloc]; omega) (.cells #[.int .i64 1] 3))
  have zu5 : w.heap.size ≤ u5.heap.size := hb11.out.size
  clear hu5 n1 n2 n3 n4
  refine (vec_c (some ⟨w.heap.size + 1 + 1 + 1, 0, none⟩) 1 [1] (by simp) _ (L10.out.is (by omega)).1).mono ?_
  rintro e v1 ⟨va1, vc1, ga1, gc1, rfl, hV, hG, hB⟩
  have z12 : u5.heap.size ≤ v1.heap.size := hB.size
  have B13 : Hid (Abx v1 (w.heap.size) (.bool c1) (.slice (some ⟨bs, os, none⟩) sz1.length sc1) (.slice da1 dz1.length dc1)) := B7.out.go hB
  have B14 : Hid (Abx v1 (w.heap.size + 1) (.bool c1) (.slice sa2 sz2.length sc2) (.slice da2 dz2.length dc2)) := B8.out.go hB
  have B15 : Hid (Abx v1 (w.heap.size + 1 + 1) (.bool c1) (.slice sa3 sz3.length sc3) (.slice da3 dz3.length dc3)) := B9.out.go hB
  have L16 : Hid (MidC (w.heap.size + 1 + 1 + 1) (w.heap.size + 1 + 1 + 1 + 1) v1 (some ⟨w.heap.size + 1 + 1 + 1, 0, none⟩) ([1]) (1)) := L10.out.go (by omega) hB
  have hb17 : Hid (Below w.heap.size w v1) := hb11.out.trans (hB.mono hb11.out.size)
  have L18 : Hid (MidC (u5.heap.size) (v1.heap.size) v1 (va1) ([(1 : Int)]) (vc1)) := hV.midc
  have L19 : Hid (MidC (u5.heap.size) (v1.heap.size) v1 (ga1) ([1]) (gc1)) := hG.midc
  clear hB hb11 B7 B8 B9 L10 hV hG
  clear L16
  have n20 := lit_mid v1 3 [2] 1 rfl
  simp only [List.map_cons, List.map_nil] at n20
  go_wp2_with fail
  obtain ⟨u21, hu21⟩ : ∃ u21, u21 = (v1.alloc (.cells #[.int .i64 2] 3)) := ⟨_, rfl⟩
  rw [← hu21]
  have z22 : v1.heap.size + 1 ≤ u21.heap.size := by rw [hu21]; simp only [World.size_alloc]; omega
  have B23 : Hid (Abx u21 (w.heap.size) (.bool c1) (.slice (some ⟨bs, os, none⟩) sz1.length sc1) (.slice da1 dz1.length dc1)) := by rw [hu21]; exact (B13.out.al (.cells #[.int .i64 2] 3))
  have B24 : Hid (Abx u21 (w.heap.size + 1) (.bool c1) (.slice sa2 sz2.length sc2) (.slice da2 dz2.length dc2)) := by rw [hu21]; exact (B14.out.al (.cells #[.int .i64 2] 3))
  have B25 : Hid (Abx u21 (w.heap.size + 1 + 1) (.bool c1) (.slice sa3 sz3.length sc3) (.slice da3 dz3.length dc3)) := by rw [hu21]; exact (B15.out.al (.cells #[.int .i64 2] 3))
  have L26 : Hid (MidC (u5.heap.size) (v1.heap.size) u21 (va1) ([(1 : Int)]) (vc1)) := by rw [hu21]; exact (L18.out.al (by omega) (.cells #[.int .i64 2] 3))
  have L27 : Hid (MidC (u5.heap.size) (v1.heap.size) u21 (ga1) ([1]) (gc1)) := by rw [hu21]; exact (L19.out.al (by omega) (.cells #[.int .i64 2] 3))
  have L28 : Hid (MidC (v1.heap.size) (v1.heap.size + 1) u21 (some ⟨v1.heap.size, 0, none⟩) ([2]) (1)) := by rw [hu21]; exact n20
  have hb29 : Hid (Below w.heap.size w u21) := by rw [hu21]; exact (hb17.out.alloc (by omega) (.cells #[.int .i64 2] 3))
  have zu21 : w.heap.size ≤ u21.heap.size := hb29.out.size
  clear hu21 n20 hb17 B13 B14 B15 L18 L19
  refine (vec_c (some ⟨v1.heap.size, 0, none⟩) 1 [2] (by simp) _ (L28.out.is (by omega)).1).mono ?_
  rintro e v2 ⟨va2, vc2, ga2, gc2, rfl, hV, hG, hB⟩
  have z30 : u21.heap.size ≤ v2.heap.size := hB.size
  have B31 : Hid (Abx v2 (w.heap.size) (.bool c1) (.slice (some ⟨bs, os, none⟩) sz1.length sc1) (.slice da1 dz1.length dc1)) := B23.out.go hB
  have B32 : Hid (Abx v2 (w.heap.size + 1) (.bool c1) (.slice sa2 sz2.length sc2) (.slice da2 dz2.length dc2)) := B24.out.go hB
  have B33 : Hid (Abx v2 (w.heap.size + 1 + 1) (.bool c1) (.slice sa3 sz3.length sc3) (.slice da3 dz3.length dc3)) := B25.out.go hB
  have L34 : Hid (MidC (u5.heap.size) (v1.heap.size) v2 (va1) ([(1 : Int)]) (vc1)) := L26.out.go (by omega) hB
  have L35 : Hid (MidC (u5.heap.size) (v1.heap.size) v2 (ga1) ([1]) (gc1)) := L27.out.go (by omega) hB
  have L36 : Hid (MidC (v1.heap.size) (v1.heap.size + 1) v2 (some ⟨v1.heap.size, 0, none⟩) ([2]) (1)) := L28.out.go (by omega) hB
  have hb37 : Hid (Below w.heap.size w v2) := hb29.out.trans (hB.mono hb29.out.size)
  have L38 : Hid (MidC (u21.heap.size) (v2.heap.size) v2 (va2) ([(1 : Int)]) (vc2)) := hV.midc
  have L39 : Hid (MidC (u21.heap.size) (v2.heap.size) v2 (ga2) ([2]) (gc2)) := hG.midc
  clear hB hb29 B23 B24 B25 L26 L27 L28 hV hG
  clear L36
  go_wp2_with fail
  refine (jn_ok 0 (by unfold In64; decide) false va1 vc1 [1] ga1 gc1 [1] false va2 vc2 [1] ga2 gc2 [2] _ (by simp) (by simp) (L34.out.is (by omega)) (L35.out.is (by omega)) (lit_all (by decide)) (by simp) (by simp) (L38.out.is (by omega)) (L39.out.is (by omega)) (lit_all (by decide)) [2] [1, 2] HJ (by decide)).mono ?_
  rintro e v3 ⟨f1, g1, f2, g2, rfl, hX0, hY0, hB⟩
  have z40 : v2.heap.size ≤ v3.heap.size := hB.size
  have B41 : Hid (Abx v3 (w.heap.size) (.bool c1) (.slice (some ⟨bs, os, none⟩) sz1.length sc1) (.slice da1 dz1.length dc1)) := B31.out.go hB
  have B42 : Hid (Abx v3 (w.heap.size + 1) (.bool c1) (.slice sa2 sz2.length sc2) (.slice da2 dz2.length dc2)) := B32.out.go hB
  have B43 : Hid (Abx v3 (w.heap.size + 1 + 1) (.bool c1) (.slice sa3 sz3.length sc3) (.slice da3 dz3.length dc3)) := B33.out.go hB
  have L44 : Hid (MidC (u5.heap.size) (v1.heap.size) v3 (va1) ([(1 : Int)]) (vc1)) := L34.out.go (by omega) hB
  have L45 : Hid (MidC (u5.heap.size) (v1.heap.size) v3 (ga1) ([1]) (gc1)) := L35.out.go (by omega) hB
  have L46 : Hid (MidC (u21.heap.size) (v2.heap.size) v3 (va2) ([(1 : Int)]) (vc2)) := L38.out.go (by omega) hB
  have L47 : Hid (MidC (u21.heap.size) (v2.heap.size) v3 (ga2) ([2]) (gc2)) := L39.out.go (by omega) hB
  have hb48 : Hid (Below w.heap.size w v3) := hb37.out.trans (hB.mono hb37.out.size)
  have L49 : Hid (MidC (v2.heap.size) (v3.heap.size) v3 (f1) ([2]) (g1)) := hX0.midc
  have L50 : Hid (MidC (v2.heap.size) (v3.heap.size) v3 (f2) ([1, 2]) (g2)) := hY0.midc
  clear hB hb37 B31 B32 B33 L34 L35 L38 L39 hX0 hY0
  clear L44 L45 L46 L47
  have n51 := Abx.new v3 (.bool false) (.slice f1 1 g1) (.slice f2 2 g2)
  have l52 := (n51).c0
  have l53 := (n51).c1
  have l54 := (n51).c2
  have n55 := lit_mid (v3.alloc (.cells #[.bool false, .slice f1 1 g1, .slice f2 2 g2] 24)) 3 [1, 2] 2 rfl
  simp only [World.size_alloc, List.map_cons, List.map_nil] at n55
  go_wp2_with fail
  obtain ⟨u56, hu56⟩ : ∃ u56, u56 = ((v3.alloc (.cells #[.bool false, .slice f1 1 g1, .slice f2 2 g2] 24)).alloc (.cells #[.int .i64 1, .int .i64 2] 3)) := ⟨_, rfl⟩
  rw [← hu56]
  have z57 : v3.heap.size + 1 + 1 ≤ u56.heap.size := by rw [hu56]; simp only [World.size_alloc]; omega
  have B58 : Hid (Abx u56 (w.heap.size) (.bool c1) (.slice (some ⟨bs, os, none⟩) sz1.length sc1) (.slice da1 dz1.length dc1)) := by rw [hu56]; exact ((B41.out.al (.cells #[.bool false, .slice f1 1 g1, .slice f2 2 g2] 24)).al (.cells #[.int .i64 1, .int .i64 2] 3))
  have B59 : Hid (Abx u56 (w.heap.size + 1) (.bool c1) (.slice sa2 sz2.length sc2) (.slice da2 dz2.length dc2)) := by rw [hu56]; exact ((B42.out.al (.cells #[.bool false, .slice f1 1 g1, .slice f2 2 g2] 24)).al (.cells #[.int .i64 1, .int .i64 2] 3))
  have B60 : Hid (Abx u56 (w.heap.size + 1 + 1) (.bool c1) (.slice sa3 sz3.length sc3) (.slice da3 dz3.length dc3)) := by rw [hu56]; exact ((B43.out.al (.cells #[.bool false, .slice f1 1 g1, .slice f2 2 g2] 24)).al (.cells #[.int .i64 1, .int .i64 2] 3))
  have B61 : Hid (Abx u56 (v3.heap.size) (.bool false) (.slice f1 1 g1) (.slice f2 2 g2)) := by rw [hu56]; exact (n51.al (.cells #[.int .i64 1, .int .i64 2] 3))
  have L62 : Hid (MidC (v2.heap.size) (v3.heap.size) u56 (f1) ([2]) (g1)) := by rw [hu56]; exact ((L49.out.al (by omega) (.cells #[.bool false, .slice f1 1 g1, .slice f2 2 g2] 24)).al (by simp only [World.size_alloc]; omega) (.cells #[.int .i64 1, .int .i64 2] 3))
  have L63 : Hid (MidC (v2.heap.size) (v3.heap.size) u56 (f2) ([1, 2]) (g2)) := by rw [hu56]; exact ((L50.out.al (by omega) (.cells #[.bool false, .slice f1 1 g1, .slice f2 2 g2] 24)).al (by simp only [World.size_alloc]; omega) (.cells #[.int .i64 1, .int .i64 2] 3))
  have L64 : Hid (MidC (v3.heap.size + 1) (v3.heap.size + 1 + 1) u56 (some ⟨v3.heap.size + 1, 0, none⟩) ([1, 2]) (2)) := by rw [hu56]; exact n55
  have hb65 : Hid (Below w.heap.size w u56) := by rw [hu56]; exact ((hb48.out.alloc (by omega) (.cells #[.bool false, .slice f1 1 g1, .slice f2 2 g2] 24)).alloc (by simp only [World.size_alloc]; omega) (.cells #[.int .i64 1, .int .i64 2] 3))
  have zu56 : w.heap.size ≤ u56.heap.size := hb65.out.size
  clear hu56 n51 l52 l53 l54 n55 hb48 B41 B42 B43 L49 L50
  refine (ints_any f2 g2 [1, 2] (some ⟨v3.heap.size + 1, 0, none⟩) 2 [1, 2] (by simp) _ _ (L63.out.is (by omega)).1 (L64.out.is (by omega)).1).mono ?_
  rintro e v4 ⟨rfl, hB⟩
  have z66 : u56.heap.size ≤ v4.heap.size := hB.size
  have B67 : Hid (Abx v4 (w.heap.size) (.bool c1) (.slice (some ⟨bs, os, none⟩) sz1.length sc1) (.slice da1 dz1.length dc1)) := B58.out.go hB
  have B68 : Hid (Abx v4 (w.heap.size + 1) (.bool c1) (.slice sa2 sz2.length sc2) (.slice da2 dz2.length dc2)) := B59.out.go hB
  have B69 : Hid (Abx v4 (w.heap.size + 1 + 1) (.bool c1) (.slice sa3 sz3.length sc3) (.slice da3 dz3.length dc3)) := B60.out.go hB
  have B70 : Hid (Abx v4 (v3.heap.size) (.bool false) (.slice f1 1 g1) (.slice f2 2 g2)) := B61.out.go hB
  have L71 : Hid (MidC (v2.heap.size) (v3.heap.size) v4 (f1) ([2]) (g1)) := L62.out.go (by omega) hB
  have L72 : Hid (MidC (v2.heap.size) (v3.heap.size) v4 (f2) ([1, 2]) (g2)) := L63.out.go (by omega) hB
  have L73 : Hid (MidC (v3.heap.size + 1) (v3.heap.size + 1 + 1) v4 (some ⟨v3.heap.size + 1, 0, none⟩) ([1, 2]) (2)) := L64.out.go (by omega) hB
  have hb74 : Hid (Below w.heap.size w v4) := hb65.out.trans (hB.mono hb65.out.size)
  clear hB hb65 B58 B59 B60 B61 L62 L63 L64
  rw [eqB_true rfl]
  clear L71 L72 L73 B70
  have l75 := (B67.out).c0
  have l76 := (B67.out).c1
  have l77 := (B67.out).c2
  have l78 := (B68.out).c0
  have l79 := (B68.out).c1
  have l80 := (B68.out).c2
  go_wp2_with fail
  clear l75 l76 l77 l78 l79 l80
  refine (jn_ok (xn : Int) (by unfold In64; omega) c1 (some ⟨bs, os, none⟩) sc1 sz1 da1 dc1 dz1 c1 sa2 sc2 sz2 da2 dc2 dz2 _ x1_1 x2_1 ((HI1.out.1.below hb74.out).mono hb74.out.size) ((HI1.out.2.1.below hb74.out).mono hb74.out.size) HI1.out.2.2 x1_2 x2_2 ((HI2.out.1.below hb74.out).mono hb74.out.size) ((HI2.out.2.1.below hb74.out).mono hb74.out.size) HI2.out.2.2 S1 D1 HJ ⟨E1.out, HS1.out.1, HS1.out.2⟩).mono ?_
  rintro e v5 ⟨xa1, xc1, ya1, yc1, rfl, hX1, hY1, hB⟩
  have z81 : v4.heap.size ≤ v5.heap.size := hB.size
  have B82 : Hid (Abx v5 (w.heap.size) (.bool c1) (.slice (some ⟨bs, os, none⟩) sz1.length sc1) (.slice da1 dz1.length dc1)) := B67.out.go hB
  have B83 : Hid (Abx v5 (w.heap.size + 1) (.bool c1) (.slice sa2 sz2.length sc2) (.slice da2 dz2.length dc2)) := B68.out.go hB
  have B84 : Hid (Abx v5 (w.heap.size + 1 + 1) (.bool c1) (.slice sa3 sz3.length sc3) (.slice da3 dz3.length dc3)) := B69.out.go hB
  have hb85 : Hid (Below w.heap.size w v5) := hb74.out.trans (hB.mono hb74.out.size)
  have L86 : Hid (MidC (v4.heap.size) (v5.heap.size) v5 (xa1) (S1) (xc1)) := hX1.midc
  have L87 : Hid (MidC (v4.heap.size) (v5.heap.size) v5 (ya1) (D1) (yc1)) := hY1.midc
  clear hB hb74 B67 B68 B69 hX1 hY1
  have n88 := Abx.new v5 (.bool c1) (.slice xa1 S1.length xc1) (.slice ya1 D1.length yc1)
  have l89 := (n88).c0
  have l90 := (n88).c1
  have l91 := (n88).c2
  have l92 := ((B84.out.al (.cells #[.bool c1, .slice xa1 S1.length xc1, .slice ya1 D1.length yc1] 24))).c0
  have l93 := ((B84.out.al (.cells #[.bool c1, .slice xa1 S1.length xc1, .slice ya1 D1.length yc1] 24))).c1
  have l94 := ((B84.out.al (.cells #[.bool c1, .slice xa1 S1.length xc1, .slice ya1 D1.length yc1] 24))).c2
  go_wp2_with fail
  obtain ⟨u95, hu95⟩ : ∃ u95, u95 = (v5.alloc (.cells #[.bool c1, .slice xa1 S1.length xc1, .slice ya1 D1.length yc1] 24)) := ⟨_, rfl⟩
  rw [← hu95]
  have z96 : v5.heap.size + 1 ≤ u95.heap.size := by rw [hu95]; simp only [World.size_alloc]; omega
  have B97 : Hid (Abx u95 (w.heap.size) (.bool c1) (.slice (some ⟨bs, os, none⟩) sz1.length sc1) (.slice da1 dz1.length dc1)) := by rw [hu95]; exact (B82.out.al (.cells #[.bool c1, .slice xa1 S1.length xc1, .slice ya1 D1.length yc1] 24))
  have B98 : Hid (Abx u95 (w.heap.size + 1) (.bool c1) (.slice sa2 sz2.length sc2) (.slice da2 dz2.length dc2)) := by rw [hu95]; exact (B83.out.al (.cells #[.bool c1, .slice xa1 S1.length xc1, .slice ya1 D1.length yc1] 24))
  have B99 : Hid (Abx u95 (w.heap.size + 1 + 1) (.bool c1) (.slice sa3 sz3.length sc3) (.slice da3 dz3.length dc3)) := by rw [hu95]; exact (B84.out.al (.cells #[.bool c1, .slice xa1 S1.length xc1, .slice ya1 D1.length yc1] 24))
  have B100 : Hid (Abx u95 (v5.heap.size) (.bool c1) (.slice xa1 S1.length xc1) (.slice ya1 D1.length yc1)) := by rw [hu95]; exact n88
  have L101 : Hid (MidC (v4.heap.size) (v5.heap.size) u95 (xa1) (S1) (xc1)) := by rw [hu95]; exact (L86.out.al (by omega) (.cells #[.bool c1, .slice xa1 S1.length xc1, .slice ya1 D1.length yc1] 24))
  have L102 : Hid (MidC (v4.heap.size) (v5.heap.size) u95 (ya1) (D1) (yc1)) := by rw [hu95]; exact (L87.out.al (by omega) (.cells #[.bool c1, .slice xa1 S1.length xc1, .slice ya1 D1.length yc1] 24))
  have hb103 : Hid (Below w.heap.size w u95) := by rw [hu95]; exact (hb85.out.alloc (by omega) (.cells #[.bool c1, .slice xa1 S1.length xc1, .slice ya1 D1.length yc1] 24))
  have zu95 : w.heap.size ≤ u95.heap.size := hb103.out.size
  clear hu95 n88 l89 l90 l91 l92 l93 l94 hb85 B82 B83 B84 L86 L87
  refine (jn_ok (xn : Int) (by unfold In64; omega) c1 xa1 xc1 S1 ya1 yc1 D1 c1 sa3 sc3 sz3 da3 dc3 dz3 _ (by have := L1.out.1; omega) (by have := L1.out.2.1; omega) (L101.out.is (by omega)) (L102.out.is (by omega)) L1.out.2.2 x1_3 x2_3 ((HI3.out.1.below hb103.out).mono hb103.out.size) ((HI3.out.2.1.below hb103.out).mono hb103.out.size) HI3.out.2.2 S2 D2 HJ ⟨EE.out, HS2.out.1, HS2.out.2⟩).mono ?_
  rintro e v6 ⟨xa2, xc2, ya2, yc2, rfl, hX2, hY2, hB⟩
  have z104 : u95.heap.size ≤ v6.heap.size := hB.size
  have B105 : Hid (Abx v6 (w.heap.size) (.bool c1) (.slice (some ⟨bs, os, none⟩) sz1.length sc1) (.slice da1 dz1.length dc1)) := B97.out.go hB
  have B106 : Hid (Abx v6 (w.heap.size + 1) (.bool c1) (.slice sa2 sz2.length sc2) (.slice da2 dz2.length dc2)) := B98.out.go hB
  have B107 : Hid (Abx v6 (w.heap.size + 1 + 1) (.bool c1) (.slice sa3 sz3.length sc3) (.slice da3 dz3.length dc3)) := B99.out.go hB
  have B108 : Hid (Abx v6 (v5.heap.size) (.bool c1) (.slice xa1 S1.length xc1) (.slice ya1 D1.length yc1)) := B100.out.go hB
  have L109 : Hid (MidC (v4.heap.size) (v5.heap.size) v6 (xa1) (S1) (xc1)) := L101.out.go (by omega) hB
  have L110 : Hid (MidC (v4.heap.size) (v5.heap.size) v6 (ya1) (D1) (yc1)) := L102.out.go (by omega) hB
  have hb111 : Hid (Below w.heap.size w v6) := hb103.out.trans (hB.mono hb103.out.size)
  have L112 : Hid (MidC (u95.heap.size) (v6.heap.size) v6 (xa2) (S2) (xc2)) := hX2.midc
  have L113 : Hid (MidC (u95.heap.size) (v6.heap.size) v6 (ya2) (D2) (yc2)) := hY2.midc
  clear hB hb103 B97 B98 B99 B100 L101 L102 hX2 hY2
  clear L109 L110 B108
  have n114 := Abx.new v6 (.bool c1) (.slice xa2 S2.length xc2) (.slice ya2 D2.length yc2)
  have l115 := ((B106.out.al (.cells #[.bool c1, .slice xa2 S2.length xc2, .slice ya2 D2.length yc2] 24))).c0
  have l116 := ((B106.out.al (.cells #[.bool c1, .slice xa2 S2.length xc2, .slice ya2 D2.length yc2] 24))).c1
  have l117 := ((B106.out.al (.cells #[.bool c1, .slice xa2 S2.length xc2, .slice ya2 D2.length yc2] 24))).c2
  have l118 := ((B107.out.al (.cells #[.bool c1, .slice xa2 S2.length xc2, .slice ya2 D2.length yc2] 24))).c0
  have l119 := ((B107.out.al (.cells #[.bool c1, .slice xa2 S2.length xc2, .slice ya2 D2.length yc2] 24))).c1
  have l120 := ((B107.out.al (.cells #[.bool c1, .slice xa2 S2.length xc2, .slice ya2 D2.length yc2] 24))).c2
  go_wp2_with fail
  obtain ⟨u121, hu121⟩ : ∃ u121, u121 = (v6.alloc (.cells #[.bool c1, .slice xa2 S2.length xc2, .slice ya2 D2.length yc2] 24)) := ⟨_, rfl⟩
  rw [← hu121]
  have z122 : v6.heap.size + 1 ≤ u121.heap.size := by rw [hu121]; simp only [World.size_alloc]; omega
  have B123 : Hid (Abx u121 (w.heap.size) (.bool c1) (.slice (some ⟨bs, os, none⟩) sz1.length sc1) (.slice da1 dz1.length dc1)) := by rw [hu121]; exact (B105.out.al (.cells #[.bool c1, .slice xa2 S2.length xc2, .slice ya2 D2.length yc2] 24))
  have B124 : Hid (Abx u121 (w.heap.size + 1) (.bool c1) (.slice sa2 sz2.length sc2) (.slice da2 dz2.length dc2)) := by rw [hu121]; exact (B106.out.al (.cells #[.bool c1, .slice xa2 S2.length xc2, .slice ya2 D2.length yc2] 24))
  have B125 : Hid (Abx u121 (w.heap.size + 1 + 1) (.bool c1) (.slice sa3 sz3.length sc3) (.slice da3 dz3.length dc3)) := by rw [hu121]; exact (B107.out.al (.cells #[.bool c1, .slice xa2 S2.length xc2, .slice ya2 D2.length yc2] 24))
  have B126 : Hid (Abx u121 (v6.heap.size) (.bool c1) (.slice xa2 S2.length xc2) (.slice ya2 D2.length yc2)) := by rw [hu121]; exact n114
  have L127 : Hid (MidC (u95.heap.size) (v6.heap.size) u121 (xa2) (S2) (xc2)) := by rw [hu121]; exact (L112.out.al (by omega) (.cells #[.bool c1, .slice xa2 S2.length xc2, .slice ya2 D2.length yc2] 24))
  have L128 : Hid (MidC (u95.heap.size) (v6.heap.size) u121 (ya2) (D2) (yc2)) := by rw [hu121]; exact (L113.out.al (by omega) (.cells #[.bool c1, .slice xa2 S2.length xc2, .slice ya2 D2.length yc2] 24))
  have hb129 : Hid (Below w.heap.size w u121) := by rw [hu121]; exact (hb111.out.alloc (by omega) (.cells #[.bool c1, .slice xa2 S2.length xc2, .slice ya2 D2.length yc2] 24))
  have zu121 : w.heap.size ≤ u121.heap.size := hb129.out.size
  clear hu121 n114 l115 l116 l117 l118 l119 l120 hb111 B105 B106 B107 L112 L113
  refine (jn_ok (xn : Int) (by unfold In64; omega) c1 sa2 sc2 sz2 da2 dc2 dz2 c1 sa3 sc3 sz3 da3 dc3 dz3 _ x1_2 x2_2 ((HI2.out.1.below hb129.out).mono hb129.out.size) ((HI2.out.2.1.below hb129.out).mono hb129.out.size) HI2.out.2.2 x1_3 x2_3 ((HI3.out.1.below hb129.out).mono hb129.out.size) ((HI3.out.2.1.below hb129.out).mono hb129.out.size) HI3.out.2.2 S3 D3 HJ ⟨HA.out.1, HS3.out.1, HS3.out.2⟩).mono ?_
  rintro e v7 ⟨xa3, xc3, ya3, yc3, rfl, hX3, hY3, hB⟩
  have z130 : u121.heap.size ≤ v7.heap.size := hB.size
  have B131 : Hid (Abx v7 (w.heap.size) (.bool c1) (.slice (some ⟨bs, os, none⟩) sz1.length sc1) (.slice da1 dz1.length dc1)) := B123.out.go hB
  have B132 : Hid (Abx v7 (w.heap.size + 1) (.bool c1) (.slice sa2 sz2.length sc2) (.slice da2 dz2.length dc2)) := B124.out.go hB
  have B133 : Hid (Abx v7 (w.heap.size + 1 + 1) (.bool c1) (.slice sa3 sz3.length sc3) (.slice da3 dz3.length dc3)) := B125.out.go hB
  have B134 : Hid (Abx v7 (v6.heap.size) (.bool c1) (.slice xa2 S2.length xc2) (.slice ya2 D2.length yc2)) := B126.out.go hB
  have L135 : Hid (MidC (u95.heap.size) (v6.heap.size) v7 (xa2) (S2) (xc2)) := L127.out.go (by omega) hB
  have L136 : Hid (MidC (u95.heap.size) (v6.heap.size) v7 (ya2) (D2) (yc2)) := L128.out.go (by omega) hB
  have hb137 : Hid (Below w.heap.size w v7) := hb129.out.trans (hB.mono hb129.out.size)
  have L138 : Hid (MidC (u121.heap.size) (v7.heap.size) v7 (xa3) (S3) (xc3)) := hX3.midc
  have L139 : Hid (MidC (u121.heap.size) (v7.heap.size) v7 (ya3) (D3) (yc3)) := hY3.midc
  clear hB hb129 B123 B124 B125 B126 L127 L128 hX3 hY3
  have n140 := Abx.new v7 (.bool c1) (.slice xa3 S3.length xc3) (.slice ya3 D3.length yc3)
  have l141 := ((B131.out.al (.cells #[.bool c1, .slice xa3 S3.length xc3, .slice ya3 D3.length yc3] 24))).c0
  have l142 := ((B131.out.al (.cells #[.bool c1, .slice xa3 S3.length xc3, .slice ya3 D3.length yc3] 24))).c1
  have l143 := ((B131.out.al (.cells #[.bool c1, .slice xa3 S3.length xc3, .slice ya3 D3.length yc3] 24))).c2
  have l144 := (n140).c0
  have l145 := (n140).c1
  have l146 := (n140).c2
  go_wp2_with fail
  obtain ⟨u147, hu147⟩ : ∃ u147, u147 = (v7.alloc (.cells #[.bool c1, .slice xa3 S3.length xc3, .slice ya3 D3.length yc3] 24)) := ⟨_, rfl⟩
  rw [← hu147]
  have z148 : v7.heap.size + 1 ≤ u147.heap.size := by rw [hu147]; simp only [World.size_alloc]; omega
  have B149 : Hid (Abx u147 (w.heap.size) (.bool c1) (.slice (some ⟨bs, os, none⟩) sz1.length sc1) (.slice da1 dz1.length dc1)) := by rw [hu147]; exact (B131.out.al (.cells #[.bool c1, .slice xa3 S3.length xc3, .slice ya3 D3.length yc3] 24))
  have B150 : Hid (Abx u147 (w.heap.size + 1) (.bool c1) (.slice sa2 sz2.length sc2) (.slice da2 dz2.length dc2)) := by rw [hu147]; exact (B132.out.al (.cells #[.bool c1, .slice xa3 S3.length xc3, .slice ya3 D3.length yc3] 24))
  have B151 : Hid (Abx u147 (w.heap.size + 1 + 1) (.bool c1) (.slice sa3 sz3.length sc3) (.slice da3 dz3.length dc3)) := by rw [hu147]; exact (B133.out.al (.cells #[.bool c1, .slice xa3 S3.length xc3, .slice ya3 D3.length yc3] 24))
  have B152 : Hid (Abx u147 (v6.heap.size) (.bool c1) (.slice xa2 S2.length xc2) (.slice ya2 D2.length yc2)) := by rw [hu147]; exact (B134.out.al (.cells #[.bool c1, .slice xa3 S3.length xc3, .slice ya3 D3.length yc3] 24))
  have B153 : Hid (Abx u147 (v7.heap.size) (.bool c1) (.slice xa3 S3.length xc3) (.slice ya3 D3.length yc3)) := by rw [hu147]; exact n140
  have L154 : Hid (MidC (u95.heap.size) (v6.heap.size) u147 (xa2) (S2) (xc2)) := by rw [hu147]; exact (L135.out.al (by omega) (.cells #[.bool c1, .slice xa3 S3.length xc3, .slice ya3 D3.length yc3] 24))
  have L155 : Hid (MidC (u95.heap.size) (v6.heap.size) u147 (ya2) (D2) (yc2)) := by rw [hu147]; exact (L136.out.al (by omega) (.cells #[.bool c1, .slice xa3 S3.length xc3, .slice ya3 D3.length yc3] 24))
  have L156 : Hid (MidC (u121.heap.size) (v7.heap.size) u147 (xa3) (S3) (xc3)) := by rw [hu147]; exact (L138.out.al (by omega) (.cells #[.bool c1, .slice xa3 S3.length xc3, .slice ya3 D3.length yc3] 24))
  have L157 : Hid (MidC (u121.heap.size) (v7.heap.size) u147 (ya3) (D3) (yc3)) := by rw [hu147]; exact (L139.out.al (by omega) (.cells #[.bool c1, .slice xa3 S3.length xc3, .slice ya3 D3.length yc3] 24))
  have hb158 : Hid (Below w.heap.size w u147) := by rw [hu147]; exact (hb137.out.alloc (by omega) (.cells #[.bool c1, .slice xa3 S3.length xc3, .slice ya3 D3.length yc3] 24))
  have zu147 : w.heap.size ≤ u147.heap.size := hb158.out.size
  clear hu147 n140 l141 l142 l143 l144 l145 l146 hb137 B131 B132 B133 B134 L135 L136 L138 L139
  refine (jn_ok (xn : Int) (by unfold In64; omega) c1 (some ⟨bs, os, none⟩) sc1 sz1 da1 dc1 dz1 c1 xa3 xc3 S3 ya3 yc3 D3 _ x1_1 x2_1 ((HI1.out.1.below hb158.out).mono hb158.out.size) ((HI1.out.2.1.below hb158.out).mono hb158.out.size) HI1.out.2.2 (by have := L3.out.1; omega) (by have := L3.out.2.1; omega) (L156.out.is (by omega)) (L157.out.is (by omega)) L3.out.2.2 S4 D4 HJ ⟨HA.out.2.1, HS4.out.1, HS4.out.2⟩).mono ?_
  rintro e v8 ⟨xa4, xc4, ya4, yc4, rfl, hX4, hY4, hB⟩
  have z159 : u147.heap.size ≤ v8.heap.size := hB.size
  have B160 : Hid (Abx v8 (w.heap.size) (.bool c1) (.slice (some ⟨bs, os, none⟩) sz1.length sc1) (.slice da1 dz1.length dc1)) := B149.out.go hB
  have B161 : Hid (Abx v8 (w.heap.size + 1) (.bool c1) (.slice sa2 sz2.length sc2) (.slice da2 dz2.length dc2)) := B150.out.go hB
  have B162 : Hid (Abx v8 (w.heap.size + 1 + 1) (.bool c1) (.slice sa3 sz3.length sc3) (.slice da3 dz3.length dc3)) := B151.out.go hB
  have B163 : Hid (Abx v8 (v6.heap.size) (.bool c1) (.slice xa2 S2.length xc2) (.slice ya2 D2.length yc2)) := B152.out.go hB
  have B164 : Hid (Abx v8 (v7.heap.size) (.bool c1) (.slice xa3 S3.length xc3) (.slice ya3 D3.length yc3)) := B153.out.go hB
  have L165 : Hid (MidC (u95.heap.size) (v6.heap.size) v8 (xa2) (S2) (xc2)) := L154.out.go (by omega) hB
  have L166 : Hid (MidC (u95.heap.size) (v6.heap.size) v8 (ya2) (D2) (yc2)) := L155.out.go (by omega) hB
  have L167 : Hid (MidC (u121.heap.size) (v7.heap.size) v8 (xa3) (S3) (xc3)) := L156.out.go (by omega) hB
  have L168 : Hid (MidC (u121.heap.size) (v7.heap.size) v8 (ya3) (D3) (yc3)) := L157.out.go (by omega) hB
  have hb169 : Hid (Below w.heap.size w v8) := hb158.out.trans (hB.mono hb158.out.size)
  have L170 : Hid (MidC (u147.heap.size) (v8.heap.size) v8 (xa4) (S4) (xc4)) := hX4.midc
  have L171 : Hid (MidC (u147.heap.size) (v8.heap.size) v8 (ya4) (D4) (yc4)) := hY4.midc
  clear hB hb158 B149 B150 B151 B152 B153 L154 L155 L156 L157 hX4 hY4
  clear L167 L168 B164
  have n172 := Abx.new v8 (.bool c1) (.slice xa4 S4.length xc4) (.slice ya4 D4.length yc4)
  have l173 := ((B163.out.al (.cells #[.bool c1, .slice xa4 S4.length xc4, .slice ya4 D4.length yc4] 24))).c0
  have l174 := ((B163.out.al (.cells #[.bool c1, .slice xa4 S4.length xc4, .slice ya4 D4.length yc4] 24))).c1
  have l175 := ((B163.out.al (.cells #[.bool c1, .slice xa4 S4.length xc4, .slice ya4 D4.length yc4] 24))).c2
  have l176 := (n172).c0
  have l177 := (n172).c1
  have l178 := (n172).c2
  go_wp2_with fail
  obtain ⟨u179, hu179⟩ : ∃ u179, u179 = (v8.alloc (.cells #[.bool c1, .slice xa4 S4.length xc4, .slice ya4 D4.length yc4] 24)) := ⟨_, rfl⟩
  rw [← hu179]
  have z180 : v8.heap.size + 1 ≤ u179.heap.size := by rw [hu179]; simp only [World.size_alloc]; omega
  have B181 : Hid (Abx u179 (w.heap.size) (.bool c1) (.slice (some ⟨bs, os, none⟩) sz1.length sc1) (.slice da1 dz1.length dc1)) := by rw [hu179]; exact (B160.out.al (.cells #[.bool c1, .slice xa4 S4.length xc4, .slice ya4 D4.length yc4] 24))
  have B182 : Hid (Abx u179 (w.heap.size + 1) (.bool c1) (.slice sa2 sz2.length sc2) (.slice da2 dz2.length dc2)) := by rw [hu179]; exact (B161.out.al (.cells #[.bool c1, .slice xa4 S4.length xc4, .slice ya4 D4.length yc4] 24))
  have B183 : Hid (Abx u179 (w.heap.size + 1 + 1) (.bool c1) (.slice sa3 sz3.length sc3) (.slice da3 dz3.length dc3)) := by rw [hu179]; exact (B162.out.al (.cells #[.bool c1, .slice xa4 S4.length xc4, .slice ya4 D4.length yc4] 24))
  have B184 : Hid (Abx u179 (v6.heap.size) (.bool c1) (.slice xa2 S2.length xc2) (.slice ya2 D2.length yc2)) := by rw [hu179]; exact (B163.out.al (.cells #[.bool c1, .slice xa4 S4.length xc4, .slice ya4 D4.length yc4] 24))
  have B185 : Hid (Abx u179 (v8.heap.size) (.bool c1) (.slice xa4 S4.length xc4) (.slice ya4 D4.length yc4)) := by rw [hu179]; exact n172
  have L186 : Hid (MidC (u95.heap.size) (v6.heap.size) u179 (xa2) (S2) (xc2)) := by rw [hu179]; exact (L165.out.al (by omega) (.cells #[.bool c1, .slice xa4 S4.length xc4, .slice ya4 D4.length yc4] 24))
  have L187 : Hid (MidC (u95.heap.size) (v6.heap.size) u179 (ya2) (D2) (yc2)) := by rw [hu179]; exact (L166.out.al (by omega) (.cells #[.bool c1, .slice xa4 S4.length xc4, .slice ya4 D4.length yc4] 24))
  have L188 : Hid (MidC (u147.heap.size) (v8.heap.size) u179 (xa4) (S4) (xc4)) := by rw [hu179]; exact (L170.out.al (by omega) (.cells #[.bool c1, .slice xa4 S4.length xc4, .slice ya4 D4.length yc4] 24))
  have L189 : Hid (MidC (u147.heap.size) (v8.heap.size) u179 (ya4) (D4) (yc4)) := by rw [hu179]; exact (L171.out.al (by omega) (.cells #[.bool c1, .slice xa4 S4.length xc4, .slice ya4 D4.length yc4] 24))
  have hb190 : Hid (Below w.heap.size w u179) := by rw [hu179]; exact (hb169.out.alloc (by omega) (.cells #[.bool c1, .slice xa4 S4.length xc4, .slice ya4 D4.length yc4] 24))
  have zu179 : w.heap.size ≤ u179.heap.size := hb190.out.size
  clear hu179 n172 l173 l174 l175 l176 l177 l178 hb169 B160 B161 B162 B163 L165 L166 L170 L171
  refine (alike_eq c1 xa2 xc2 S2 ya2 yc2 D2 xa4 xc4 S4 ya4 yc4 D4 HA.out.2.2.1 HA.out.2.2.2 (by have := L2.out.1; omega) (by have := L2.out.2.1; omega) _ (L186.out.is (by omega)) (L187.out.is (by omega)).1 (L188.out.is (by omega)) (L189.out.is (by omega)).1).mono ?_
  rintro e v9 ⟨rfl, hB⟩
  have z191 : u179.heap.size ≤ v9.heap.size := hB.size
  have B192 : Hid (Abx v9 (w.heap.size) (.bool c1) (.slice (some ⟨bs, os, none⟩) sz1.length sc1) (.slice da1 dz1.length dc1)) := B181.out.go hB
  have B193 : Hid (Abx v9 (w.heap.size + 1) (.bool c1) (.slice sa2 sz2.length sc2) (.slice da2 dz2.length dc2)) := B182.out.go hB
  have B194 : Hid (Abx v9 (w.heap.size + 1 + 1) (.bool c1) (.slice sa3 sz3.length sc3) (.slice da3 dz3.length dc3)) := B183.out.go hB
  have B195 : Hid (Abx v9 (v6.heap.size) (.bool c1) (.slice xa2 S2.length xc2) (.slice ya2 D2.length yc2)) := B184.out.go hB
  have B196 : Hid (Abx v9 (v8.heap.size) (.bool c1) (.slice xa4 S4.length xc4) (.slice ya4 D4.length yc4)) := B185.out.go hB
  have L197 : Hid (MidC (u95.heap.size) (v6.heap.size) v9 (xa2) (S2) (xc2)) := L186.out.go (by omega) hB
  have L198 : Hid (MidC (u95.heap.size) (v6.heap.size) v9 (ya2) (D2) (yc2)) := L187.out.go (by omega) hB
  have L199 : Hid (MidC (u147.heap.size) (v8.heap.size) v9 (xa4) (S4) (xc4)) := L188.out.go (by omega) hB
  have L200 : Hid (MidC (u147.heap.size) (v8.heap.size) v9 (ya4) (D4) (yc4)) := L189.out.go (by omega) hB
  have hb201 : Hid (Below w.heap.size w v9) := hb190.out.trans (hB.mono hb190.out.size)
  clear hB hb190 B181 B182 B183 B184 B185 L186 L187 L188 L189
  clear L197 L198 L199 L200 B195 B196 B193 B194
  have l202 := (B192.out).c0
  have l203 := (B192.out).c1
  have l204 := (B192.out).c2
  go_wp2_with fail
  clear l202 l203 l204 t2
  refine (copy_c (some ⟨bs, os, none⟩) sc1 sz1 (by omega) _ ((HI1.out.1.1.below hb201.out).mono hb201.out.size)).mono ?_
  rintro e v10 ⟨ga, gc, rfl, hH, hB⟩
  have z205 : v9.heap.size ≤ v10.heap.size := hB.size
  have B206 : Hid (Abx v10 (w.heap.size) (.bool c1) (.slice (some ⟨bs, os, none⟩) sz1.length sc1) (.slice da1 dz1.length dc1)) := B192.out.go hB
  have hb207 : Hid (Below w.heap.size w v10) := hb201.out.trans (hB.mono hb201.out.size)
  have L208 : Hid (MidC (v9.heap.size) (v10.heap.size) v10 (ga) (sz1) (gc)) := hH.midc
  clear hB hb201 B192 hH
  obtain ⟨hb, ho, e8, hh1, hh2, _⟩ := L208.out.at hxl
  cases e8
  obtain ⟨l209b, l209o, l209e, _, _, l209, l209f⟩ := (L208.out).at (i := xn) hxl
  cases l209e
  have l210 := ((B206.out.ot (a := ⟨hb, ho + xn, none⟩) (by show w.heap.size ≠ hb; omega) (.int .i64 (0)))).c0
  have l211 := ((B206.out.ot (a := ⟨hb, ho + xn, none⟩) (by show w.heap.size ≠ hb; omega) (.int .i64 (0)))).c1
  have l212 := ((B206.out.ot (a := ⟨hb, ho + xn, none⟩) (by show w.heap.size ≠ hb; omega) (.int .i64 (0)))).c2
  go_wp2_with fail
  obtain ⟨u213, hu213⟩ : ∃ u213, u213 = (v10.setCell ⟨hb, ho + xn, none⟩ (.int .i64 (0))) := ⟨_, rfl⟩
  rw [← hu213]
  have z214 : v10.heap.size ≤ u213.heap.size := by rw [hu213]; simp only [World.size_setCell]; omega
  have B215 : Hid (Abx u213 (w.heap.size) (.bool c1) (.slice (some ⟨bs, os, none⟩) sz1.length sc1) (.slice da1 dz1.length dc1)) := by rw [hu213]; exact (B206.out.ot (a := ⟨hb, ho + xn, none⟩) (by show w.heap.size ≠ hb; omega) (.int .i64 (0)))
  have L216 : Hid (MidC (v9.heap.size) (v10.heap.size) u213 (some ⟨hb, ho, none⟩) (sz1.set xn 0) (gc)) := by rw [hu213]; exact (L208.out.put hxl (0))
  have hb217 : Hid (Below w.heap.size w u213) := by rw [hu213]; exact (hb207.out.setCell (p := ⟨hb, ho + xn, none⟩) (by show w.heap.size ≤ hb; omega) (.int .i64 (0)))
  have zu213 : w.heap.size ≤ u213.heap.size := hb217.out.size
  clear hu213 l209 l209f l210 l211 l212 hb207 B206 L208
  refine (tk_okl (some ⟨hb, ho, none⟩) gc (sz1.set xn 0) sz1.length (by rw [List.length_set]) c1 (some ⟨bs, os, none⟩) sc1 sz1 da1 dc1 dz1 _ (by rw [List.length_set]; omega) T1.out (L216.out.is (by omega)) x1_1 x2_1 ((HI1.out.1.below hb217.out).mono hb217.out.size) ((HI1.out.2.1.below hb217.out).mono hb217.out.size) HI1.out.2.2 S5 D5 HT GT.out).mono ?_
  rintro e v11 ⟨xa5, xc5, ya5, yc5, rfl, hX5, hY5, hB⟩
  have z218 : u213.heap.size ≤ v11.heap.size := hB.size
  have B219 : Hid (Abx v11 (w.heap.size) (.bool c1) (.slice (some ⟨bs, os, none⟩) sz1.length sc1) (.slice da1 dz1.length dc1)) := B215.out.go hB
  have L220 : Hid (MidC (v9.heap.size) (v10.heap.size) v11 (some ⟨hb, ho, none⟩) (sz1.set xn 0) (gc)) := L216.out.go (by omega) hB
  have hb221 : Hid (Below w.heap.size w v11) := hb217.out.trans (hB.mono hb217.out.size)
  have L222 : Hid (MidC (u213.heap.size) (v11.heap.size) v11 (xa5) (S5) (xc5)) := hX5.midc
  have L223 : Hid (MidC (u213.heap.size) (v11.heap.size) v11 (ya5) (D5) (yc5)) := hY5.midc
  clear hB hb217 B215 L216 hX5 hY5
  clear L220
  have n224 := Abx.new v11 (.bool c1) (.slice xa5 S5.length xc5) (.slice ya5 D5.length yc5)
  have l225 := ((B219.out.al (.cells #[.bool c1, .slice xa5 S5.length xc5, .slice ya5 D5.length yc5] 24))).c0
  have l226 := ((B219.out.al (.cells #[.bool c1, .slice xa5 S5.length xc5, .slice ya5 D5.length yc5] 24))).c1
  have l227 := ((B219.out.al (.cells #[.bool c1, .slice xa5 S5.length xc5, .slice ya5 D5.length yc5] 24))).c2
  have l228 := (n224).c0
  have l229 := (n224).c1
  have l230 := (n224).c2
  go_wp2_with fail
  obtain ⟨u231, hu231⟩ : ∃ u231, u231 = (v11.alloc (.cells #[.bool c1, .slice xa5 S5.length xc5, .slice ya5 D5.length yc5] 24)) := ⟨_, rfl⟩
  rw [← hu231]
  have z232 : v11.heap.size + 1 ≤ u231.heap.size := by rw [hu231]; simp only [World.size_alloc]; omega
  have B233 : Hid (Abx u231 (w.heap.size) (.bool c1) (.slice (some ⟨bs, os, none⟩) sz1.length sc1) (.slice da1 dz1.length dc1)) := by rw [hu231]; exact (B219.out.al (.cells #[.bool c1, .slice xa5 S5.length xc5, .slice ya5 D5.length yc5] 24))
  have B234 : Hid (Abx u231 (v11.heap.size) (.bool c1) (.slice xa5 S5.length xc5) (.slice ya5 D5.length yc5)) := by rw [hu231]; exact n224
  have L235 : Hid (MidC (u213.heap.size) (v11.heap.size) u231 (xa5) (S5) (xc5)) := by rw [hu231]; exact (L222.out.al (by omega) (.cells #[.bool c1, .slice xa5 S5.length xc5, .slice ya5 D5.length yc5] 24))
  have L236 : Hid (MidC (u213.heap.size) (v11.heap.size) u231 (ya5) (D5) (yc5)) := by rw [hu231]; exact (L223.out.al (by omega) (.cells #[.bool c1, .slice xa5 S5.length xc5, .slice ya5 D5.length yc5] 24))
  have hb237 : Hid (Below w.heap.size w u231) := by rw [hu231]; exact (hb221.out.alloc (by omega) (.cells #[.bool c1, .slice xa5 S5.length xc5, .slice ya5 D5.length yc5] 24))
  have zu231 : w.heap.size ≤ u231.heap.size := hb237.out.size
  clear hu231 n224 l225 l226 l227 l228 l229 l230 hb221 B219 L222 L223
  refine (jn_ok (xn : Int) (by unfold In64; omega) c1 (some ⟨bs, os, none⟩) sc1 sz1 da1 dc1 dz1 c1 xa5 xc5 S5 ya5 yc5 D5 _ x1_1 x2_1 ((HI1.out.1.below hb237.out).mono hb237.out.size) ((HI1.out.2.1.below hb237.out).mono hb237.out.size) HI1.out.2.2 (by have := L5.out.1; omega) (by have := L5.out.2.1; omega) (L235.out.is (by omega)) (L236.out.is (by omega)) L5.out.2.2 sz1 dz1 HJ ⟨HN.out.1, HN.out.2.1, HN.out.2.2.1⟩).mono ?_
  rintro e v12 ⟨xa6, xc6, ya6, yc6, rfl, hX6, hY6, hB⟩
  have z238 : u231.heap.size ≤ v12.heap.size := hB.size
  have B239 : Hid (Abx v12 (w.heap.size) (.bool c1) (.slice (some ⟨bs, os, none⟩) sz1.length sc1) (.slice da1 dz1.length dc1)) := B233.out.go hB
  have B240 : Hid (Abx v12 (v11.heap.size) (.bool c1) (.slice xa5 S5.length xc5) (.slice ya5 D5.length yc5)) := B234.out.go hB
  have L241 : Hid (MidC (u213.heap.size) (v11.heap.size) v12 (xa5) (S5) (xc5)) := L235.out.go (by omega) hB
  have L242 : Hid (MidC (u213.heap.size) (v11.heap.size) v12 (ya5) (D5) (yc5)) := L236.out.go (by omega) hB
  have hb243 : Hid (Below w.heap.size w v12) := hb237.out.trans (hB.mono hb237.out.size)
  have L244 : Hid (MidC (u231.heap.size) (v12.heap.size) v12 (xa6) (sz1) (xc6)) := hX6.midc
  have L245 : Hid (MidC (u231.heap.size) (v12.heap.size) v12 (ya6) (dz1) (yc6)) := hY6.midc
  clear hB hb237 B233 B234 L235 L236 hX6 hY6
  have n246 := Abx.new v12 (.bool c1) (.slice xa6 sz1.length xc6) (.slice ya6 dz1.length yc6)
  have l247 := ((B240.out.al (.cells #[.bool c1, .slice xa6 sz1.length xc6, .slice ya6 dz1.length yc6] 24))).c0
  have l248 := ((B240.out.al (.cells #[.bool c1, .slice xa6 sz1.length xc6, .slice ya6 dz1.length yc6] 24))).c1
  have l249 := ((B240.out.al (.cells #[.bool c1, .slice xa6 sz1.length xc6, .slice ya6 dz1.length yc6] 24))).c2
  have l250 := ((B239.out.al (.cells #[.bool c1, .slice xa6 sz1.length xc6, .slice ya6 dz1.length yc6] 24))).c0
  have l251 := ((B239.out.al (.cells #[.bool c1, .slice xa6 sz1.length xc6, .slice ya6 dz1.length yc6] 24))).c1
  have l252 := ((B239.out.al (.cells #[.bool c1, .slice xa6 sz1.length xc6, .slice ya6 dz1.length yc6] 24))).c2
  go_wp2_with fail
  obtain ⟨u253, hu253⟩ : ∃ u253, u253 = (v12.alloc (.cells #[.bool c1, .slice xa6 sz1.length xc6, .slice ya6 dz1.length yc6] 24)) := ⟨_, rfl⟩
  rw [← hu253]
  have z254 : v12.heap.size + 1 ≤ u253.heap.size := by rw [hu253]; simp only [World.size_alloc]; omega
  have B255 : Hid (Abx u253 (w.heap.size) (.bool c1) (.slice (some ⟨bs, os, none⟩) sz1.length sc1) (.slice da1 dz1.length dc1)) := by rw [hu253]; exact (B239.out.al (.cells #[.bool c1, .slice xa6 sz1.length xc6, .slice ya6 dz1.length yc6] 24))
  have B256 : Hid (Abx u253 (v11.heap.size) (.bool c1) (.slice xa5 S5.length xc5) (.slice ya5 D5.length yc5)) := by rw [hu253]; exact (B240.out.al (.cells #[.bool c1, .slice xa6 sz1.length xc6, .slice ya6 dz1.length yc6] 24))
  have B257 : Hid (Abx u253 (v12.heap.size) (.bool c1) (.slice xa6 sz1.length xc6) (.slice ya6 dz1.length yc6)) := by rw [hu253]; exact n246
  have L258 : Hid (MidC (u213.heap.size) (v11.heap.size) u253 (xa5) (S5) (xc5)) := by rw [hu253]; exact (L241.out.al (by omega) (.cells #[.bool c1, .slice xa6 sz1.length xc6, .slice ya6 dz1.length yc6] 24))
  have L259 : Hid (MidC (u213.heap.size) (v11.heap.size) u253 (ya5) (D5) (yc5)) := by rw [hu253]; exact (L242.out.al (by omega) (.cells #[.bool c1, .slice xa6 sz1.length xc6, .slice ya6 dz1.length yc6] 24))
  have L260 : Hid (MidC (u231.heap.size) (v12.heap.size) u253 (xa6) (sz1) (xc6)) := by rw [hu253]; exact (L244.out.al (by omega) (.cells #[.bool c1, .slice xa6 sz1.length xc6, .slice ya6 dz1.length yc6] 24))
  have L261 : Hid (MidC (u231.heap.size) (v12.heap.size) u253 (ya6) (dz1) (yc6)) := by rw [hu253]; exact (L245.out.al (by omega) (.cells #[.bool c1, .slice xa6 sz1.length xc6, .slice ya6 dz1.length yc6] 24))
  have hb262 : Hid (Below w.heap.size w u253) := by rw [hu253]; exact (hb243.out.alloc (by omega) (.cells #[.bool c1, .slice xa6 sz1.length xc6, .slice ya6 dz1.length yc6] 24))
  have zu253 : w.heap.size ≤ u253.heap.size := hb262.out.size
  clear hu253 n246 l247 l248 l249 l250 l251 l252 hb243 B239 B240 L241 L242 L244 L245
  refine (jn_ok (xn : Int) (by unfold In64; omega) c1 xa5 xc5 S5 ya5 yc5 D5 c1 (some ⟨bs, os, none⟩) sc1 sz1 da1 dc1 dz1 _ (by have := L5.out.1; omega) (by have := L5.out.2.1; omega) (L258.out.is (by omega)) (L259.out.is (by omega)) L5.out.2.2 x1_1 x2_1 ((HI1.out.1.below hb262.out).mono hb262.out.size) ((HI1.out.2.1.below hb262.out).mono hb262.out.size) HI1.out.2.2 sz1 dz1 HJ ⟨HN.out.2.2.2.1, HN.out.2.2.2.2.1, HN.out.2.2.2.2.2⟩).mono ?_
  rintro e v13 ⟨xa7, xc7, ya7, yc7, rfl, hX7, hY7, hB⟩
  have z263 : u253.heap.size ≤ v13.heap.size := hB.size
  have B264 : Hid (Abx v13 (w.heap.size) (.bool c1) (.slice (some ⟨bs, os, none⟩) sz1.length sc1) (.slice da1 dz1.length dc1)) := B255.out.go hB
  have B265 : Hid (Abx v13 (v11.heap.size) (.bool c1) (.slice xa5 S5.length xc5) (.slice ya5 D5.length yc5)) := B256.out.go hB
  have B266 : Hid (Abx v13 (v12.heap.size) (.bool c1) (.slice xa6 sz1.length xc6) (.slice ya6 dz1.length yc6)) := B257.out.go hB
  have L267 : Hid (MidC (u213.heap.size) (v11.heap.size) v13 (xa5) (S5) (xc5)) := L258.out.go (by omega) hB
  have L268 : Hid (MidC (u213.heap.size) (v11.heap.size) v13 (ya5) (D5) (yc5)) := L259.out.go (by omega) hB
  have L269 : Hid (MidC (u231.heap.size) (v12.heap.size) v13 (xa6) (sz1) (xc6)) := L260.out.go (by omega) hB
  have L270 : Hid (MidC (u231.heap.size) (v12.heap.size) v13 (ya6) (dz1) (yc6)) := L261.out.go (by omega) hB
  have hb271 : Hid (Below w.heap.size w v13) := hb262.out.trans (hB.mono hb262.out.size)
  have L272 : Hid (MidC (u253.heap.size) (v13.heap.size) v13 (xa7) (sz1) (xc7)) := hX7.midc
  have L273 : Hid (MidC (u253.heap.size) (v13.heap.size) v13 (ya7) (dz1) (yc7)) := hY7.midc
  clear hB hb262 B255 B256 B257 L258 L259 L260 L261 hX7 hY7
  have n274 := Abx.new v13 (.bool c1) (.slice xa7 sz1.length xc7) (.slice ya7 dz1.length yc7)
  have l275 := ((B266.out.al (.cells #[.bool c1, .slice xa7 sz1.length xc7, .slice ya7 dz1.length yc7] 24))).c0
  have l276 := ((B266.out.al (.cells #[.bool c1, .slice xa7 sz1.length xc7, .slice ya7 dz1.length yc7] 24))).c1
  have l277 := ((B266.out.al (.cells #[.bool c1, .slice xa7 sz1.length xc7, .slice ya7 dz1.length yc7] 24))).c2
  have l278 := ((B264.out.al (.cells #[.bool c1, .slice xa7 sz1.length xc7, .slice ya7 dz1.length yc7] 24))).c0
  have l279 := ((B264.out.al (.cells #[.bool c1, .slice xa7 sz1.length xc7, .slice ya7 dz1.length yc7] 24))).c1
  have l280 := ((B264.out.al (.cells #[.bool c1, .slice xa7 sz1.length xc7, .slice ya7 dz1.length yc7] 24))).c2
  go_wp2_with fail
  obtain ⟨u281, hu281⟩ : ∃ u281, u281 = (v13.alloc (.cells #[.bool c1, .slice xa7 sz1.length xc7, .slice ya7 dz1.length yc7] 24)) := ⟨_, rfl⟩
  rw [← hu281]
  have z282 : v13.heap.size + 1 ≤ u281.heap.size := by rw [hu281]; simp only [World.size_alloc]; omega
  have B283 : Hid (Abx u281 (w.heap.size) (.bool c1) (.slice (some ⟨bs, os, none⟩) sz1.length sc1) (.slice da1 dz1.length dc1)) := by rw [hu281]; exact (B264.out.al (.cells #[.bool c1, .slice xa7 sz1.length xc7, .slice ya7 dz1.length yc7] 24))
  have B284 : Hid (Abx u281 (v11.heap.size) (.bool c1) (.slice xa5 S5.length xc5) (.slice ya5 D5.length yc5)) := by rw [hu281]; exact (B265.out.al (.cells #[.bool c1, .slice xa7 sz1.length xc7, .slice ya7 dz1.length yc7] 24))
  have B285 : Hid (Abx u281 (v12.heap.size) (.bool c1) (.slice xa6 sz1.length xc6) (.slice ya6 dz1.length yc6)) := by rw [hu281]; exact (B266.out.al (.cells #[.bool c1, .slice xa7 sz1.length xc7, .slice ya7 dz1.length yc7] 24))
  have B286 : Hid (Abx u281 (v13.heap.size) (.bool c1) (.slice xa7 sz1.length xc7) (.slice ya7 dz1.length yc7)) := by rw [hu281]; exact n274
  have L287 : Hid (MidC (u213.heap.size) (v11.heap.size) u281 (xa5) (S5) (xc5)) := by rw [hu281]; exact (L267.out.al (by omega) (.cells #[.bool c1, .slice xa7 sz1.length xc7, .slice ya7 dz1.length yc7] 24))
  have L288 : Hid (MidC (u213.heap.size) (v11.heap.size) u281 (ya5) (D5) (yc5)) := by rw [hu281]; exact (L268.out.al (by omega) (.cells #[.bool c1, .slice xa7 sz1.length xc7, .slice ya7 dz1.length yc7] 24))
  have L289 : Hid (MidC (u231.heap.size) (v12.heap.size) u281 (xa6) (sz1) (xc6)) := by rw [hu281]; exact (L269.out.al (by omega) (.cells #[.bool c1, .slice xa7 sz1.length xc7, .slice ya7 dz1.length yc7] 24))
  have L290 : Hid (MidC (u231.heap.size) (v12.heap.size) u281 (ya6) (dz1) (yc6)) := by rw [hu281]; exact (L270.out.al (by omega) (.cells #[.bool c1, .slice xa7 sz1.length xc7, .slice ya7 dz1.length yc7] 24))
  have L291 : Hid (MidC (u253.heap.size) (v13.heap.size) u281 (xa7) (sz1) (xc7)) := by rw [hu281]; exact (L272.out.al (by omega) (.cells #[.bool c1, .slice xa7 sz1.length xc7, .slice ya7 dz1.length yc7] 24))
  have L292 : Hid (MidC (u253.heap.size) (v13.heap.size) u281 (ya7) (dz1) (yc7)) := by rw [hu281]; exact (L273.out.al (by omega) (.cells #[.bool c1, .slice xa7 sz1.length xc7, .slice ya7 dz1.length yc7] 24))
  have hb293 : Hid (Below w.heap.size w u281) := by rw [hu281]; exact (hb271.out.alloc (by omega) (.cells #[.bool c1, .slice xa7 sz1.length xc7, .slice ya7 dz1.length yc7] 24))
  have zu281 : w.heap.size ≤ u281.heap.size := hb293.out.size
  clear hu281 n274 l275 l276 l277 l278 l279 l280 hb271 B264 B265 B266 L267 L268 L269 L270 L272 L273
  refine (alike_eq c1 xa6 xc6 sz1 ya6 yc6 dz1 (some ⟨bs, os, none⟩) sc1 sz1 da1 dc1 dz1 rfl rfl x1_1 x2_1 _ (L289.out.is (by omega)) (L290.out.is (by omega)).1 ((HI1.out.1.below hb293.out).mono hb293.out.size) ((HI1.out.2.1.1.below hb293.out).mono hb293.out.size)).mono ?_
  rintro e v14 ⟨rfl, hB⟩
  have z294 : u281.heap.size ≤ v14.heap.size := hB.size
  have B295 : Hid (Abx v14 (w.heap.size) (.bool c1) (.slice (some ⟨bs, os, none⟩) sz1.length sc1) (.slice da1 dz1.length dc1)) := B283.out.go hB
  have B296 : Hid (Abx v14 (v11.heap.size) (.bool c1) (.slice xa5 S5.length xc5) (.slice ya5 D5.length yc5)) := B284.out.go hB
  have B297 : Hid (Abx v14 (v12.heap.size) (.bool c1) (.slice xa6 sz1.length xc6) (.slice ya6 dz1.length yc6)) := B285.out.go hB
  have B298 : Hid (Abx v14 (v13.heap.size) (.bool c1) (.slice xa7 sz1.length xc7) (.slice ya7 dz1.length yc7)) := B286.out.go hB
  have L299 : Hid (MidC (u213.heap.size) (v11.heap.size) v14 (xa5) (S5) (xc5)) := L287.out.go (by omega) hB
  have L300 : Hid (MidC (u213.heap.size) (v11.heap.size) v14 (ya5) (D5) (yc5)) := L288.out.go (by omega) hB
  have L301 : Hid (MidC (u231.heap.size) (v12.heap.size) v14 (xa6) (sz1) (xc6)) := L289.out.go (by omega) hB
  have L302 : Hid (MidC (u231.heap.size) (v12.heap.size) v14 (ya6) (dz1) (yc6)) := L290.out.go (by omega) hB
  have L303 : Hid (MidC (u253.heap.size) (v13.heap.size) v14 (xa7) (sz1) (xc7)) := L291.out.go (by omega) hB
  have L304 : Hid (MidC (u253.heap.size) (v13.heap.size) v14 (ya7) (dz1) (yc7)) := L292.out.go (by omega) hB
  have hb305 : Hid (Below w.heap.size w v14) := hb293.out.trans (hB.mono hb293.out.size)
  clear hB hb293 B283 B284 B285 B286 L287 L288 L289 L290 L291 L292
  have l306 := (B298.out).c0
  have l307 := (B298.out).c1
  have l308 := (B298.out).c2
  have l309 := (B295.out).c0
  have l310 := (B295.out).c1
  have l311 := (B295.out).c2
  go_wp2_with fail
  clear l306 l307 l308 l309 l310 l311
  refine (alike_eq c1 xa7 xc7 sz1 ya7 yc7 dz1 (some ⟨bs, os, none⟩) sc1 sz1 da1 dc1 dz1 rfl rfl x1_1 x2_1 _ (L303.out.is (by omega)) (L304.out.is (by omega)).1 ((HI1.out.1.below hb305.out).mono hb305.out.size) ((HI1.out.2.1.1.below hb305.out).mono hb305.out.size)).mono ?_
  rintro e v15 ⟨rfl, hB⟩
  have z312 : v14.heap.size ≤ v15.heap.size := hB.size
  have B313 : Hid (Abx v15 (w.heap.size) (.bool c1) (.slice (some ⟨bs, os, none⟩) sz1.length sc1) (.slice da1 dz1.length dc1)) := B295.out.go hB
  have B314 : Hid (Abx v15 (v11.heap.size) (.bool c1) (.slice xa5 S5.length xc5) (.slice ya5 D5.length yc5)) := B296.out.go hB
  have B315 : Hid (Abx v15 (v12.heap.size) (.bool c1) (.slice xa6 sz1.length xc6) (.slice ya6 dz1.length yc6)) := B297.out.go hB
  have B316 : Hid (Abx v15 (v13.heap.size) (.bool c1) (.slice xa7 sz1.length xc7) (.slice ya7 dz1.length yc7)) := B298.out.go hB
  have L317 : Hid (MidC (u213.heap.size) (v11.heap.size) v15 (xa5) (S5) (xc5)) := L299.out.go (by omega) hB
  have L318 : Hid (MidC (u213.heap.size) (v11.heap.size) v15 (ya5) (D5) (yc5)) := L300.out.go (by omega) hB
  have L319 : Hid (MidC (u231.heap.size) (v12.heap.size) v15 (xa6) (sz1) (xc6)) := L301.out.go (by omega) hB
  have L320 : Hid (MidC (u231.heap.size) (v12.heap.size) v15 (ya6) (dz1) (yc6)) := L302.out.go (by omega) hB
  have L321 : Hid (MidC (u253.heap.size) (v13.heap.size) v15 (xa7) (sz1) (xc7)) := L303.out.go (by omega) hB
  have L322 : Hid (MidC (u253.heap.size) (v13.heap.size) v15 (ya7) (dz1) (yc7)) := L304.out.go (by omega) hB
  have hb323 : Hid (Below w.heap.size w v15) := hb305.out.trans (hB.mono hb305.out.size)
  clear hB hb305 B295 B296 B297 B298 L299 L300 L301 L302 L303 L304
  go_wp2_with fail
  go_ret
  exact ⟨rfl, hb323.out⟩
end Go.Proofs.Ytldjgacnjogbnab
