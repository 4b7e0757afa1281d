/-
  The walk of the statement CutAgain, where nothing is wrong, given what the program tells.
-/
import Derived.Test.YtldjgacnjogbnabCAgainWalk
import Derived.Test.YtldjgacnjogbnabMidc
namespace Go.Proofs.Ytldjgacnjogbnab
open Go.RowKit
set_option linter.unusedVariables false

set_option maxRecDepth 100000 in
set_option maxHeartbeats 8000000 in
theorem again_lt (HT : CTk) (HDr : CDr) (M N : Nat) (hM : M ≤ 4096) (hN : N ≤ 4096) (c1 : Bool) (sa1 : Option Addr) (sc1 : Nat) (sz1 : List Int) (da1 : Option Addr) (dc1 : Nat) (dz1 : List Int) (w : World) (w9 : IsArrD w sa1 sz1 sc1 da1 dz1 dc1) (F1 : Hid (sz1 = [(dz1.length : Int)] ∧ flawE c1 sz1 dz1 = 0)) (hlt : N < M) :
    Calls Try.prog 7 #[.int .i64 (M : Int), .int .i64 (N : Int), .agg #[.bool c1, .slice sa1 sz1.length sc1, .slice da1 dz1.length dc1]] w fun e w' => e = .returned (.bool true) ∧ Below w.heap.size w w' := by
  obtain ⟨x1, x2, x3, x4, s64, T⟩ := w9
  have HI : Hid (IsC w.heap.size w sa1 sz1 sc1 ∧ IsC w.heap.size w da1 dz1 dc1 ∧ ∀ j, In64 (nth dz1 j)) := ⟨x3, x4, T⟩
  clear x3 x4 T s64
  have HL : Hid (dz1.length ≤ 4096) := by have h := F1.out.2; rw [F1.out.1] at h; exact (one_flaw h).2
  have F0 : Hid (flawE c1 [(dz1.length : Int)] dz1 = 0) := by have h := F1.out.2; rw [F1.out.1] at h; exact h
  have t1 : ((sz1.length : Int) != 1) = false := by rw [F1.out.1]; rfl
  have hF : N ≤ 4096 := by omega
  obtain ⟨D1, hD1⟩ : ∃ D, D = tk1 c1 M dz1 := ⟨_, rfl⟩
  have HD1 : Hid (D1 = tk1 c1 M dz1) := hD1
  clear hD1
  obtain ⟨S1, hS1⟩ : ∃ S : List Int, S = [(M : Int)] := ⟨_, rfl⟩
  have HS1 : Hid (S1 = [(M : Int)]) := hS1
  clear hS1
  obtain ⟨D2, hD2⟩ : ∃ D, D = tk1 c1 N D1 := ⟨_, rfl⟩
  have HD2 : Hid (D2 = tk1 c1 N D1) := hD2
  clear hD2
  obtain ⟨S2, hS2⟩ : ∃ S : List Int, S = [(N : Int)] := ⟨_, rfl⟩
  have HS2 : Hid (S2 = [(N : Int)]) := hS2
  clear hS2
  obtain ⟨D3, hD3⟩ : ∃ D, D = tk1 c1 N D2 := ⟨_, rfl⟩
  have HD3 : Hid (D3 = tk1 c1 N D2) := hD3
  clear hD3
  obtain ⟨S3, hS3⟩ : ∃ S : List Int, S = [(N : Int)] := ⟨_, rfl⟩
  have HS3 : Hid (S3 = [(N : Int)]) := hS3
  clear hS3
  obtain ⟨D4, hD4⟩ : ∃ D, D = tk1 c1 N dz1 := ⟨_, rfl⟩
  have HD4 : Hid (D4 = tk1 c1 N dz1) := hD4
  clear hD4
  obtain ⟨S4, hS4⟩ : ∃ S : List Int, S = [(N : Int)] := ⟨_, rfl⟩
  have HS4 : Hid (S4 = [(N : Int)]) := hS4
  clear hS4
  obtain ⟨D5, hD5⟩ : ∃ D, D = dz1.drop M := ⟨_, rfl⟩
  have HD5 : Hid (D5 = dz1.drop M) := hD5
  clear hD5
  obtain ⟨S5, hS5⟩ : ∃ S : List Int, S = [(D5.length : Int)] := ⟨_, rfl⟩
  have HS5 : Hid (S5 = [(D5.length : Int)]) := hS5
  clear hS5
  obtain ⟨D6, hD6⟩ : ∃ D, D = D5.drop N := ⟨_, rfl⟩
  have HD6 : Hid (D6 = D5.drop N) := hD6
  clear hD6
  obtain ⟨S6, hS6⟩ : ∃ S : List Int, S = [(D6.length : Int)] := ⟨_, rfl⟩
  have HS6 : Hid (S6 = [(D6.length : Int)]) := hS6
  clear hS6
  obtain ⟨D7, hD7⟩ : ∃ D, D = dz1.drop (M + N) := ⟨_, rfl⟩
  have HD7 : Hid (D7 = dz1.drop (M + N)) := hD7
  clear hD7
  obtain ⟨S7, hS7⟩ : ∃ S : List Int, S = [(D7.length : Int)] := ⟨_, rfl⟩
  have HS7 : Hid (S7 = [(D7.length : Int)]) := hS7
  clear hS7
  have G1 : Hid (flawE c1 [(M : Int)] D1 = 0 ∧ D1.length = M ∧ ∀ j, In64 (nth D1 j)) := by rw [HD1.out]; exact ⟨tk1_flaw F0.out hM, tk1_length _ _ _, tk1_64 F0.out HI.out.2.2 hM⟩
  have G2 : Hid (flawE c1 [(N : Int)] D2 = 0 ∧ D2.length = N ∧ ∀ j, In64 (nth D2 j)) := by rw [HD2.out]; exact ⟨tk1_flaw (by rw [G1.out.2.1]; exact G1.out.1) hN, tk1_length _ _ _, tk1_64 (by rw [G1.out.2.1]; exact G1.out.1) G1.out.2.2 hN⟩
  have G3 : Hid (D3.length = N ∧ D4 = D3) := by rw [HD3.out, HD4.out, HD2.out, HD1.out]; exact ⟨tk1_length _ _ _, by rw [tk1_tk1 _ (by omega), tk1_tk1 _ (by omega)]⟩
  have G5 : Hid (flawE c1 [(D5.length : Int)] D5 = 0 ∧ D5.length ≤ 4096 ∧ ∀ j, In64 (nth D5 j)) := by rw [HD5.out]; exact ⟨dr1_flaw F0.out M, by have := HL.out; rw [List.length_drop]; omega, dr1_64 HI.out.2.2 M⟩
  have G6 : Hid (D6.length ≤ 4096 ∧ D7 = D6) := by rw [HD6.out, HD7.out, HD5.out]; exact ⟨by have := HL.out; rw [List.length_drop, List.length_drop]; omega, by rw [List.drop_drop]⟩
  have n1 := Abx.new w (.bool c1) (.slice sa1 sz1.length sc1) (.slice da1 dz1.length dc1)
  have n2 := lit_mid (w.alloc (.cells #[.bool c1, .slice sa1 sz1.length sc1, .slice da1 dz1.length dc1] 24)) 3 [1] 1 rfl
  simp only [World.size_alloc, List.map_cons, List.map_nil] at n2
  have n3 := lit_mid ((w.alloc (.cells #[.bool c1, .slice sa1 sz1.length sc1, .slice da1 dz1.length dc1] 24)).alloc (.cells #[.int .i64 1] 3)) 3 [1, 2, 3] 3 rfl
  simp only [World.size_alloc, List.map_cons, List.map_nil] at n3
  go_enter Try.func7, Try.ntmps7
  go_wp2_with fail
  obtain ⟨u4, hu4⟩ : ∃ u4, u4 = (((w.alloc (.cells #[.bool c1, .slice sa1 sz1.length sc1, .slice da1 dz1.length dc1] 24)).alloc (.cells #[.int .i64 1] 3)).alloc (.cells #[.int .i64 1, .int .i64 2, .int .i64 3] 3)) := ⟨_, rfl⟩
  rw [← hu4]
  have z5 : w.heap.size + 1 + 1 + 1 ≤ u4.heap.size := by rw [hu4]; simp only [World.size_alloc]; omega
  have B6 : Hid (Abx u4 (w.heap.size) (.bool c1) (.slice sa1 sz1.length sc1) (.slice da1 dz1.length dc1)) := by rw [hu4]; exact ((n1.al (.cells #[.int .i64 1] 3)).al (.cells #[.int .i64 1, .int .i64 2, .int .i64 3] 3))
  have L7 : Hid (MidC (w.heap.size + 1) (w.heap.size + 1 + 1) u4 (some ⟨w.heap.size + 1, 0, none⟩) ([1]) (1)) := by rw [hu4]; exact (n2.al (by simp only [World.size_alloc]; omega) (.cells #[.int .i64 1, .int .i64 2, .int .i64 3] 3))
  have L8 : Hid (MidC (w.heap.size + 1 + 1) (w.heap.size + 1 + 1 + 1) u4 (some ⟨w.heap.size + 1 + 1, 0, none⟩) ([1, 2, 3]) (3)) := by rw [hu4]; exact n3
  have hb9 : Hid (Below w.heap.size w u4) := by rw [hu4]; exact ((((Below.refl w.heap.size w).alloc (by omega) (.cells #[.bool c1, .slice sa1 sz1.length sc1, .slice da1 dz1.length dc1] 24)).alloc (by simp only [World.size_alloc]; omega) (.cells #[.int .i64 1] 3)).alloc (by simp only [World.size_alloc]; omega) (.cells #[.int .i64 1, .int .i64 2, .int .i64 3] 3))
  have zu4 : w.heap.size ≤ u4.heap.size := hb9.out.size
  clear hu4 n1 n2 n3
  refine (vec_c (some ⟨w.heap.size + 1 + 1, 0, none⟩) 3 [1, 2, 3] (by simp) _ (L8.out.is (by omega)).1).mono ?_
  rintro e v1 ⟨va, vc, ga, gc, rfl, hV, hG, hB⟩
  have z10 : u4.heap.size ≤ v1.heap.size := hB.size
  have B11 : Hid (Abx v1 (w.heap.size) (.bool c1) (.slice sa1 sz1.length sc1) (.slice da1 dz1.length dc1)) := B6.out.go hB
  have L12 : Hid (MidC (w.heap.size + 1) (w.heap.size + 1 + 1) v1 (some ⟨w.heap.size + 1, 0, none⟩) ([1]) (1)) := L7.out.go (by omega) hB
  have L13 : Hid (MidC (w.heap.size + 1 + 1) (w.heap.size + 1 + 1 + 1) v1 (some ⟨w.heap.size + 1 + 1, 0, none⟩) ([1, 2, 3]) (3)) := L8.out.go (by omega) hB
  have hb14 : Hid (Below w.heap.size w v1) := hb9.out.trans (hB.mono hb9.out.size)
  have L15 : Hid (MidC (u4.heap.size) (v1.heap.size) v1 (va) ([(3 : Int)]) (vc)) := hV.midc
  have L16 : Hid (MidC (u4.heap.size) (v1.heap.size) v1 (ga) ([1, 2, 3]) (gc)) := hG.midc
  clear hB hb9 B6 L7 L8 hV hG
  clear L13
  go_wp2_with fail
  refine (dr_ok (some ⟨w.heap.size + 1, 0, none⟩) 1 [1] false va vc [3] ga gc [1, 2, 3] _ (by simp) (lit_all (by decide)) (L12.out.is (by omega)) (by simp) (by simp) (L15.out.is (by omega)) (L16.out.is (by omega)) (lit_all (by decide)) [2] [2, 3] HDr (by decide)).mono ?_
  rintro e v2 ⟨f1, g1, f2, g2, rfl, hX0, hY0, hB⟩
  have z17 : v1.heap.size ≤ v2.heap.size := hB.size
  have B18 : Hid (Abx v2 (w.heap.size) (.bool c1) (.slice sa1 sz1.length sc1) (.slice da1 dz1.length dc1)) := B11.out.go hB
  have L19 : Hid (MidC (w.heap.size + 1) (w.heap.size + 1 + 1) v2 (some ⟨w.heap.size + 1, 0, none⟩) ([1]) (1)) := L12.out.go (by omega) hB
  have L20 : Hid (MidC (u4.heap.size) (v1.heap.size) v2 (va) ([(3 : Int)]) (vc)) := L15.out.go (by omega) hB
  have L21 : Hid (MidC (u4.heap.size) (v1.heap.size) v2 (ga) ([1, 2, 3]) (gc)) := L16.out.go (by omega) hB
  have hb22 : Hid (Below w.heap.size w v2) := hb14.out.trans (hB.mono hb14.out.size)
  have L23 : Hid (MidC (v1.heap.size) (v2.heap.size) v2 (f1) ([2]) (g1)) := hX0.midc
  have L24 : Hid (MidC (v1.heap.size) (v2.heap.size) v2 (f2) ([2, 3]) (g2)) := hY0.midc
  clear hB hb14 B11 L12 L15 L16 hX0 hY0
  clear L20 L21 L19
  have n25 := Abx.new v2 (.bool false) (.slice f1 1 g1) (.slice f2 2 g2)
  have l26 := (n25).c0
  have l27 := (n25).c1
  have l28 := (n25).c2
  have n29 := lit_mid (v2.alloc (.cells #[.bool false, .slice f1 1 g1, .slice f2 2 g2] 24)) 3 [2, 3] 2 rfl
  simp only [World.size_alloc, List.map_cons, List.map_nil] at n29
  go_wp2_with fail
  obtain ⟨u30, hu30⟩ : ∃ u30, u30 = ((v2.alloc (.cells #[.bool false, .slice f1 1 g1, .slice f2 2 g2] 24)).alloc (.cells #[.int .i64 2, .int .i64 3] 3)) := ⟨_, rfl⟩
  rw [← hu30]
  have z31 : v2.heap.size + 1 + 1 ≤ u30.heap.size := by rw [hu30]; simp only [World.size_alloc]; omega
  have B32 : Hid (Abx u30 (w.heap.size) (.bool c1) (.slice sa1 sz1.length sc1) (.slice da1 dz1.length dc1)) := by rw [hu30]; exact ((B18.out.al (.cells #[.bool false, .slice f1 1 g1, .slice f2 2 g2] 24)).al (.cells #[.int .i64 2, .int .i64 3] 3))
  have B33 : Hid (Abx u30 (v2.heap.size) (.bool false) (.slice f1 1 g1) (.slice f2 2 g2)) := by rw [hu30]; exact (n25.al (.cells #[.int .i64 2, .int .i64 3] 3))
  have L34 : Hid (MidC (v1.heap.size) (v2.heap.size) u30 (f1) ([2]) (g1)) := by rw [hu30]; exact ((L23.out.al (by omega) (.cells #[.bool false, .slice f1 1 g1, .slice f2 2 g2] 24)).al (by simp only [World.size_alloc]; omega) (.cells #[.int .i64 2, .int .i64 3] 3))
  have L35 : Hid (MidC (v1.heap.size) (v2.heap.size) u30 (f2) ([2, 3]) (g2)) := by rw [hu30]; exact ((L24.out.al (by omega) (.cells #[.bool false, .slice f1 1 g1, .slice f2 2 g2] 24)).al (by simp only [World.size_alloc]; omega) (.cells #[.int .i64 2, .int .i64 3] 3))
  have L36 : Hid (MidC (v2.heap.size + 1) (v2.heap.size + 1 + 1) u30 (some ⟨v2.heap.size + 1, 0, none⟩) ([2, 3]) (2)) := by rw [hu30]; exact n29
  have hb37 : Hid (Below w.heap.size w u30) := by rw [hu30]; exact ((hb22.out.alloc (by omega) (.cells #[.bool false, .slice f1 1 g1, .slice f2 2 g2] 24)).alloc (by simp only [World.size_alloc]; omega) (.cells #[.int .i64 2, .int .i64 3] 3))
  have zu30 : w.heap.size ≤ u30.heap.size := hb37.out.size
  clear hu30 n25 l26 l27 l28 n29 hb22 B18 L23 L24
  refine (ints_any f2 g2 [2, 3] (some ⟨v2.heap.size + 1, 0, none⟩) 2 [2, 3] (by simp) _ _ (L35.out.is (by omega)).1 (L36.out.is (by omega)).1).mono ?_
  rintro e v3 ⟨rfl, hB⟩
  have z38 : u30.heap.size ≤ v3.heap.size := hB.size
  have B39 : Hid (Abx v3 (w.heap.size) (.bool c1) (.slice sa1 sz1.length sc1) (.slice da1 dz1.length dc1)) := B32.out.go hB
  have B40 : Hid (Abx v3 (v2.heap.size) (.bool false) (.slice f1 1 g1) (.slice f2 2 g2)) := B33.out.go hB
  have L41 : Hid (MidC (v1.heap.size) (v2.heap.size) v3 (f1) ([2]) (g1)) := L34.out.go (by omega) hB
  have L42 : Hid (MidC (v1.heap.size) (v2.heap.size) v3 (f2) ([2, 3]) (g2)) := L35.out.go (by omega) hB
  have L43 : Hid (MidC (v2.heap.size + 1) (v2.heap.size + 1 + 1) v3 (some ⟨v2.heap.size + 1, 0, none⟩) ([2, 3]) (2)) := L36.out.go (by omega) hB
  have hb44 : Hid (Below w.heap.size w v3) := hb37.out.trans (hB.mono hb37.out.size)
  clear hB hb37 B32 B33 L34 L35 L36
  rw [eqB_true rfl]
  clear L41 L42 L43 B40
  have l45 := (B39.out).c0
  have l46 := (B39.out).c1
  have l47 := (B39.out).c2
  go_wp2_with fail
  clear l45 l46 l47
  refine (check_ok c1 sa1 sc1 sz1 da1 dc1 dz1 x1 x2 _ ((HI.out.1.1.below hb44.out).mono hb44.out.size) ((HI.out.2.1.1.below hb44.out).mono hb44.out.size) F1.out.2).mono ?_
  rintro e v4 ⟨rfl, hB⟩
  have z48 : v3.heap.size ≤ v4.heap.size := hB.size
  have B49 : Hid (Abx v4 (w.heap.size) (.bool c1) (.slice sa1 sz1.length sc1) (.slice da1 dz1.length dc1)) := B39.out.go hB
  have hb50 : Hid (Below w.heap.size w v4) := hb44.out.trans (hB.mono hb44.out.size)
  clear hB hb44 B39
  have l51 := (B49.out).c0
  have l52 := (B49.out).c1
  have l53 := (B49.out).c2
  have n54 := lit_mid v4 3 [(M : Int)] 1 rfl
  simp only [List.map_cons, List.map_nil] at n54
  have l55 := ((B49.out.al (.cells #[.int .i64 ((M : Int))] 3))).c0
  have l56 := ((B49.out.al (.cells #[.int .i64 ((M : Int))] 3))).c1
  have l57 := ((B49.out.al (.cells #[.int .i64 ((M : Int))] 3))).c2
  go_wp2_with fail
  obtain ⟨u58, hu58⟩ : ∃ u58, u58 = (v4.alloc (.cells #[.int .i64 ((M : Int))] 3)) := ⟨_, rfl⟩
  rw [← hu58]
  have z59 : v4.heap.size + 1 ≤ u58.heap.size := by rw [hu58]; simp only [World.size_alloc]; omega
  have B60 : Hid (Abx u58 (w.heap.size) (.bool c1) (.slice sa1 sz1.length sc1) (.slice da1 dz1.length dc1)) := by rw [hu58]; exact (B49.out.al (.cells #[.int .i64 ((M : Int))] 3))
  have L61 : Hid (MidC (v4.heap.size) (v4.heap.size + 1) u58 (some ⟨v4.heap.size, 0, none⟩) ([(M : Int)]) (1)) := by rw [hu58]; exact n54
  have hb62 : Hid (Below w.heap.size w u58) := by rw [hu58]; exact (hb50.out.alloc (by omega) (.cells #[.int .i64 ((M : Int))] 3))
  have zu58 : w.heap.size ≤ u58.heap.size := hb62.out.size
  clear hu58 l51 l52 l53 n54 l55 l56 l57 hb50 B49 t1
  refine (tk_ok (some ⟨v4.heap.size, 0, none⟩) 1 [(M : Int)] c1 sa1 sc1 sz1 da1 dc1 dz1 _ (by simp) (one64 (by unfold In64; omega)) (L61.out.is (by omega)) x1 x2 ((HI.out.1.below hb62.out).mono hb62.out.size) ((HI.out.2.1.below hb62.out).mono hb62.out.size) HI.out.2.2 S1 D1 HT (by rw [HD1.out, HS1.out, F1.out.1]; exact tk_one F0.out hM)).mono ?_
  rintro e v5 ⟨xa1, xc1, ya1, yc1, rfl, hX1, hY1, hB⟩
  have z63 : u58.heap.size ≤ v5.heap.size := hB.size
  have B64 : Hid (Abx v5 (w.heap.size) (.bool c1) (.slice sa1 sz1.length sc1) (.slice da1 dz1.length dc1)) := B60.out.go hB
  have L65 : Hid (MidC (v4.heap.size) (v4.heap.size + 1) v5 (some ⟨v4.heap.size, 0, none⟩) ([(M : Int)]) (1)) := L61.out.go (by omega) hB
  have hb66 : Hid (Below w.heap.size w v5) := hb62.out.trans (hB.mono hb62.out.size)
  have L67 : Hid (MidC (u58.heap.size) (v5.heap.size) v5 (xa1) (S1) (xc1)) := hX1.midc
  have L68 : Hid (MidC (u58.heap.size) (v5.heap.size) v5 (ya1) (D1) (yc1)) := hY1.midc
  clear hB hb62 B60 L61 hX1 hY1
  clear L65
  have n69 := Abx.new v5 (.bool c1) (.slice xa1 S1.length xc1) (.slice ya1 D1.length yc1)
  have n70 := lit_mid (v5.alloc (.cells #[.bool c1, .slice xa1 S1.length xc1, .slice ya1 D1.length yc1] 24)) 3 [(N : Int)] 1 rfl
  simp only [World.size_alloc, List.map_cons, List.map_nil] at n70
  have l71 := ((n69.al (.cells #[.int .i64 ((N : Int))] 3))).c0
  have l72 := ((n69.al (.cells #[.int .i64 ((N : Int))] 3))).c1
  have l73 := ((n69.al (.cells #[.int .i64 ((N : Int))] 3))).c2
  go_wp2_with fail
  obtain ⟨u74, hu74⟩ : ∃ u74, u74 = ((v5.alloc (.cells #[.bool c1, .slice xa1 S1.length xc1, .slice ya1 D1.length yc1] 24)).alloc (.cells #[.int .i64 ((N : Int))] 3)) := ⟨_, rfl⟩
  rw [← hu74]
  have z75 : v5.heap.size + 1 + 1 ≤ u74.heap.size := by rw [hu74]; simp only [World.size_alloc]; omega
  have B76 : Hid (Abx u74 (w.heap.size) (.bool c1) (.slice sa1 sz1.length sc1) (.slice da1 dz1.length dc1)) := by rw [hu74]; exact ((B64.out.al (.cells #[.bool c1, .slice xa1 S1.length xc1, .slice ya1 D1.length yc1] 24)).al (.cells #[.int .i64 ((N : Int))] 3))
  have B77 : Hid (Abx u74 (v5.heap.size) (.bool c1) (.slice xa1 S1.length xc1) (.slice ya1 D1.length yc1)) := by rw [hu74]; exact (n69.al (.cells #[.int .i64 ((N : Int))] 3))
  have L78 : Hid (MidC (u58.heap.size) (v5.heap.size) u74 (xa1) (S1) (xc1)) := by rw [hu74]; exact ((L67.out.al (by omega) (.cells #[.bool c1, .slice xa1 S1.length xc1, .slice ya1 D1.length yc1] 24)).al (by simp only [World.size_alloc]; omega) (.cells #[.int .i64 ((N : Int))] 3))
  have L79 : Hid (MidC (u58.heap.size) (v5.heap.size) u74 (ya1) (D1) (yc1)) := by rw [hu74]; exact ((L68.out.al (by omega) (.cells #[.bool c1, .slice xa1 S1.length xc1, .slice ya1 D1.length yc1] 24)).al (by simp only [World.size_alloc]; omega) (.cells #[.int .i64 ((N : Int))] 3))
  have L80 : Hid (MidC (v5.heap.size + 1) (v5.heap.size + 1 + 1) u74 (some ⟨v5.heap.size + 1, 0, none⟩) ([(N : Int)]) (1)) := by rw [hu74]; exact n70
  have hb81 : Hid (Below w.heap.size w u74) := by rw [hu74]; exact ((hb66.out.alloc (by omega) (.cells #[.bool c1, .slice xa1 S1.length xc1, .slice ya1 D1.length yc1] 24)).alloc (by simp only [World.size_alloc]; omega) (.cells #[.int .i64 ((N : Int))] 3))
  have zu74 : w.heap.size ≤ u74.heap.size := hb81.out.size
  clear hu74 n69 n70 l71 l72 l73 hb66 B64 L67 L68
  refine (tk_ok (some ⟨v5.heap.size + 1, 0, none⟩) 1 [(N : Int)] c1 xa1 xc1 S1 ya1 yc1 D1 _ (by simp) (one64 (by unfold In64; omega)) (L80.out.is (by omega)) (by rw [HS1.out]; simp) (by have := G1.out.2.1; omega) (L78.out.is (by omega)) (L79.out.is (by omega)) G1.out.2.2 S2 D2 HT (by rw [HD2.out, HS1.out, HS2.out]; exact tk_onen G1.out.2.1 G1.out.1 hN)).mono ?_
  rintro e v6 ⟨xa2, xc2, ya2, yc2, rfl, hX2, hY2, hB⟩
  have z82 : u74.heap.size ≤ v6.heap.size := hB.size
  have B83 : Hid (Abx v6 (w.heap.size) (.bool c1) (.slice sa1 sz1.length sc1) (.slice da1 dz1.length dc1)) := B76.out.go hB
  have B84 : Hid (Abx v6 (v5.heap.size) (.bool c1) (.slice xa1 S1.length xc1) (.slice ya1 D1.length yc1)) := B77.out.go hB
  have L85 : Hid (MidC (u58.heap.size) (v5.heap.size) v6 (xa1) (S1) (xc1)) := L78.out.go (by omega) hB
  have L86 : Hid (MidC (u58.heap.size) (v5.heap.size) v6 (ya1) (D1) (yc1)) := L79.out.go (by omega) hB
  have L87 : Hid (MidC (v5.heap.size + 1) (v5.heap.size + 1 + 1) v6 (some ⟨v5.heap.size + 1, 0, none⟩) ([(N : Int)]) (1)) := L80.out.go (by omega) hB
  have hb88 : Hid (Below w.heap.size w v6) := hb81.out.trans (hB.mono hb81.out.size)
  have L89 : Hid (MidC (u74.heap.size) (v6.heap.size) v6 (xa2) (S2) (xc2)) := hX2.midc
  have L90 : Hid (MidC (u74.heap.size) (v6.heap.size) v6 (ya2) (D2) (yc2)) := hY2.midc
  clear hB hb81 B76 B77 L78 L79 L80 hX2 hY2
  clear L87
  clear L85 L86
  have l91 := (B84.out).fr 0
  have l92 := (B84.out).c0
  have l93 := (B84.out).fr 1
  have l94 := (B84.out).c1
  have l95 := (B84.out).fr 2
  have l96 := (B84.out).c2
  have n97 := lit_mid (((v6.setCell ⟨v5.heap.size, 0, none⟩ (.bool c1)).setCell ⟨v5.heap.size, 1, none⟩ (.slice xa2 S2.length xc2)).setCell ⟨v5.heap.size, 2, none⟩ (.slice ya2 D2.length yc2)) 3 [(N : Int)] 1 rfl
  simp only [World.size_setCell, List.map_cons, List.map_nil] at n97
  have l98 := (((B84.out.set3 (.bool c1) (.slice xa2 S2.length xc2) (.slice ya2 D2.length yc2)).al (.cells #[.int .i64 ((N : Int))] 3))).c0
  have l99 := (((B84.out.set3 (.bool c1) (.slice xa2 S2.length xc2) (.slice ya2 D2.length yc2)).al (.cells #[.int .i64 ((N : Int))] 3))).c1
  have l100 := (((B84.out.set3 (.bool c1) (.slice xa2 S2.length xc2) (.slice ya2 D2.length yc2)).al (.cells #[.int .i64 ((N : Int))] 3))).c2
  go_wp2_with fail
  obtain ⟨u101, hu101⟩ : ∃ u101, u101 = ((((v6.setCell ⟨v5.heap.size, 0, none⟩ (.bool c1)).setCell ⟨v5.heap.size, 1, none⟩ (.slice xa2 S2.length xc2)).setCell ⟨v5.heap.size, 2, none⟩ (.slice ya2 D2.length yc2)).alloc (.cells #[.int .i64 ((N : Int))] 3)) := ⟨_, rfl⟩
  rw [← hu101]
  have z102 : v6.heap.size + 1 ≤ u101.heap.size := by rw [hu101]; simp only [World.size_alloc, World.size_setCell]; omega
  have B103 : Hid (Abx u101 (w.heap.size) (.bool c1) (.slice sa1 sz1.length sc1) (.slice da1 dz1.length dc1)) := by rw [hu101]; exact ((abx_o3 B83.out (B := v5.heap.size) (by omega) (.bool c1) (.slice xa2 S2.length xc2) (.slice ya2 D2.length yc2)).al (.cells #[.int .i64 ((N : Int))] 3))
  have B104 : Hid (Abx u101 (v5.heap.size) (.bool c1) (.slice xa2 S2.length xc2) (.slice ya2 D2.length yc2)) := by rw [hu101]; exact ((B84.out.set3 (.bool c1) (.slice xa2 S2.length xc2) (.slice ya2 D2.length yc2)).al (.cells #[.int .i64 ((N : Int))] 3))
  have L105 : Hid (MidC (u74.heap.size) (v6.heap.size) u101 (xa2) (S2) (xc2)) := by rw [hu101]; exact ((L89.out.s3 (b := v5.heap.size) (by omega) (.bool c1) (.slice xa2 S2.length xc2) (.slice ya2 D2.length yc2)).al (by simp only [World.size_setCell]; omega) (.cells #[.int .i64 ((N : Int))] 3))
  have L106 : Hid (MidC (u74.heap.size) (v6.heap.size) u101 (ya2) (D2) (yc2)) := by rw [hu101]; exact ((L90.out.s3 (b := v5.heap.size) (by omega) (.bool c1) (.slice xa2 S2.length xc2) (.slice ya2 D2.length yc2)).al (by simp only [World.size_setCell]; omega) (.cells #[.int .i64 ((N : Int))] 3))
  have L107 : Hid (MidC (v6.heap.size) (v6.heap.size + 1) u101 (some ⟨v6.heap.size, 0, none⟩) ([(N : Int)]) (1)) := by rw [hu101]; exact n97
  have hb108 : Hid (Below w.heap.size w u101) := by rw [hu101]; exact ((bel_s3 hb88.out (B := v5.heap.size) (by omega) (.bool c1) (.slice xa2 S2.length xc2) (.slice ya2 D2.length yc2)).alloc (by simp only [World.size_setCell]; omega) (.cells #[.int .i64 ((N : Int))] 3))
  have zu101 : w.heap.size ≤ u101.heap.size := hb108.out.size
  clear hu101 l91 l92 l93 l94 l95 l96 n97 l98 l99 l100 hb88 B83 B84 L89 L90
  refine (tk_ok (some ⟨v6.heap.size, 0, none⟩) 1 [(N : Int)] c1 xa2 xc2 S2 ya2 yc2 D2 _ (by simp) (one64 (by unfold In64; omega)) (L107.out.is (by omega)) (by rw [HS2.out]; simp) (by have := G2.out.2.1; omega) (L105.out.is (by omega)) (L106.out.is (by omega)) G2.out.2.2 S3 D3 HT (by rw [HD3.out, HS2.out, HS3.out]; exact tk_onen G2.out.2.1 G2.out.1 hF)).mono ?_
  rintro e v7 ⟨xa3, xc3, ya3, yc3, rfl, hX3, hY3, hB⟩
  have z109 : u101.heap.size ≤ v7.heap.size := hB.size
  have B110 : Hid (Abx v7 (w.heap.size) (.bool c1) (.slice sa1 sz1.length sc1) (.slice da1 dz1.length dc1)) := B103.out.go hB
  have B111 : Hid (Abx v7 (v5.heap.size) (.bool c1) (.slice xa2 S2.length xc2) (.slice ya2 D2.length yc2)) := B104.out.go hB
  have L112 : Hid (MidC (u74.heap.size) (v6.heap.size) v7 (xa2) (S2) (xc2)) := L105.out.go (by omega) hB
  have L113 : Hid (MidC (u74.heap.size) (v6.heap.size) v7 (ya2) (D2) (yc2)) := L106.out.go (by omega) hB
  have L114 : Hid (MidC (v6.heap.size) (v6.heap.size + 1) v7 (some ⟨v6.heap.size, 0, none⟩) ([(N : Int)]) (1)) := L107.out.go (by omega) hB
  have hb115 : Hid (Below w.heap.size w v7) := hb108.out.trans (hB.mono hb108.out.size)
  have L116 : Hid (MidC (u101.heap.size) (v7.heap.size) v7 (xa3) (S3) (xc3)) := hX3.midc
  have L117 : Hid (MidC (u101.heap.size) (v7.heap.size) v7 (ya3) (D3) (yc3)) := hY3.midc
  clear hB hb108 B103 B104 L105 L106 L107 hX3 hY3
  clear L114
  clear L112 L113
  have l118 := (B111.out).fr 0
  have l119 := (B111.out).c0
  have l120 := (B111.out).fr 1
  have l121 := (B111.out).c1
  have l122 := (B111.out).fr 2
  have l123 := (B111.out).c2
  have n124 := lit_mid (((v7.setCell ⟨v5.heap.size, 0, none⟩ (.bool c1)).setCell ⟨v5.heap.size, 1, none⟩ (.slice xa3 S3.length xc3)).setCell ⟨v5.heap.size, 2, none⟩ (.slice ya3 D3.length yc3)) 3 [(N : Int)] 1 rfl
  simp only [World.size_setCell, List.map_cons, List.map_nil] at n124
  have l125 := (((abx_o3 B110.out (B := v5.heap.size) (by omega) (.bool c1) (.slice xa3 S3.length xc3) (.slice ya3 D3.length yc3)).al (.cells #[.int .i64 ((N : Int))] 3))).c0
  have l126 := (((abx_o3 B110.out (B := v5.heap.size) (by omega) (.bool c1) (.slice xa3 S3.length xc3) (.slice ya3 D3.length yc3)).al (.cells #[.int .i64 ((N : Int))] 3))).c1
  have l127 := (((abx_o3 B110.out (B := v5.heap.size) (by omega) (.bool c1) (.slice xa3 S3.length xc3) (.slice ya3 D3.length yc3)).al (.cells #[.int .i64 ((N : Int))] 3))).c2
  go_wp2_with fail
  obtain ⟨u128, hu128⟩ : ∃ u128, u128 = ((((v7.setCell ⟨v5.heap.size, 0, none⟩ (.bool c1)).setCell ⟨v5.heap.size, 1, none⟩ (.slice xa3 S3.length xc3)).setCell ⟨v5.heap.size, 2, none⟩ (.slice ya3 D3.length yc3)).alloc (.cells #[.int .i64 ((N : Int))] 3)) := ⟨_, rfl⟩
  rw [← hu128]
  have z129 : v7.heap.size + 1 ≤ u128.heap.size := by rw [hu128]; simp only [World.size_alloc, World.size_setCell]; omega
  have B130 : Hid (Abx u128 (w.heap.size) (.bool c1) (.slice sa1 sz1.length sc1) (.slice da1 dz1.length dc1)) := by rw [hu128]; exact ((abx_o3 B110.out (B := v5.heap.size) (by omega) (.bool c1) (.slice xa3 S3.length xc3) (.slice ya3 D3.length yc3)).al (.cells #[.int .i64 ((N : Int))] 3))
  have B131 : Hid (Abx u128 (v5.heap.size) (.bool c1) (.slice xa3 S3.length xc3) (.slice ya3 D3.length yc3)) := by rw [hu128]; exact ((B111.out.set3 (.bool c1) (.slice xa3 S3.length xc3) (.slice ya3 D3.length yc3)).al (.cells #[.int .i64 ((N : Int))] 3))
  have L132 : Hid (MidC (u101.heap.size) (v7.heap.size) u128 (xa3) (S3) (xc3)) := by rw [hu128]; exact ((L116.out.s3 (b := v5.heap.size) (by omega) (.bool c1) (.slice xa3 S3.length xc3) (.slice ya3 D3.length yc3)).al (by simp only [World.size_setCell]; omega) (.cells #[.int .i64 ((N : Int))] 3))
  have L133 : Hid (MidC (u101.heap.size) (v7.heap.size) u128 (ya3) (D3) (yc3)) := by rw [hu128]; exact ((L117.out.s3 (b := v5.heap.size) (by omega) (.bool c1) (.slice xa3 S3.length xc3) (.slice ya3 D3.length yc3)).al (by simp only [World.size_setCell]; omega) (.cells #[.int .i64 ((N : Int))] 3))
  have L134 : Hid (MidC (v7.heap.size) (v7.heap.size + 1) u128 (some ⟨v7.heap.size, 0, none⟩) ([(N : Int)]) (1)) := by rw [hu128]; exact n124
  have hb135 : Hid (Below w.heap.size w u128) := by rw [hu128]; exact ((bel_s3 hb115.out (B := v5.heap.size) (by omega) (.bool c1) (.slice xa3 S3.length xc3) (.slice ya3 D3.length yc3)).alloc (by simp only [World.size_setCell]; omega) (.cells #[.int .i64 ((N : Int))] 3))
  have zu128 : w.heap.size ≤ u128.heap.size := hb135.out.size
  clear hu128 l118 l119 l120 l121 l122 l123 n124 l125 l126 l127 hb115 B110 B111 L116 L117
  refine (tk_ok (some ⟨v7.heap.size, 0, none⟩) 1 [(N : Int)] c1 sa1 sc1 sz1 da1 dc1 dz1 _ (by simp) (one64 (by unfold In64; omega)) (L134.out.is (by omega)) x1 x2 ((HI.out.1.below hb135.out).mono hb135.out.size) ((HI.out.2.1.below hb135.out).mono hb135.out.size) HI.out.2.2 S4 D4 HT (by rw [HD4.out, HS4.out, F1.out.1]; exact tk_one F0.out hF)).mono ?_
  rintro e v8 ⟨xa4, xc4, ya4, yc4, rfl, hX4, hY4, hB⟩
  have z136 : u128.heap.size ≤ v8.heap.size := hB.size
  have B137 : Hid (Abx v8 (w.heap.size) (.bool c1) (.slice sa1 sz1.length sc1) (.slice da1 dz1.length dc1)) := B130.out.go hB
  have B138 : Hid (Abx v8 (v5.heap.size) (.bool c1) (.slice xa3 S3.length xc3) (.slice ya3 D3.length yc3)) := B131.out.go hB
  have L139 : Hid (MidC (u101.heap.size) (v7.heap.size) v8 (xa3) (S3) (xc3)) := L132.out.go (by omega) hB
  have L140 : Hid (MidC (u101.heap.size) (v7.heap.size) v8 (ya3) (D3) (yc3)) := L133.out.go (by omega) hB
  have L141 : Hid (MidC (v7.heap.size) (v7.heap.size + 1) v8 (some ⟨v7.heap.size, 0, none⟩) ([(N : Int)]) (1)) := L134.out.go (by omega) hB
  have hb142 : Hid (Below w.heap.size w v8) := hb135.out.trans (hB.mono hb135.out.size)
  have L143 : Hid (MidC (u128.heap.size) (v8.heap.size) v8 (xa4) (S4) (xc4)) := hX4.midc
  have L144 : Hid (MidC (u128.heap.size) (v8.heap.size) v8 (ya4) (D4) (yc4)) := hY4.midc
  clear hB hb135 B130 B131 L132 L133 L134 hX4 hY4
  clear L141
  have n145 := Abx.new v8 (.bool c1) (.slice xa4 S4.length xc4) (.slice ya4 D4.length yc4)
  have l146 := ((B138.out.al (.cells #[.bool c1, .slice xa4 S4.length xc4, .slice ya4 D4.length yc4] 24))).c0
  have l147 := ((B138.out.al (.cells #[.bool c1, .slice xa4 S4.length xc4, .slice ya4 D4.length yc4] 24))).c1
  have l148 := ((B138.out.al (.cells #[.bool c1, .slice xa4 S4.length xc4, .slice ya4 D4.length yc4] 24))).c2
  have l149 := (n145).c0
  have l150 := (n145).c1
  have l151 := (n145).c2
  go_wp2_with fail
  obtain ⟨u152, hu152⟩ : ∃ u152, u152 = (v8.alloc (.cells #[.bool c1, .slice xa4 S4.length xc4, .slice ya4 D4.length yc4] 24)) := ⟨_, rfl⟩
  rw [← hu152]
  have z153 : v8.heap.size + 1 ≤ u152.heap.size := by rw [hu152]; simp only [World.size_alloc]; omega
  have B154 : Hid (Abx u152 (w.heap.size) (.bool c1) (.slice sa1 sz1.length sc1) (.slice da1 dz1.length dc1)) := by rw [hu152]; exact (B137.out.al (.cells #[.bool c1, .slice xa4 S4.length xc4, .slice ya4 D4.length yc4] 24))
  have B155 : Hid (Abx u152 (v5.heap.size) (.bool c1) (.slice xa3 S3.length xc3) (.slice ya3 D3.length yc3)) := by rw [hu152]; exact (B138.out.al (.cells #[.bool c1, .slice xa4 S4.length xc4, .slice ya4 D4.length yc4] 24))
  have B156 : Hid (Abx u152 (v8.heap.size) (.bool c1) (.slice xa4 S4.length xc4) (.slice ya4 D4.length yc4)) := by rw [hu152]; exact n145
  have L157 : Hid (MidC (u101.heap.size) (v7.heap.size) u152 (xa3) (S3) (xc3)) := by rw [hu152]; exact (L139.out.al (by omega) (.cells #[.bool c1, .slice xa4 S4.length xc4, .slice ya4 D4.length yc4] 24))
  have L158 : Hid (MidC (u101.heap.size) (v7.heap.size) u152 (ya3) (D3) (yc3)) := by rw [hu152]; exact (L140.out.al (by omega) (.cells #[.bool c1, .slice xa4 S4.length xc4, .slice ya4 D4.length yc4] 24))
  have L159 : Hid (MidC (u128.heap.size) (v8.heap.size) u152 (xa4) (S4) (xc4)) := by rw [hu152]; exact (L143.out.al (by omega) (.cells #[.bool c1, .slice xa4 S4.length xc4, .slice ya4 D4.length yc4] 24))
  have L160 : Hid (MidC (u128.heap.size) (v8.heap.size) u152 (ya4) (D4) (yc4)) := by rw [hu152]; exact (L144.out.al (by omega) (.cells #[.bool c1, .slice xa4 S4.length xc4, .slice ya4 D4.length yc4] 24))
  have hb161 : Hid (Below w.heap.size w u152) := by rw [hu152]; exact (hb142.out.alloc (by omega) (.cells #[.bool c1, .slice xa4 S4.length xc4, .slice ya4 D4.length yc4] 24))
  have zu152 : w.heap.size ≤ u152.heap.size := hb161.out.size
  clear hu152 n145 l146 l147 l148 l149 l150 l151 hb142 B137 B138 L139 L140 L143 L144
  refine (alike_eq c1 xa3 xc3 S3 ya3 yc3 D3 xa4 xc4 S4 ya4 yc4 D4 (by rw [HS3.out, HS4.out]) G3.out.2 (by rw [HS3.out]; simp) (by have := G3.out.1; omega) _ (L157.out.is (by omega)) (L158.out.is (by omega)).1 (L159.out.is (by omega)) (L160.out.is (by omega)).1).mono ?_
  rintro e v9 ⟨rfl, hB⟩
  have z162 : u152.heap.size ≤ v9.heap.size := hB.size
  have B163 : Hid (Abx v9 (w.heap.size) (.bool c1) (.slice sa1 sz1.length sc1) (.slice da1 dz1.length dc1)) := B154.out.go hB
  have B164 : Hid (Abx v9 (v5.heap.size) (.bool c1) (.slice xa3 S3.length xc3) (.slice ya3 D3.length yc3)) := B155.out.go hB
  have B165 : Hid (Abx v9 (v8.heap.size) (.bool c1) (.slice xa4 S4.length xc4) (.slice ya4 D4.length yc4)) := B156.out.go hB
  have L166 : Hid (MidC (u101.heap.size) (v7.heap.size) v9 (xa3) (S3) (xc3)) := L157.out.go (by omega) hB
  have L167 : Hid (MidC (u101.heap.size) (v7.heap.size) v9 (ya3) (D3) (yc3)) := L158.out.go (by omega) hB
  have L168 : Hid (MidC (u128.heap.size) (v8.heap.size) v9 (xa4) (S4) (xc4)) := L159.out.go (by omega) hB
  have L169 : Hid (MidC (u128.heap.size) (v8.heap.size) v9 (ya4) (D4) (yc4)) := L160.out.go (by omega) hB
  have hb170 : Hid (Below w.heap.size w v9) := hb161.out.trans (hB.mono hb161.out.size)
  clear hB hb161 B154 B155 B156 L157 L158 L159 L160
  clear L166 L167 L168 L169 B164 B165
  have n171 := lit_mid v9 3 [(M : Int)] 1 rfl
  simp only [List.map_cons, List.map_nil] at n171
  have l172 := ((B163.out.al (.cells #[.int .i64 ((M : Int))] 3))).c0
  have l173 := ((B163.out.al (.cells #[.int .i64 ((M : Int))] 3))).c1
  have l174 := ((B163.out.al (.cells #[.int .i64 ((M : Int))] 3))).c2
  go_wp2_with fail
  obtain ⟨u175, hu175⟩ : ∃ u175, u175 = (v9.alloc (.cells #[.int .i64 ((M : Int))] 3)) := ⟨_, rfl⟩
  rw [← hu175]
  have z176 : v9.heap.size + 1 ≤ u175.heap.size := by rw [hu175]; simp only [World.size_alloc]; omega
  have B177 : Hid (Abx u175 (w.heap.size) (.bool c1) (.slice sa1 sz1.length sc1) (.slice da1 dz1.length dc1)) := by rw [hu175]; exact (B163.out.al (.cells #[.int .i64 ((M : Int))] 3))
  have L178 : Hid (MidC (v9.heap.size) (v9.heap.size + 1) u175 (some ⟨v9.heap.size, 0, none⟩) ([(M : Int)]) (1)) := by rw [hu175]; exact n171
  have hb179 : Hid (Below w.heap.size w u175) := by rw [hu175]; exact (hb170.out.alloc (by omega) (.cells #[.int .i64 ((M : Int))] 3))
  have zu175 : w.heap.size ≤ u175.heap.size := hb179.out.size
  clear hu175 n171 l172 l173 l174 hb170 B163
  refine (dr_ok (some ⟨v9.heap.size, 0, none⟩) 1 [(M : Int)] c1 sa1 sc1 sz1 da1 dc1 dz1 _ (by simp) (one64 (by unfold In64; omega)) (L178.out.is (by omega)) x1 x2 ((HI.out.1.below hb179.out).mono hb179.out.size) ((HI.out.2.1.below hb179.out).mono hb179.out.size) HI.out.2.2 S5 D5 HDr (by rw [HS5.out, HD5.out, F1.out.1]; exact dr_one F0.out M)).mono ?_
  rintro e v10 ⟨xa5, xc5, ya5, yc5, rfl, hX5, hY5, hB⟩
  have z180 : u175.heap.size ≤ v10.heap.size := hB.size
  have B181 : Hid (Abx v10 (w.heap.size) (.bool c1) (.slice sa1 sz1.length sc1) (.slice da1 dz1.length dc1)) := B177.out.go hB
  have L182 : Hid (MidC (v9.heap.size) (v9.heap.size + 1) v10 (some ⟨v9.heap.size, 0, none⟩) ([(M : Int)]) (1)) := L178.out.go (by omega) hB
  have hb183 : Hid (Below w.heap.size w v10) := hb179.out.trans (hB.mono hb179.out.size)
  have L184 : Hid (MidC (u175.heap.size) (v10.heap.size) v10 (xa5) (S5) (xc5)) := hX5.midc
  have L185 : Hid (MidC (u175.heap.size) (v10.heap.size) v10 (ya5) (D5) (yc5)) := hY5.midc
  clear hB hb179 B177 L178 hX5 hY5
  clear L182
  have n186 := Abx.new v10 (.bool c1) (.slice xa5 S5.length xc5) (.slice ya5 D5.length yc5)
  have n187 := lit_mid (v10.alloc (.cells #[.bool c1, .slice xa5 S5.length xc5, .slice ya5 D5.length yc5] 24)) 3 [(N : Int)] 1 rfl
  simp only [World.size_alloc, List.map_cons, List.map_nil] at n187
  have l188 := ((n186.al (.cells #[.int .i64 ((N : Int))] 3))).c0
  have l189 := ((n186.al (.cells #[.int .i64 ((N : Int))] 3))).c1
  have l190 := ((n186.al (.cells #[.int .i64 ((N : Int))] 3))).c2
  go_wp2_with fail
  obtain ⟨u191, hu191⟩ : ∃ u191, u191 = ((v10.alloc (.cells #[.bool c1, .slice xa5 S5.length xc5, .slice ya5 D5.length yc5] 24)).alloc (.cells #[.int .i64 ((N : Int))] 3)) := ⟨_, rfl⟩
  rw [← hu191]
  have z192 : v10.heap.size + 1 + 1 ≤ u191.heap.size := by rw [hu191]; simp only [World.size_alloc]; omega
  have B193 : Hid (Abx u191 (w.heap.size) (.bool c1) (.slice sa1 sz1.length sc1) (.slice da1 dz1.length dc1)) := by rw [hu191]; exact ((B181.out.al (.cells #[.bool c1, .slice xa5 S5.length xc5, .slice ya5 D5.length yc5] 24)).al (.cells #[.int .i64 ((N : Int))] 3))
  have B194 : Hid (Abx u191 (v10.heap.size) (.bool c1) (.slice xa5 S5.length xc5) (.slice ya5 D5.length yc5)) := by rw [hu191]; exact (n186.al (.cells #[.int .i64 ((N : Int))] 3))
  have L195 : Hid (MidC (u175.heap.size) (v10.heap.size) u191 (xa5) (S5) (xc5)) := by rw [hu191]; exact ((L184.out.al (by omega) (.cells #[.bool c1, .slice xa5 S5.length xc5, .slice ya5 D5.length yc5] 24)).al (by simp only [World.size_alloc]; omega) (.cells #[.int .i64 ((N : Int))] 3))
  have L196 : Hid (MidC (u175.heap.size) (v10.heap.size) u191 (ya5) (D5) (yc5)) := by rw [hu191]; exact ((L185.out.al (by omega) (.cells #[.bool c1, .slice xa5 S5.length xc5, .slice ya5 D5.length yc5] 24)).al (by simp only [World.size_alloc]; omega) (.cells #[.int .i64 ((N : Int))] 3))
  have L197 : Hid (MidC (v10.heap.size + 1) (v10.heap.size + 1 + 1) u191 (some ⟨v10.heap.size + 1, 0, none⟩) ([(N : Int)]) (1)) := by rw [hu191]; exact n187
  have hb198 : Hid (Below w.heap.size w u191) := by rw [hu191]; exact ((hb183.out.alloc (by omega) (.cells #[.bool c1, .slice xa5 S5.length xc5, .slice ya5 D5.length yc5] 24)).alloc (by simp only [World.size_alloc]; omega) (.cells #[.int .i64 ((N : Int))] 3))
  have zu191 : w.heap.size ≤ u191.heap.size := hb198.out.size
  clear hu191 n186 n187 l188 l189 l190 hb183 B181 L184 L185
  refine (dr_ok (some ⟨v10.heap.size + 1, 0, none⟩) 1 [(N : Int)] c1 xa5 xc5 S5 ya5 yc5 D5 _ (by simp) (one64 (by unfold In64; omega)) (L197.out.is (by omega)) (by rw [HS5.out]; simp) (by have := G5.out.2.1; omega) (L195.out.is (by omega)) (L196.out.is (by omega)) G5.out.2.2 S6 D6 HDr (by rw [HS6.out, HD6.out, HS5.out]; exact dr_one G5.out.1 N)).mono ?_
  rintro e v11 ⟨xa6, xc6, ya6, yc6, rfl, hX6, hY6, hB⟩
  have z199 : u191.heap.size ≤ v11.heap.size := hB.size
  have B200 : Hid (Abx v11 (w.heap.size) (.bool c1) (.slice sa1 sz1.length sc1) (.slice da1 dz1.length dc1)) := B193.out.go hB
  have B201 : Hid (Abx v11 (v10.heap.size) (.bool c1) (.slice xa5 S5.length xc5) (.slice ya5 D5.length yc5)) := B194.out.go hB
  have L202 : Hid (MidC (u175.heap.size) (v10.heap.size) v11 (xa5) (S5) (xc5)) := L195.out.go (by omega) hB
  have L203 : Hid (MidC (u175.heap.size) (v10.heap.size) v11 (ya5) (D5) (yc5)) := L196.out.go (by omega) hB
  have L204 : Hid (MidC (v10.heap.size + 1) (v10.heap.size + 1 + 1) v11 (some ⟨v10.heap.size + 1, 0, none⟩) ([(N : Int)]) (1)) := L197.out.go (by omega) hB
  have hb205 : Hid (Below w.heap.size w v11) := hb198.out.trans (hB.mono hb198.out.size)
  have L206 : Hid (MidC (u191.heap.size) (v11.heap.size) v11 (xa6) (S6) (xc6)) := hX6.midc
  have L207 : Hid (MidC (u191.heap.size) (v11.heap.size) v11 (ya6) (D6) (yc6)) := hY6.midc
  clear hB hb198 B193 B194 L195 L196 L197 hX6 hY6
  clear L204
  clear L202 L203
  have l208 := (B201.out).fr 0
  have l209 := (B201.out).c0
  have l210 := (B201.out).fr 1
  have l211 := (B201.out).c1
  have l212 := (B201.out).fr 2
  have l213 := (B201.out).c2
  have n214 := lit_mid (((v11.setCell ⟨v10.heap.size, 0, none⟩ (.bool c1)).setCell ⟨v10.heap.size, 1, none⟩ (.slice xa6 S6.length xc6)).setCell ⟨v10.heap.size, 2, none⟩ (.slice ya6 D6.length yc6)) 3 [(M : Int) + (N : Int)] 1 rfl
  simp only [World.size_setCell, List.map_cons, List.map_nil] at n214
  have l215 := (((abx_o3 B200.out (B := v10.heap.size) (by omega) (.bool c1) (.slice xa6 S6.length xc6) (.slice ya6 D6.length yc6)).al (.cells #[.int .i64 ((M : Int) + (N : Int))] 3))).c0
  have l216 := (((abx_o3 B200.out (B := v10.heap.size) (by omega) (.bool c1) (.slice xa6 S6.length xc6) (.slice ya6 D6.length yc6)).al (.cells #[.int .i64 ((M : Int) + (N : Int))] 3))).c1
  have l217 := (((abx_o3 B200.out (B := v10.heap.size) (by omega) (.bool c1) (.slice xa6 S6.length xc6) (.slice ya6 D6.length yc6)).al (.cells #[.int .i64 ((M : Int) + (N : Int))] 3))).c2
  go_wp2_with fail
  obtain ⟨u218, hu218⟩ : ∃ u218, u218 = ((((v11.setCell ⟨v10.heap.size, 0, none⟩ (.bool c1)).setCell ⟨v10.heap.size, 1, none⟩ (.slice xa6 S6.length xc6)).setCell ⟨v10.heap.size, 2, none⟩ (.slice ya6 D6.length yc6)).alloc (.cells #[.int .i64 ((M : Int) + (N : Int))] 3)) := ⟨_, rfl⟩
  rw [← hu218]
  have z219 : v11.heap.size + 1 ≤ u218.heap.size := by rw [hu218]; simp only [World.size_alloc, World.size_setCell]; omega
  have B220 : Hid (Abx u218 (w.heap.size) (.bool c1) (.slice sa1 sz1.length sc1) (.slice da1 dz1.length dc1)) := by rw [hu218]; exact ((abx_o3 B200.out (B := v10.heap.size) (by omega) (.bool c1) (.slice xa6 S6.length xc6) (.slice ya6 D6.length yc6)).al (.cells #[.int .i64 ((M : Int) + (N : Int))] 3))
  have B221 : Hid (Abx u218 (v10.heap.size) (.bool c1) (.slice xa6 S6.length xc6) (.slice ya6 D6.length yc6)) := by rw [hu218]; exact ((B201.out.set3 (.bool c1) (.slice xa6 S6.length xc6) (.slice ya6 D6.length yc6)).al (.cells #[.int .i64 ((M : Int) + (N : Int))] 3))
  have L222 : Hid (MidC (u191.heap.size) (v11.heap.size) u218 (xa6) (S6) (xc6)) := by rw [hu218]; exact ((L206.out.s3 (b := v10.heap.size) (by omega) (.bool c1) (.slice xa6 S6.length xc6) (.slice ya6 D6.length yc6)).al (by simp only [World.size_setCell]; omega) (.cells #[.int .i64 ((M : Int) + (N : Int))] 3))
  have L223 : Hid (MidC (u191.heap.size) (v11.heap.size) u218 (ya6) (D6) (yc6)) := by rw [hu218]; exact ((L207.out.s3 (b := v10.heap.size) (by omega) (.bool c1) (.slice xa6 S6.length xc6) (.slice ya6 D6.length yc6)).al (by simp only [World.size_setCell]; omega) (.cells #[.int .i64 ((M : Int) + (N : Int))] 3))
  have L224 : Hid (MidC (v11.heap.size) (v11.heap.size + 1) u218 (some ⟨v11.heap.size, 0, none⟩) ([(M : Int) + (N : Int)]) (1)) := by rw [hu218]; exact n214
  have hb225 : Hid (Below w.heap.size w u218) := by rw [hu218]; exact ((bel_s3 hb205.out (B := v10.heap.size) (by omega) (.bool c1) (.slice xa6 S6.length xc6) (.slice ya6 D6.length yc6)).alloc (by simp only [World.size_setCell]; omega) (.cells #[.int .i64 ((M : Int) + (N : Int))] 3))
  have zu218 : w.heap.size ≤ u218.heap.size := hb225.out.size
  clear hu218 l208 l209 l210 l211 l212 l213 n214 l215 l216 l217 hb205 B200 B201 L206 L207
  refine (dr_ok (some ⟨v11.heap.size, 0, none⟩) 1 [(M : Int) + (N : Int)] c1 sa1 sc1 sz1 da1 dc1 dz1 _ (by simp) (one64 (by unfold In64; omega)) (L224.out.is (by omega)) x1 x2 ((HI.out.1.below hb225.out).mono hb225.out.size) ((HI.out.2.1.below hb225.out).mono hb225.out.size) HI.out.2.2 S7 D7 HDr (by rw [HS7.out, HD7.out, F1.out.1]; exact dr_one F0.out (M + N))).mono ?_
  rintro e v12 ⟨xa7, xc7, ya7, yc7, rfl, hX7, hY7, hB⟩
  have z226 : u218.heap.size ≤ v12.heap.size := hB.size
  have B227 : Hid (Abx v12 (w.heap.size) (.bool c1) (.slice sa1 sz1.length sc1) (.slice da1 dz1.length dc1)) := B220.out.go hB
  have B228 : Hid (Abx v12 (v10.heap.size) (.bool c1) (.slice xa6 S6.length xc6) (.slice ya6 D6.length yc6)) := B221.out.go hB
  have L229 : Hid (MidC (u191.heap.size) (v11.heap.size) v12 (xa6) (S6) (xc6)) := L222.out.go (by omega) hB
  have L230 : Hid (MidC (u191.heap.size) (v11.heap.size) v12 (ya6) (D6) (yc6)) := L223.out.go (by omega) hB
  have L231 : Hid (MidC (v11.heap.size) (v11.heap.size + 1) v12 (some ⟨v11.heap.size, 0, none⟩) ([(M : Int) + (N : Int)]) (1)) := L224.out.go (by omega) hB
  have hb232 : Hid (Below w.heap.size w v12) := hb225.out.trans (hB.mono hb225.out.size)
  have L233 : Hid (MidC (u218.heap.size) (v12.heap.size) v12 (xa7) (S7) (xc7)) := hX7.midc
  have L234 : Hid (MidC (u218.heap.size) (v12.heap.size) v12 (ya7) (D7) (yc7)) := hY7.midc
  clear hB hb225 B220 B221 L222 L223 L224 hX7 hY7
  clear L231
  have n235 := Abx.new v12 (.bool c1) (.slice xa7 S7.length xc7) (.slice ya7 D7.length yc7)
  have l236 := ((B228.out.al (.cells #[.bool c1, .slice xa7 S7.length xc7, .slice ya7 D7.length yc7] 24))).c0
  have l237 := ((B228.out.al (.cells #[.bool c1, .slice xa7 S7.length xc7, .slice ya7 D7.length yc7] 24))).c1
  have l238 := ((B228.out.al (.cells #[.bool c1, .slice xa7 S7.length xc7, .slice ya7 D7.length yc7] 24))).c2
  have l239 := (n235).c0
  have l240 := (n235).c1
  have l241 := (n235).c2
  go_wp2_with fail
  obtain ⟨u242, hu242⟩ : ∃ u242, u242 = (v12.alloc (.cells #[.bool c1, .slice xa7 S7.length xc7, .slice ya7 D7.length yc7] 24)) := ⟨_, rfl⟩
  rw [← hu242]
  have z243 : v12.heap.size + 1 ≤ u242.heap.size := by rw [hu242]; simp only [World.size_alloc]; omega
  have B244 : Hid (Abx u242 (w.heap.size) (.bool c1) (.slice sa1 sz1.length sc1) (.slice da1 dz1.length dc1)) := by rw [hu242]; exact (B227.out.al (.cells #[.bool c1, .slice xa7 S7.length xc7, .slice ya7 D7.length yc7] 24))
  have B245 : Hid (Abx u242 (v10.heap.size) (.bool c1) (.slice xa6 S6.length xc6) (.slice ya6 D6.length yc6)) := by rw [hu242]; exact (B228.out.al (.cells #[.bool c1, .slice xa7 S7.length xc7, .slice ya7 D7.length yc7] 24))
  have B246 : Hid (Abx u242 (v12.heap.size) (.bool c1) (.slice xa7 S7.length xc7) (.slice ya7 D7.length yc7)) := by rw [hu242]; exact n235
  have L247 : Hid (MidC (u191.heap.size) (v11.heap.size) u242 (xa6) (S6) (xc6)) := by rw [hu242]; exact (L229.out.al (by omega) (.cells #[.bool c1, .slice xa7 S7.length xc7, .slice ya7 D7.length yc7] 24))
  have L248 : Hid (MidC (u191.heap.size) (v11.heap.size) u242 (ya6) (D6) (yc6)) := by rw [hu242]; exact (L230.out.al (by omega) (.cells #[.bool c1, .slice xa7 S7.length xc7, .slice ya7 D7.length yc7] 24))
  have L249 : Hid (MidC (u218.heap.size) (v12.heap.size) u242 (xa7) (S7) (xc7)) := by rw [hu242]; exact (L233.out.al (by omega) (.cells #[.bool c1, .slice xa7 S7.length xc7, .slice ya7 D7.length yc7] 24))
  have L250 : Hid (MidC (u218.heap.size) (v12.heap.size) u242 (ya7) (D7) (yc7)) := by rw [hu242]; exact (L234.out.al (by omega) (.cells #[.bool c1, .slice xa7 S7.length xc7, .slice ya7 D7.length yc7] 24))
  have hb251 : Hid (Below w.heap.size w u242) := by rw [hu242]; exact (hb232.out.alloc (by omega) (.cells #[.bool c1, .slice xa7 S7.length xc7, .slice ya7 D7.length yc7] 24))
  have zu242 : w.heap.size ≤ u242.heap.size := hb251.out.size
  clear hu242 n235 l236 l237 l238 l239 l240 l241 hb232 B227 B228 L229 L230 L233 L234
  refine (alike_eq c1 xa6 xc6 S6 ya6 yc6 D6 xa7 xc7 S7 ya7 yc7 D7 (by rw [HS6.out, HS7.out, G6.out.2]) G6.out.2 (by rw [HS6.out]; simp) (by have := G6.out.1; omega) _ (L247.out.is (by omega)) (L248.out.is (by omega)).1 (L249.out.is (by omega)) (L250.out.is (by omega)).1).mono ?_
  rintro e v13 ⟨rfl, hB⟩
  have z252 : u242.heap.size ≤ v13.heap.size := hB.size
  have B253 : Hid (Abx v13 (w.heap.size) (.bool c1) (.slice sa1 sz1.length sc1) (.slice da1 dz1.length dc1)) := B244.out.go hB
  have B254 : Hid (Abx v13 (v10.heap.size) (.bool c1) (.slice xa6 S6.length xc6) (.slice ya6 D6.length yc6)) := B245.out.go hB
  have B255 : Hid (Abx v13 (v12.heap.size) (.bool c1) (.slice xa7 S7.length xc7) (.slice ya7 D7.length yc7)) := B246.out.go hB
  have L256 : Hid (MidC (u191.heap.size) (v11.heap.size) v13 (xa6) (S6) (xc6)) := L247.out.go (by omega) hB
  have L257 : Hid (MidC (u191.heap.size) (v11.heap.size) v13 (ya6) (D6) (yc6)) := L248.out.go (by omega) hB
  have L258 : Hid (MidC (u218.heap.size) (v12.heap.size) v13 (xa7) (S7) (xc7)) := L249.out.go (by omega) hB
  have L259 : Hid (MidC (u218.heap.size) (v12.heap.size) v13 (ya7) (D7) (yc7)) := L250.out.go (by omega) hB
  have hb260 : Hid (Below w.heap.size w v13) := hb251.out.trans (hB.mono hb251.out.size)
  clear hB hb251 B244 B245 B246 L247 L248 L249 L250
  clear L256 L257 L258 L259 B254 B255
  go_wp2_with fail
  go_ret
  exact ⟨rfl, hb260.out⟩
set_option maxRecDepth 100000 in
set_option maxHeartbeats 8000000 in
theorem again_ge (HT : CTk) (HDr : CDr) (M N : Nat) (hM : M ≤ 4096) (hN : N ≤ 4096) (c1 : Bool) (sa1 : Option Addr) (sc1 : Nat) (sz1 : List Int) (da1 : Option Addr) (dc1 : Nat) (dz1 : List Int) (w : World) (w9 : IsArrD w sa1 sz1 sc1 da1 dz1 dc1) (F1 : Hid (sz1 = [(dz1.length : Int)] ∧ flawE c1 sz1 dz1 = 0)) (hlt : M ≤ N) :
    Calls Try.prog 7 #[.int .i64 (M : Int), .int .i64 (N : Int), .agg #[.bool c1, .slice sa1 sz1.length sc1, .slice da1 dz1.length dc1]] w fun e w' => e = .returned (.bool true) ∧ Below w.heap.size w w' := by
  obtain ⟨x1, x2, x3, x4, s64, T⟩ := w9
  have HI : Hid (IsC w.heap.size w sa1 sz1 sc1 ∧ IsC w.heap.size w da1 dz1 dc1 ∧ ∀ j, In64 (nth dz1 j)) := ⟨x3, x4, T⟩
  clear x3 x4 T s64
  have HL : Hid (dz1.length ≤ 4096) := by have h := F1.out.2; rw [F1.out.1] at h; exact (one_flaw h).2
  have F0 : Hid (flawE c1 [(dz1.length : Int)] dz1 = 0) := by have h := F1.out.2; rw [F1.out.1] at h; exact h
  have t1 : ((sz1.length : Int) != 1) = false := by rw [F1.out.1]; rfl
  have hF : M ≤ 4096 := by omega
  obtain ⟨D1, hD1⟩ : ∃ D, D = tk1 c1 M dz1 := ⟨_, rfl⟩
  have HD1 : Hid (D1 = tk1 c1 M dz1) := hD1
  clear hD1
  obtain ⟨S1, hS1⟩ : ∃ S : List Int, S = [(M : Int)] := ⟨_, rfl⟩
  have HS1 : Hid (S1 = [(M : Int)]) := hS1
  clear hS1
  obtain ⟨D2, hD2⟩ : ∃ D, D = tk1 c1 N D1 := ⟨_, rfl⟩
  have HD2 : Hid (D2 = tk1 c1 N D1) := hD2
  clear hD2
  obtain ⟨S2, hS2⟩ : ∃ S : List Int, S = [(N : Int)] := ⟨_, rfl⟩
  have HS2 : Hid (S2 = [(N : Int)]) := hS2
  clear hS2
  obtain ⟨D3, hD3⟩ : ∃ D, D = tk1 c1 M D2 := ⟨_, rfl⟩
  have HD3 : Hid (D3 = tk1 c1 M D2) := hD3
  clear hD3
  obtain ⟨S3, hS3⟩ : ∃ S : List Int, S = [(M : Int)] := ⟨_, rfl⟩
  have HS3 : Hid (S3 = [(M : Int)]) := hS3
  clear hS3
  obtain ⟨D4, hD4⟩ : ∃ D, D = tk1 c1 M dz1 := ⟨_, rfl⟩
  have HD4 : Hid (D4 = tk1 c1 M dz1) := hD4
  clear hD4
  obtain ⟨S4, hS4⟩ : ∃ S : List Int, S = [(M : Int)] := ⟨_, rfl⟩
  have HS4 : Hid (S4 = [(M : Int)]) := hS4
  clear hS4
  obtain ⟨D5, hD5⟩ : ∃ D, D = dz1.drop M := ⟨_, rfl⟩
  have HD5 : Hid (D5 = dz1.drop M) := hD5
  clear hD5
  obtain ⟨S5, hS5⟩ : ∃ S : List Int, S = [(D5.length : Int)] := ⟨_, rfl⟩
  have HS5 : Hid (S5 = [(D5.length : Int)]) := hS5
  clear hS5
  obtain ⟨D6, hD6⟩ : ∃ D, D = D5.drop N := ⟨_, rfl⟩
  have HD6 : Hid (D6 = D5.drop N) := hD6
  clear hD6
  obtain ⟨S6, hS6⟩ : ∃ S : List Int, S = [(D6.length : Int)] := ⟨_, rfl⟩
  have HS6 : Hid (S6 = [(D6.length : Int)]) := hS6
  clear hS6
  obtain ⟨D7, hD7⟩ : ∃ D, D = dz1.drop (M + N) := ⟨_, rfl⟩
  have HD7 : Hid (D7 = dz1.drop (M + N)) := hD7
  clear hD7
  obtain ⟨S7, hS7⟩ : ∃ S : List Int, S = [(D7.length : Int)] := ⟨_, rfl⟩
  have HS7 : Hid (S7 = [(D7.length : Int)]) := hS7
  clear hS7
  have G1 : Hid (flawE c1 [(M : Int)] D1 = 0 ∧ D1.length = M ∧ ∀ j, In64 (nth D1 j)) := by rw [HD1.out]; exact ⟨tk1_flaw F0.out hM, tk1_length _ _ _, tk1_64 F0.out HI.out.2.2 hM⟩
  have G2 : Hid (flawE c1 [(N : Int)] D2 = 0 ∧ D2.length = N ∧ ∀ j, In64 (nth D2 j)) := by rw [HD2.out]; exact ⟨tk1_flaw (by rw [G1.out.2.1]; exact G1.out.1) hN, tk1_length _ _ _, tk1_64 (by rw [G1.out.2.1]; exact G1.out.1) G1.out.2.2 hN⟩
  have G3 : Hid (D3.length = M ∧ D4 = D3) := by rw [HD3.out, HD4.out, HD2.out, HD1.out]; exact ⟨tk1_length _ _ _, by rw [tk1_tk1 _ (by omega), tk1_tk1 _ (by omega)]⟩
  have G5 : Hid (flawE c1 [(D5.length : Int)] D5 = 0 ∧ D5.length ≤ 4096 ∧ ∀ j, In64 (nth D5 j)) := by rw [HD5.out]; exact ⟨dr1_flaw F0.out M, by have := HL.out; rw [List.length_drop]; omega, dr1_64 HI.out.2.2 M⟩
  have G6 : Hid (D6.length ≤ 4096 ∧ D7 = D6) := by rw [HD6.out, HD7.out, HD5.out]; exact ⟨by have := HL.out; rw [List.length_drop, List.length_drop]; omega, by rw [List.drop_drop]⟩
  have n1 := Abx.new w (.bool c1) (.slice sa1 sz1.length sc1) (.slice da1 dz1.length dc1)
  have n2 := lit_mid (w.alloc (.cells #[.bool c1, .slice sa1 sz1.length sc1, .slice da1 dz1.length dc1] 24)) 3 [1] 1 rfl
  simp only [World.size_alloc, List.map_cons, List.map_nil] at n2
  have n3 := lit_mid ((w.alloc (.cells #[.bool c1, .slice sa1 sz1.length sc1, .slice da1 dz1.length dc1] 24)).alloc (.cells #[.int .i64 1] 3)) 3 [1, 2, 3] 3 rfl
  simp only [World.size_alloc, List.map_cons, List.map_nil] at n3
  go_enter Try.func7, Try.ntmps7
  go_wp2_with fail
  obtain ⟨u4, hu4⟩ : ∃ u4, u4 = (((w.alloc (.cells #[.bool c1, .slice sa1 sz1.length sc1, .slice da1 dz1.length dc1] 24)).alloc (.cells #[.int .i64 1] 3)).alloc (.cells #[.int .i64 1, .int .i64 2, .int .i64 3] 3)) := ⟨_, rfl⟩
  rw [← hu4]
  have z5 : w.heap.size + 1 + 1 + 1 ≤ u4.heap.size := by rw [hu4]; simp only [World.size_alloc]; omega
  have B6 : Hid (Abx u4 (w.heap.size) (.bool c1) (.slice sa1 sz1.length sc1) (.slice da1 dz1.length dc1)) := by rw [hu4]; exact ((n1.al (.cells #[.int .i64 1] 3)).al (.cells #[.int .i64 1, .int .i64 2, .int .i64 3] 3))
  have L7 : Hid (MidC (w.heap.size + 1) (w.heap.size + 1 + 1) u4 (some ⟨w.heap.size + 1, 0, none⟩) ([1]) (1)) := by rw [hu4]; exact (n2.al (by simp only [World.size_alloc]; omega) (.cells #[.int .i64 1, .int .i64 2, .int .i64 3] 3))
  have L8 : Hid (MidC (w.heap.size + 1 + 1) (w.heap.size + 1 + 1 + 1) u4 (some ⟨w.heap.size + 1 + 1, 0, none⟩) ([1, 2, 3]) (3)) := by rw [hu4]; exact n3
  have hb9 : Hid (Below w.heap.size w u4) := by rw [hu4]; exact ((((Below.refl w.heap.size w).alloc (by omega) (.cells #[.bool c1, .slice sa1 sz1.length sc1, .slice da1 dz1.length dc1] 24)).alloc (by simp only [World.size_alloc]; omega) (.cells #[.int .i64 1] 3)).alloc (by simp only [World.size_alloc]; omega) (.cells #[.int .i64 1, .int .i64 2, .int .i64 3] 3))
  have zu4 : w.heap.size ≤ u4.heap.size := hb9.out.size
  clear hu4 n1 n2 n3
  refine (vec_c (some ⟨w.heap.size + 1 + 1, 0, none⟩) 3 [1, 2, 3] (by simp) _ (L8.out.is (by omega)).1).mono ?_
  rintro e v1 ⟨va, vc, ga, gc, rfl, hV, hG, hB⟩
  have z10 : u4.heap.size ≤ v1.heap.size := hB.size
  have B11 : Hid (Abx v1 (w.heap.size) (.bool c1) (.slice sa1 sz1.length sc1) (.slice da1 dz1.length dc1)) := B6.out.go hB
  have L12 : Hid (MidC (w.heap.size + 1) (w.heap.size + 1 + 1) v1 (some ⟨w.heap.size + 1, 0, none⟩) ([1]) (1)) := L7.out.go (by omega) hB
  have L13 : Hid (MidC (w.heap.size + 1 + 1) (w.heap.size + 1 + 1 + 1) v1 (some ⟨w.heap.size + 1 + 1, 0, none⟩) ([1, 2, 3]) (3)) := L8.out.go (by omega) hB
  have hb14 : Hid (Below w.heap.size w v1) := hb9.out.trans (hB.mono hb9.out.size)
  have L15 : Hid (MidC (u4.heap.size) (v1.heap.size) v1 (va) ([(3 : Int)]) (vc)) := hV.midc
  have L16 : Hid (MidC (u4.heap.size) (v1.heap.size) v1 (ga) ([1, 2, 3]) (gc)) := hG.midc
  clear hB hb9 B6 L7 L8 hV hG
  clear L13
  go_wp2_with fail
  refine (dr_ok (some ⟨w.heap.size + 1, 0, none⟩) 1 [1] false va vc [3] ga gc [1, 2, 3] _ (by simp) (lit_all (by decide)) (L12.out.is (by omega)) (by simp) (by simp) (L15.out.is (by omega)) (L16.out.is (by omega)) (lit_all (by decide)) [2] [2, 3] HDr (by decide)).mono ?_
  rintro e v2 ⟨f1, g1, f2, g2, rfl, hX0, hY0, hB⟩
  have z17 : v1.heap.size ≤ v2.heap.size := hB.size
  have B18 : Hid (Abx v2 (w.heap.size) (.bool c1) (.slice sa1 sz1.length sc1) (.slice da1 dz1.length dc1)) := B11.out.go hB
  have L19 : Hid (MidC (w.heap.size + 1) (w.heap.size + 1 + 1) v2 (some ⟨w.heap.size + 1, 0, none⟩) ([1]) (1)) := L12.out.go (by omega) hB
  have L20 : Hid (MidC (u4.heap.size) (v1.heap.size) v2 (va) ([(3 : Int)]) (vc)) := L15.out.go (by omega) hB
  have L21 : Hid (MidC (u4.heap.size) (v1.heap.size) v2 (ga) ([1, 2, 3]) (gc)) := L16.out.go (by omega) hB
  have hb22 : Hid (Below w.heap.size w v2) := hb14.out.trans (hB.mono hb14.out.size)
  have L23 : Hid (MidC (v1.heap.size) (v2.heap.size) v2 (f1) ([2]) (g1)) := hX0.midc
  have L24 : Hid (MidC (v1.heap.size) (v2.heap.size) v2 (f2) ([2, 3]) (g2)) := hY0.midc
  clear hB hb14 B11 L12 L15 L16 hX0 hY0
  clear L20 L21 L19
  have n25 := Abx.new v2 (.bool false) (.slice f1 1 g1) (.slice f2 2 g2)
  have l26 := (n25).c0
  have l27 := (n25).c1
  have l28 := (n25).c2
  have n29 := lit_mid (v2.alloc (.cells #[.bool false, .slice f1 1 g1, .slice f2 2 g2] 24)) 3 [2, 3] 2 rfl
  simp only [World.size_alloc, List.map_cons, List.map_nil] at n29
  go_wp2_with fail
  obtain ⟨u30, hu30⟩ : ∃ u30, u30 = ((v2.alloc (.cells #[.bool false, .slice f1 1 g1, .slice f2 2 g2] 24)).alloc (.cells #[.int .i64 2, .int .i64 3] 3)) := ⟨_, rfl⟩
  rw [← hu30]
  have z31 : v2.heap.size + 1 + 1 ≤ u30.heap.size := by rw [hu30]; simp only [World.size_alloc]; omega
  have B32 : Hid (Abx u30 (w.heap.size) (.bool c1) (.slice sa1 sz1.length sc1) (.slice da1 dz1.length dc1)) := by rw [hu30]; exact ((B18.out.al (.cells #[.bool false, .slice f1 1 g1, .slice f2 2 g2] 24)).al (.cells #[.int .i64 2, .int .i64 3] 3))
  have B33 : Hid (Abx u30 (v2.heap.size) (.bool false) (.slice f1 1 g1) (.slice f2 2 g2)) := by rw [hu30]; exact (n25.al (.cells #[.int .i64 2, .int .i64 3] 3))
  have L34 : Hid (MidC (v1.heap.size) (v2.heap.size) u30 (f1) ([2]) (g1)) := by rw [hu30]; exact ((L23.out.al (by omega) (.cells #[.bool false, .slice f1 1 g1, .slice f2 2 g2] 24)).al (by simp only [World.size_alloc]; omega) (.cells #[.int .i64 2, .int .i64 3] 3))
  have L35 : Hid (MidC (v1.heap.size) (v2.heap.size) u30 (f2) ([2, 3]) (g2)) := by rw [hu30]; exact ((L24.out.al (by omega) (.cells #[.bool false, .slice f1 1 g1, .slice f2 2 g2] 24)).al (by simp only [World.size_alloc]; omega) (.cells #[.int .i64 2, .int .i64 3] 3))
  have L36 : Hid (MidC (v2.heap.size + 1) (v2.heap.size + 1 + 1) u30 (some ⟨v2.heap.size + 1, 0, none⟩) ([2, 3]) (2)) := by rw [hu30]; exact n29
  have hb37 : Hid (Below w.heap.size w u30) := by rw [hu30]; exact ((hb22.out.alloc (by omega) (.cells #[.bool false, .slice f1 1 g1, .slice f2 2 g2] 24)).alloc (by simp only [World.size_alloc]; omega) (.cells #[.int .i64 2, .int .i64 3] 3))
  have zu30 : w.heap.size ≤ u30.heap.size := hb37.out.size
  clear hu30 n25 l26 l27 l28 n29 hb22 B18 L23 L24
  refine (ints_any f2 g2 [2, 3] (some ⟨v2.heap.size + 1, 0, none⟩) 2 [2, 3] (by simp) _ _ (L35.out.is (by omega)).1 (L36.out.is (by omega)).1).mono ?_
  rintro e v3 ⟨rfl, hB⟩
  have z38 : u30.heap.size ≤ v3.heap.size := hB.size
  have B39 : Hid (Abx v3 (w.heap.size) (.bool c1) (.slice sa1 sz1.length sc1) (.slice da1 dz1.length dc1)) := B32.out.go hB
  have B40 : Hid (Abx v3 (v2.heap.size) (.bool false) (.slice f1 1 g1) (.slice f2 2 g2)) := B33.out.go hB
  have L41 : Hid (MidC (v1.heap.size) (v2.heap.size) v3 (f1) ([2]) (g1)) := L34.out.go (by omega) hB
  have L42 : Hid (MidC (v1.heap.size) (v2.heap.size) v3 (f2) ([2, 3]) (g2)) := L35.out.go (by omega) hB
  have L43 : Hid (MidC (v2.heap.size + 1) (v2.heap.size + 1 + 1) v3 (some ⟨v2.heap.size + 1, 0, none⟩) ([2, 3]) (2)) := L36.out.go (by omega) hB
  have hb44 : Hid (Below w.heap.size w v3) := hb37.out.trans (hB.mono hb37.out.size)
  clear hB hb37 B32 B33 L34 L35 L36
  rw [eqB_true rfl]
  clear L41 L42 L43 B40
  have l45 := (B39.out).c0
  have l46 := (B39.out).c1
  have l47 := (B39.out).c2
  go_wp2_with fail
  clear l45 l46 l47
  refine (check_ok c1 sa1 sc1 sz1 da1 dc1 dz1 x1 x2 _ ((HI.out.1.1.below hb44.out).mono hb44.out.size) ((HI.out.2.1.1.below hb44.out).mono hb44.out.size) F1.out.2).mono ?_
  rintro e v4 ⟨rfl, hB⟩
  have z48 : v3.heap.size ≤ v4.heap.size := hB.size
  have B49 : Hid (Abx v4 (w.heap.size) (.bool c1) (.slice sa1 sz1.length sc1) (.slice da1 dz1.length dc1)) := B39.out.go hB
  have hb50 : Hid (Below w.heap.size w v4) := hb44.out.trans (hB.mono hb44.out.size)
  clear hB hb44 B39
  have l51 := (B49.out).c0
  have l52 := (B49.out).c1
  have l53 := (B49.out).c2
  have n54 := lit_mid v4 3 [(M : Int)] 1 rfl
  simp only [List.map_cons, List.map_nil] at n54
  have l55 := ((B49.out.al (.cells #[.int .i64 ((M : Int))] 3))).c0
  have l56 := ((B49.out.al (.cells #[.int .i64 ((M : Int))] 3))).c1
  have l57 := ((B49.out.al (.cells #[.int .i64 ((M : Int))] 3))).c2
  go_wp2_with fail
  obtain ⟨u58, hu58⟩ : ∃ u58, u58 = (v4.alloc (.cells #[.int .i64 ((M : Int))] 3)) := ⟨_, rfl⟩
  rw [← hu58]
  have z59 : v4.heap.size + 1 ≤ u58.heap.size := by rw [hu58]; simp only [World.size_alloc]; omega
  have B60 : Hid (Abx u58 (w.heap.size) (.bool c1) (.slice sa1 sz1.length sc1) (.slice da1 dz1.length dc1)) := by rw [hu58]; exact (B49.out.al (.cells #[.int .i64 ((M : Int))] 3))
  have L61 : Hid (MidC (v4.heap.size) (v4.heap.size + 1) u58 (some ⟨v4.heap.size, 0, none⟩) ([(M : Int)]) (1)) := by rw [hu58]; exact n54
  have hb62 : Hid (Below w.heap.size w u58) := by rw [hu58]; exact (hb50.out.alloc (by omega) (.cells #[.int .i64 ((M : Int))] 3))
  have zu58 : w.heap.size ≤ u58.heap.size := hb62.out.size
  clear hu58 l51 l52 l53 n54 l55 l56 l57 hb50 B49 t1
  refine (tk_ok (some ⟨v4.heap.size, 0, none⟩) 1 [(M : Int)] c1 sa1 sc1 sz1 da1 dc1 dz1 _ (by simp) (one64 (by unfold In64; omega)) (L61.out.is (by omega)) x1 x2 ((HI.out.1.below hb62.out).mono hb62.out.size) ((HI.out.2.1.below hb62.out).mono hb62.out.size) HI.out.2.2 S1 D1 HT (by rw [HD1.out, HS1.out, F1.out.1]; exact tk_one F0.out hM)).mono ?_
  rintro e v5 ⟨xa1, xc1, ya1, yc1, rfl, hX1, hY1, hB⟩
  have z63 : u58.heap.size ≤ v5.heap.size := hB.size
  have B64 : Hid (Abx v5 (w.heap.size) (.bool c1) (.slice sa1 sz1.length sc1) (.slice da1 dz1.length dc1)) := B60.out.go hB
  have L65 : Hid (MidC (v4.heap.size) (v4.heap.size + 1) v5 (some ⟨v4.heap.size, 0, none⟩) ([(M : Int)]) (1)) := L61.out.go (by omega) hB
  have hb66 : Hid (Below w.heap.size w v5) := hb62.out.trans (hB.mono hb62.out.size)
  have L67 : Hid (MidC (u58.heap.size) (v5.heap.size) v5 (xa1) (S1) (xc1)) := hX1.midc
  have L68 : Hid (MidC (u58.heap.size) (v5.heap.size) v5 (ya1) (D1) (yc1)) := hY1.midc
  clear hB hb62 B60 L61 hX1 hY1
  clear L65
  have n69 := Abx.new v5 (.bool c1) (.slice xa1 S1.length xc1) (.slice ya1 D1.length yc1)
  have n70 := lit_mid (v5.alloc (.cells #[.bool c1, .slice xa1 S1.length xc1, .slice ya1 D1.length yc1] 24)) 3 [(N : Int)] 1 rfl
  simp only [World.size_alloc, List.map_cons, List.map_nil] at n70
  have l71 := ((n69.al (.cells #[.int .i64 ((N : Int))] 3))).c0
  have l72 := ((n69.al (.cells #[.int .i64 ((N : Int))] 3))).c1
  have l73 := ((n69.al (.cells #[.int .i64 ((N : Int))] 3))).c2
  go_wp2_with fail
  obtain ⟨u74, hu74⟩ : ∃ u74, u74 = ((v5.alloc (.cells #[.bool c1, .slice xa1 S1.length xc1, .slice ya1 D1.length yc1] 24)).alloc (.cells #[.int .i64 ((N : Int))] 3)) := ⟨_, rfl⟩
  rw [← hu74]
  have z75 : v5.heap.size + 1 + 1 ≤ u74.heap.size := by rw [hu74]; simp only [World.size_alloc]; omega
  have B76 : Hid (Abx u74 (w.heap.size) (.bool c1) (.slice sa1 sz1.length sc1) (.slice da1 dz1.length dc1)) := by rw [hu74]; exact ((B64.out.al (.cells #[.bool c1, .slice xa1 S1.length xc1, .slice ya1 D1.length yc1] 24)).al (.cells #[.int .i64 ((N : Int))] 3))
  have B77 : Hid (Abx u74 (v5.heap.size) (.bool c1) (.slice xa1 S1.length xc1) (.slice ya1 D1.length yc1)) := by rw [hu74]; exact (n69.al (.cells #[.int .i64 ((N : Int))] 3))
  have L78 : Hid (MidC (u58.heap.size) (v5.heap.size) u74 (xa1) (S1) (xc1)) := by rw [hu74]; exact ((L67.out.al (by omega) (.cells #[.bool c1, .slice xa1 S1.length xc1, .slice ya1 D1.length yc1] 24)).al (by simp only [World.size_alloc]; omega) (.cells #[.int .i64 ((N : Int))] 3))
  have L79 : Hid (MidC (u58.heap.size) (v5.heap.size) u74 (ya1) (D1) (yc1)) := by rw [hu74]; exact ((L68.out.al (by omega) (.cells #[.bool c1, .slice xa1 S1.length xc1, .slice ya1 D1.length yc1] 24)).al (by simp only [World.size_alloc]; omega) (.cells #[.int .i64 ((N : Int))] 3))
  have L80 : Hid (MidC (v5.heap.size + 1) (v5.heap.size + 1 + 1) u74 (some ⟨v5.heap.size + 1, 0, none⟩) ([(N : Int)]) (1)) := by rw [hu74]; exact n70
  have hb81 : Hid (Below w.heap.size w u74) := by rw [hu74]; exact ((hb66.out.alloc (by omega) (.cells #[.bool c1, .slice xa1 S1.length xc1, .slice ya1 D1.length yc1] 24)).alloc (by simp only [World.size_alloc]; omega) (.cells #[.int .i64 ((N : Int))] 3))
  have zu74 : w.heap.size ≤ u74.heap.size := hb81.out.size
  clear hu74 n69 n70 l71 l72 l73 hb66 B64 L67 L68
  refine (tk_ok (some ⟨v5.heap.size + 1, 0, none⟩) 1 [(N : Int)] c1 xa1 xc1 S1 ya1 yc1 D1 _ (by simp) (one64 (by unfold In64; omega)) (L80.out.is (by omega)) (by rw [HS1.out]; simp) (by have := G1.out.2.1; omega) (L78.out.is (by omega)) (L79.out.is (by omega)) G1.out.2.2 S2 D2 HT (by rw [HD2.out, HS1.out, HS2.out]; exact tk_onen G1.out.2.1 G1.out.1 hN)).mono ?_
  rintro e v6 ⟨xa2, xc2, ya2, yc2, rfl, hX2, hY2, hB⟩
  have z82 : u74.heap.size ≤ v6.heap.size := hB.size
  have B83 : Hid (Abx v6 (w.heap.size) (.bool c1) (.slice sa1 sz1.length sc1) (.slice da1 dz1.length dc1)) := B76.out.go hB
  have B84 : Hid (Abx v6 (v5.heap.size) (.bool c1) (.slice xa1 S1.length xc1) (.slice ya1 D1.length yc1)) := B77.out.go hB
  have L85 : Hid (MidC (u58.heap.size) (v5.heap.size) v6 (xa1) (S1) (xc1)) := L78.out.go (by omega) hB
  have L86 : Hid (MidC (u58.heap.size) (v5.heap.size) v6 (ya1) (D1) (yc1)) := L79.out.go (by omega) hB
  have L87 : Hid (MidC (v5.heap.size + 1) (v5.heap.size + 1 + 1) v6 (some ⟨v5.heap.size + 1, 0, none⟩) ([(N : Int)]) (1)) := L80.out.go (by omega) hB
  have hb88 : Hid (Below w.heap.size w v6) := hb81.out.trans (hB.mono hb81.out.size)
  have L89 : Hid (MidC (u74.heap.size) (v6.heap.size) v6 (xa2) (S2) (xc2)) := hX2.midc
  have L90 : Hid (MidC (u74.heap.size) (v6.heap.size) v6 (ya2) (D2) (yc2)) := hY2.midc
  clear hB hb81 B76 B77 L78 L79 L80 hX2 hY2
  clear L87
  clear L85 L86
  have l91 := (B84.out).fr 0
  have l92 := (B84.out).c0
  have l93 := (B84.out).fr 1
  have l94 := (B84.out).c1
  have l95 := (B84.out).fr 2
  have l96 := (B84.out).c2
  have n97 := lit_mid (((v6.setCell ⟨v5.heap.size, 0, none⟩ (.bool c1)).setCell ⟨v5.heap.size, 1, none⟩ (.slice xa2 S2.length xc2)).setCell ⟨v5.heap.size, 2, none⟩ (.slice ya2 D2.length yc2)) 3 [(M : Int)] 1 rfl
  simp only [World.size_setCell, List.map_cons, List.map_nil] at n97
  have l98 := (((B84.out.set3 (.bool c1) (.slice xa2 S2.length xc2) (.slice ya2 D2.length yc2)).al (.cells #[.int .i64 ((M : Int))] 3))).c0
  have l99 := (((B84.out.set3 (.bool c1) (.slice xa2 S2.length xc2) (.slice ya2 D2.length yc2)).al (.cells #[.int .i64 ((M : Int))] 3))).c1
  have l100 := (((B84.out.set3 (.bool c1) (.slice xa2 S2.length xc2) (.slice ya2 D2.length yc2)).al (.cells #[.int .i64 ((M : Int))] 3))).c2
  go_wp2_with fail
  obtain ⟨u101, hu101⟩ : ∃ u101, u101 = ((((v6.setCell ⟨v5.heap.size, 0, none⟩ (.bool c1)).setCell ⟨v5.heap.size, 1, none⟩ (.slice xa2 S2.length xc2)).setCell ⟨v5.heap.size, 2, none⟩ (.slice ya2 D2.length yc2)).alloc (.cells #[.int .i64 ((M : Int))] 3)) := ⟨_, rfl⟩
  rw [← hu101]
  have z102 : v6.heap.size + 1 ≤ u101.heap.size := by rw [hu101]; simp only [World.size_alloc, World.size_setCell]; omega
  have B103 : Hid (Abx u101 (w.heap.size) (.bool c1) (.slice sa1 sz1.length sc1) (.slice da1 dz1.length dc1)) := by rw [hu101]; exact ((abx_o3 B83.out (B := v5.heap.size) (by omega) (.bool c1) (.slice xa2 S2.length xc2) (.slice ya2 D2.length yc2)).al (.cells #[.int .i64 ((M : Int))] 3))
  have B104 : Hid (Abx u101 (v5.heap.size) (.bool c1) (.slice xa2 S2.length xc2) (.slice ya2 D2.length yc2)) := by rw [hu101]; exact ((B84.out.set3 (.bool c1) (.slice xa2 S2.length xc2) (.slice ya2 D2.length yc2)).al (.cells #[.int .i64 ((M : Int))] 3))
  have L105 : Hid (MidC (u74.heap.size) (v6.heap.size) u101 (xa2) (S2) (xc2)) := by rw [hu101]; exact ((L89.out.s3 (b := v5.heap.size) (by omega) (.bool c1) (.slice xa2 S2.length xc2) (.slice ya2 D2.length yc2)).al (by simp only [World.size_setCell]; omega) (.cells #[.int .i64 ((M : Int))] 3))
  have L106 : Hid (MidC (u74.heap.size) (v6.heap.size) u101 (ya2) (D2) (yc2)) := by rw [hu101]; exact ((L90.out.s3 (b := v5.heap.size) (by omega) (.bool c1) (.slice xa2 S2.length xc2) (.slice ya2 D2.length yc2)).al (by simp only [World.size_setCell]; omega) (.cells #[.int .i64 ((M : Int))] 3))
  have L107 : Hid (MidC (v6.heap.size) (v6.heap.size + 1) u101 (some ⟨v6.heap.size, 0, none⟩) ([(M : Int)]) (1)) := by rw [hu101]; exact n97
  have hb108 : Hid (Below w.heap.size w u101) := by rw [hu101]; exact ((bel_s3 hb88.out (B := v5.heap.size) (by omega) (.bool c1) (.slice xa2 S2.length xc2) (.slice ya2 D2.length yc2)).alloc (by simp only [World.size_setCell]; omega) (.cells #[.int .i64 ((M : Int))] 3))
  have zu101 : w.heap.size ≤ u101.heap.size := hb108.out.size
  clear hu101 l91 l92 l93 l94 l95 l96 n97 l98 l99 l100 hb88 B83 B84 L89 L90
  refine (tk_ok (some ⟨v6.heap.size, 0, none⟩) 1 [(M : Int)] c1 xa2 xc2 S2 ya2 yc2 D2 _ (by simp) (one64 (by unfold In64; omega)) (L107.out.is (by omega)) (by rw [HS2.out]; simp) (by have := G2.out.2.1; omega) (L105.out.is (by omega)) (L106.out.is (by omega)) G2.out.2.2 S3 D3 HT (by rw [HD3.out, HS2.out, HS3.out]; exact tk_onen G2.out.2.1 G2.out.1 hF)).mono ?_
  rintro e v7 ⟨xa3, xc3, ya3, yc3, rfl, hX3, hY3, hB⟩
  have z109 : u101.heap.size ≤ v7.heap.size := hB.size
  have B110 : Hid (Abx v7 (w.heap.size) (.bool c1) (.slice sa1 sz1.length sc1) (.slice da1 dz1.length dc1)) := B103.out.go hB
  have B111 : Hid (Abx v7 (v5.heap.size) (.bool c1) (.slice xa2 S2.length xc2) (.slice ya2 D2.length yc2)) := B104.out.go hB
  have L112 : Hid (MidC (u74.heap.size) (v6.heap.size) v7 (xa2) (S2) (xc2)) := L105.out.go (by omega) hB
  have L113 : Hid (MidC (u74.heap.size) (v6.heap.size) v7 (ya2) (D2) (yc2)) := L106.out.go (by omega) hB
  have L114 : Hid (MidC (v6.heap.size) (v6.heap.size + 1) v7 (some ⟨v6.heap.size, 0, none⟩) ([(M : Int)]) (1)) := L107.out.go (by omega) hB
  have hb115 : Hid (Below w.heap.size w v7) := hb108.out.trans (hB.mono hb108.out.size)
  have L116 : Hid (MidC (u101.heap.size) (v7.heap.size) v7 (xa3) (S3) (xc3)) := hX3.midc
  have L117 : Hid (MidC (u101.heap.size) (v7.heap.size) v7 (ya3) (D3) (yc3)) := hY3.midc
  clear hB hb108 B103 B104 L105 L106 L107 hX3 hY3
  clear L114
  clear L112 L113
  have l118 := (B111.out).fr 0
  have l119 := (B111.out).c0
  have l120 := (B111.out).fr 1
  have l121 := (B111.out).c1
  have l122 := (B111.out).fr 2
  have l123 := (B111.out).c2
  have n124 := lit_mid (((v7.setCell ⟨v5.heap.size, 0, none⟩ (.bool c1)).setCell ⟨v5.heap.size, 1, none⟩ (.slice xa3 S3.length xc3)).setCell ⟨v5.heap.size, 2, none⟩ (.slice ya3 D3.length yc3)) 3 [(M : Int)] 1 rfl
  simp only [World.size_setCell, List.map_cons, List.map_nil] at n124
  have l125 := (((abx_o3 B110.out (B := v5.heap.size) (by omega) (.bool c1) (.slice xa3 S3.length xc3) (.slice ya3 D3.length yc3)).al (.cells #[.int .i64 ((M : Int))] 3))).c0
  have l126 := (((abx_o3 B110.out (B := v5.heap.size) (by omega) (.bool c1) (.slice xa3 S3.length xc3) (.slice ya3 D3.length yc3)).al (.cells #[.int .i64 ((M : Int))] 3))).c1
  have l127 := (((abx_o3 B110.out (B := v5.heap.size) (by omega) (.bool c1) (.slice xa3 S3.length xc3) (.slice ya3 D3.length yc3)).al (.cells #[.int .i64 ((M : Int))] 3))).c2
  go_wp2_with fail
  obtain ⟨u128, hu128⟩ : ∃ u128, u128 = ((((v7.setCell ⟨v5.heap.size, 0, none⟩ (.bool c1)).setCell ⟨v5.heap.size, 1, none⟩ (.slice xa3 S3.length xc3)).setCell ⟨v5.heap.size, 2, none⟩ (.slice ya3 D3.length yc3)).alloc (.cells #[.int .i64 ((M : Int))] 3)) := ⟨_, rfl⟩
  rw [← hu128]
  have z129 : v7.heap.size + 1 ≤ u128.heap.size := by rw [hu128]; simp only [World.size_alloc, World.size_setCell]; omega
  have B130 : Hid (Abx u128 (w.heap.size) (.bool c1) (.slice sa1 sz1.length sc1) (.slice da1 dz1.length dc1)) := by rw [hu128]; exact ((abx_o3 B110.out (B := v5.heap.size) (by omega) (.bool c1) (.slice xa3 S3.length xc3) (.slice ya3 D3.length yc3)).al (.cells #[.int .i64 ((M : Int))] 3))
  have B131 : Hid (Abx u128 (v5.heap.size) (.bool c1) (.slice xa3 S3.length xc3) (.slice ya3 D3.length yc3)) := by rw [hu128]; exact ((B111.out.set3 (.bool c1) (.slice xa3 S3.length xc3) (.slice ya3 D3.length yc3)).al (.cells #[.int .i64 ((M : Int))] 3))
  have L132 : Hid (MidC (u101.heap.size) (v7.heap.size) u128 (xa3) (S3) (xc3)) := by rw [hu128]; exact ((L116.out.s3 (b := v5.heap.size) (by omega) (.bool c1) (.slice xa3 S3.length xc3) (.slice ya3 D3.length yc3)).al (by simp only [World.size_setCell]; omega) (.cells #[.int .i64 ((M : Int))] 3))
  have L133 : Hid (MidC (u101.heap.size) (v7.heap.size) u128 (ya3) (D3) (yc3)) := by rw [hu128]; exact ((L117.out.s3 (b := v5.heap.size) (by omega) (.bool c1) (.slice xa3 S3.length xc3) (.slice ya3 D3.length yc3)).al (by simp only [World.size_setCell]; omega) (.cells #[.int .i64 ((M : Int))] 3))
  have L134 : Hid (MidC (v7.heap.size) (v7.heap.size + 1) u128 (some ⟨v7.heap.size, 0, none⟩) ([(M : Int)]) (1)) := by rw [hu128]; exact n124
  have hb135 : Hid (Below w.heap.size w u128) := by rw [hu128]; exact ((bel_s3 hb115.out (B := v5.heap.size) (by omega) (.bool c1) (.slice xa3 S3.length xc3) (.slice ya3 D3.length yc3)).alloc (by simp only [World.size_setCell]; omega) (.cells #[.int .i64 ((M : Int))] 3))
  have zu128 : w.heap.size ≤ u128.heap.size := hb135.out.size
  clear hu128 l118 l119 l120 l121 l122 l123 n124 l125 l126 l127 hb115 B110 B111 L116 L117
  refine (tk_ok (some ⟨v7.heap.size, 0, none⟩) 1 [(M : Int)] c1 sa1 sc1 sz1 da1 dc1 dz1 _ (by simp) (one64 (by unfold In64; omega)) (L134.out.is (by omega)) x1 x2 ((HI.out.1.below hb135.out).mono hb135.out.size) ((HI.out.2.1.below hb135.out).mono hb135.out.size) HI.out.2.2 S4 D4 HT (by rw [HD4.out, HS4.out, F1.out.1]; exact tk_one F0.out hF)).mono ?_
  rintro e v8 ⟨xa4, xc4, ya4, yc4, rfl, hX4, hY4, hB⟩
  have z136 : u128.heap.size ≤ v8.heap.size := hB.size
  have B137 : Hid (Abx v8 (w.heap.size) (.bool c1) (.slice sa1 sz1.length sc1) (.slice da1 dz1.length dc1)) := B130.out.go hB
  have B138 : Hid (Abx v8 (v5.heap.size) (.bool c1) (.slice xa3 S3.length xc3) (.slice ya3 D3.length yc3)) := B131.out.go hB
  have L139 : Hid (MidC (u101.heap.size) (v7.heap.size) v8 (xa3) (S3) (xc3)) := L132.out.go (by omega) hB
  have L140 : Hid (MidC (u101.heap.size) (v7.heap.size) v8 (ya3) (D3) (yc3)) := L133.out.go (by omega) hB
  have L141 : Hid (MidC (v7.heap.size) (v7.heap.size + 1) v8 (some ⟨v7.heap.size, 0, none⟩) ([(M : Int)]) (1)) := L134.out.go (by omega) hB
  have hb142 : Hid (Below w.heap.size w v8) := hb135.out.trans (hB.mono hb135.out.size)
  have L143 : Hid (MidC (u128.heap.size) (v8.heap.size) v8 (xa4) (S4) (xc4)) := hX4.midc
  have L144 : Hid (MidC (u128.heap.size) (v8.heap.size) v8 (ya4) (D4) (yc4)) := hY4.midc
  clear hB hb135 B130 B131 L132 L133 L134 hX4 hY4
  clear L141
  have n145 := Abx.new v8 (.bool c1) (.slice xa4 S4.length xc4) (.slice ya4 D4.length yc4)
  have l146 := ((B138.out.al (.cells #[.bool c1, .slice xa4 S4.length xc4, .slice ya4 D4.length yc4] 24))).c0
  have l147 := ((B138.out.al (.cells #[.bool c1, .slice xa4 S4.length xc4, .slice ya4 D4.length yc4] 24))).c1
  have l148 := ((B138.out.al (.cells #[.bool c1, .slice xa4 S4.length xc4, .slice ya4 D4.length yc4] 24))).c2
  have l149 := (n145).c0
  have l150 := (n145).c1
  have l151 := (n145).c2
  go_wp2_with fail
  obtain ⟨u152, hu152⟩ : ∃ u152, u152 = (v8.alloc (.cells #[.bool c1, .slice xa4 S4.length xc4, .slice ya4 D4.length yc4] 24)) := ⟨_, rfl⟩
  rw [← hu152]
  have z153 : v8.heap.size + 1 ≤ u152.heap.size := by rw [hu152]; simp only [World.size_alloc]; omega
  have B154 : Hid (Abx u152 (w.heap.size) (.bool c1) (.slice sa1 sz1.length sc1) (.slice da1 dz1.length dc1)) := by rw [hu152]; exact (B137.out.al (.cells #[.bool c1, .slice xa4 S4.length xc4, .slice ya4 D4.length yc4] 24))
  have B155 : Hid (Abx u152 (v5.heap.size) (.bool c1) (.slice xa3 S3.length xc3) (.slice ya3 D3.length yc3)) := by rw [hu152]; exact (B138.out.al (.cells #[.bool c1, .slice xa4 S4.length xc4, .slice ya4 D4.length yc4] 24))
  have B156 : Hid (Abx u152 (v8.heap.size) (.bool c1) (.slice xa4 S4.length xc4) (.slice ya4 D4.length yc4)) := by rw [hu152]; exact n145
  have L157 : Hid (MidC (u101.heap.size) (v7.heap.size) u152 (xa3) (S3) (xc3)) := by rw [hu152]; exact (L139.out.al (by omega) (.cells #[.bool c1, .slice xa4 S4.length xc4, .slice ya4 D4.length yc4] 24))
  have L158 : Hid (MidC (u101.heap.size) (v7.heap.size) u152 (ya3) (D3) (yc3)) := by rw [hu152]; exact (L140.out.al (by omega) (.cells #[.bool c1, .slice xa4 S4.length xc4, .slice ya4 D4.length yc4] 24))
  have L159 : Hid (MidC (u128.heap.size) (v8.heap.size) u152 (xa4) (S4) (xc4)) := by rw [hu152]; exact (L143.out.al (by omega) (.cells #[.bool c1, .slice xa4 S4.length xc4, .slice ya4 D4.length yc4] 24))
  have L160 : Hid (MidC (u128.heap.size) (v8.heap.size) u152 (ya4) (D4) (yc4)) := by rw [hu152]; exact (L144.out.al (by omega) (.cells #[.bool c1, .slice xa4 S4.length xc4, .slice ya4 D4.length yc4] 24))
  have hb161 : Hid (Below w.heap.size w u152) := by rw [hu152]; exact (hb142.out.alloc (by omega) (.cells #[.bool c1, .slice xa4 S4.length xc4, .slice ya4 D4.length yc4] 24))
  have zu152 : w.heap.size ≤ u152.heap.size := hb161.out.size
  clear hu152 n145 l146 l147 l148 l149 l150 l151 hb142 B137 B138 L139 L140 L143 L144
  refine (alike_eq c1 xa3 xc3 S3 ya3 yc3 D3 xa4 xc4 S4 ya4 yc4 D4 (by rw [HS3.out, HS4.out]) G3.out.2 (by rw [HS3.out]; simp) (by have := G3.out.1; omega) _ (L157.out.is (by omega)) (L158.out.is (by omega)).1 (L159.out.is (by omega)) (L160.out.is (by omega)).1).mono ?_
  rintro e v9 ⟨rfl, hB⟩
  have z162 : u152.heap.size ≤ v9.heap.size := hB.size
  have B163 : Hid (Abx v9 (w.heap.size) (.bool c1) (.slice sa1 sz1.length sc1) (.slice da1 dz1.length dc1)) := B154.out.go hB
  have B164 : Hid (Abx v9 (v5.heap.size) (.bool c1) (.slice xa3 S3.length xc3) (.slice ya3 D3.length yc3)) := B155.out.go hB
  have B165 : Hid (Abx v9 (v8.heap.size) (.bool c1) (.slice xa4 S4.length xc4) (.slice ya4 D4.length yc4)) := B156.out.go hB
  have L166 : Hid (MidC (u101.heap.size) (v7.heap.size) v9 (xa3) (S3) (xc3)) := L157.out.go (by omega) hB
  have L167 : Hid (MidC (u101.heap.size) (v7.heap.size) v9 (ya3) (D3) (yc3)) := L158.out.go (by omega) hB
  have L168 : Hid (MidC (u128.heap.size) (v8.heap.size) v9 (xa4) (S4) (xc4)) := L159.out.go (by omega) hB
  have L169 : Hid (MidC (u128.heap.size) (v8.heap.size) v9 (ya4) (D4) (yc4)) := L160.out.go (by omega) hB
  have hb170 : Hid (Below w.heap.size w v9) := hb161.out.trans (hB.mono hb161.out.size)
  clear hB hb161 B154 B155 B156 L157 L158 L159 L160
  clear L166 L167 L168 L169 B164 B165
  have n171 := lit_mid v9 3 [(M : Int)] 1 rfl
  simp only [List.map_cons, List.map_nil] at n171
  have l172 := ((B163.out.al (.cells #[.int .i64 ((M : Int))] 3))).c0
  have l173 := ((B163.out.al (.cells #[.int .i64 ((M : Int))] 3))).c1
  have l174 := ((B163.out.al (.cells #[.int .i64 ((M : Int))] 3))).c2
  go_wp2_with fail
  obtain ⟨u175, hu175⟩ : ∃ u175, u175 = (v9.alloc (.cells #[.int .i64 ((M : Int))] 3)) := ⟨_, rfl⟩
  rw [← hu175]
  have z176 : v9.heap.size + 1 ≤ u175.heap.size := by rw [hu175]; simp only [World.size_alloc]; omega
  have B177 : Hid (Abx u175 (w.heap.size) (.bool c1) (.slice sa1 sz1.length sc1) (.slice da1 dz1.length dc1)) := by rw [hu175]; exact (B163.out.al (.cells #[.int .i64 ((M : Int))] 3))
  have L178 : Hid (MidC (v9.heap.size) (v9.heap.size + 1) u175 (some ⟨v9.heap.size, 0, none⟩) ([(M : Int)]) (1)) := by rw [hu175]; exact n171
  have hb179 : Hid (Below w.heap.size w u175) := by rw [hu175]; exact (hb170.out.alloc (by omega) (.cells #[.int .i64 ((M : Int))] 3))
  have zu175 : w.heap.size ≤ u175.heap.size := hb179.out.size
  clear hu175 n171 l172 l173 l174 hb170 B163
  refine (dr_ok (some ⟨v9.heap.size, 0, none⟩) 1 [(M : Int)] c1 sa1 sc1 sz1 da1 dc1 dz1 _ (by simp) (one64 (by unfold In64; omega)) (L178.out.is (by omega)) x1 x2 ((HI.out.1.below hb179.out).mono hb179.out.size) ((HI.out.2.1.below hb179.out).mono hb179.out.size) HI.out.2.2 S5 D5 HDr (by rw [HS5.out, HD5.out, F1.out.1]; exact dr_one F0.out M)).mono ?_
  rintro e v10 ⟨xa5, xc5, ya5, yc5, rfl, hX5, hY5, hB⟩
  have z180 : u175.heap.size ≤ v10.heap.size := hB.size
  have B181 : Hid (Abx v10 (w.heap.size) (.bool c1) (.slice sa1 sz1.length sc1) (.slice da1 dz1.length dc1)) := B177.out.go hB
  have L182 : Hid (MidC (v9.heap.size) (v9.heap.size + 1) v10 (some ⟨v9.heap.size, 0, none⟩) ([(M : Int)]) (1)) := L178.out.go (by omega) hB
  have hb183 : Hid (Below w.heap.size w v10) := hb179.out.trans (hB.mono hb179.out.size)
  have L184 : Hid (MidC (u175.heap.size) (v10.heap.size) v10 (xa5) (S5) (xc5)) := hX5.midc
  have L185 : Hid (MidC (u175.heap.size) (v10.heap.size) v10 (ya5) (D5) (yc5)) := hY5.midc
  clear hB hb179 B177 L178 hX5 hY5
  clear L182
  have n186 := Abx.new v10 (.bool c1) (.slice xa5 S5.length xc5) (.slice ya5 D5.length yc5)
  have n187 := lit_mid (v10.alloc (.cells #[.bool c1, .slice xa5 S5.length xc5, .slice ya5 D5.length yc5] 24)) 3 [(N : Int)] 1 rfl
  simp only [World.size_alloc, List.map_cons, List.map_nil] at n187
  have l188 := ((n186.al (.cells #[.int .i64 ((N : Int))] 3))).c0
  have l189 := ((n186.al (.cells #[.int .i64 ((N : Int))] 3))).c1
  have l190 := ((n186.al (.cells #[.int .i64 ((N : Int))] 3))).c2
  go_wp2_with fail
  obtain ⟨u191, hu191⟩ : ∃ u191, u191 = ((v10.alloc (.cells #[.bool c1, .slice xa5 S5.length xc5, .slice ya5 D5.length yc5] 24)).alloc (.cells #[.int .i64 ((N : Int))] 3)) := ⟨_, rfl⟩
  rw [← hu191]
  have z192 : v10.heap.size + 1 + 1 ≤ u191.heap.size := by rw [hu191]; simp only [World.size_alloc]; omega
  have B193 : Hid (Abx u191 (w.heap.size) (.bool c1) (.slice sa1 sz1.length sc1) (.slice da1 dz1.length dc1)) := by rw [hu191]; exact ((B181.out.al (.cells #[.bool c1, .slice xa5 S5.length xc5, .slice ya5 D5.length yc5] 24)).al (.cells #[.int .i64 ((N : Int))] 3))
  have B194 : Hid (Abx u191 (v10.heap.size) (.bool c1) (.slice xa5 S5.length xc5) (.slice ya5 D5.length yc5)) := by rw [hu191]; exact (n186.al (.cells #[.int .i64 ((N : Int))] 3))
  have L195 : Hid (MidC (u175.heap.size) (v10.heap.size) u191 (xa5) (S5) (xc5)) := by rw [hu191]; exact ((L184.out.al (by omega) (.cells #[.bool c1, .slice xa5 S5.length xc5, .slice ya5 D5.length yc5] 24)).al (by simp only [World.size_alloc]; omega) (.cells #[.int .i64 ((N : Int))] 3))
  have L196 : Hid (MidC (u175.heap.size) (v10.heap.size) u191 (ya5) (D5) (yc5)) := by rw [hu191]; exact ((L185.out.al (by omega) (.cells #[.bool c1, .slice xa5 S5.length xc5, .slice ya5 D5.length yc5] 24)).al (by simp only [World.size_alloc]; omega) (.cells #[.int .i64 ((N : Int))] 3))
  have L197 : Hid (MidC (v10.heap.size + 1) (v10.heap.size + 1 + 1) u191 (some ⟨v10.heap.size + 1, 0, none⟩) ([(N : Int)]) (1)) := by rw [hu191]; exact n187
  have hb198 : Hid (Below w.heap.size w u191) := by rw [hu191]; exact ((hb183.out.alloc (by omega) (.cells #[.bool c1, .slice xa5 S5.length xc5, .slice ya5 D5.length yc5] 24)).alloc (by simp only [World.size_alloc]; omega) (.cells #[.int .i64 ((N : Int))] 3))
  have zu191 : w.heap.size ≤ u191.heap.size := hb198.out.size
  clear hu191 n186 n187 l188 l189 l190 hb183 B181 L184 L185
  refine (dr_ok (some ⟨v10.heap.size + 1, 0, none⟩) 1 [(N : Int)] c1 xa5 xc5 S5 ya5 yc5 D5 _ (by simp) (one64 (by unfold In64; omega)) (L197.out.is (by omega)) (by rw [HS5.out]; simp) (by have := G5.out.2.1; omega) (L195.out.is (by omega)) (L196.out.is (by omega)) G5.out.2.2 S6 D6 HDr (by rw [HS6.out, HD6.out, HS5.out]; exact dr_one G5.out.1 N)).mono ?_
  rintro e v11 ⟨xa6, xc6, ya6, yc6, rfl, hX6, hY6, hB⟩
  have z199 : u191.heap.size ≤ v11.heap.size := hB.size
  have B200 : Hid (Abx v11 (w.heap.size) (.bool c1) (.slice sa1 sz1.length sc1) (.slice da1 dz1.length dc1)) := B193.out.go hB
  have B201 : Hid (Abx v11 (v10.heap.size) (.bool c1) (.slice xa5 S5.length xc5) (.slice ya5 D5.length yc5)) := B194.out.go hB
  have L202 : Hid (MidC (u175.heap.size) (v10.heap.size) v11 (xa5) (S5) (xc5)) := L195.out.go (by omega) hB
  have L203 : Hid (MidC (u175.heap.size) (v10.heap.size) v11 (ya5) (D5) (yc5)) := L196.out.go (by omega) hB
  have L204 : Hid (MidC (v10.heap.size + 1) (v10.heap.size + 1 + 1) v11 (some ⟨v10.heap.size + 1, 0, none⟩) ([(N : Int)]) (1)) := L197.out.go (by omega) hB
  have hb205 : Hid (Below w.heap.size w v11) := hb198.out.trans (hB.mono hb198.out.size)
  have L206 : Hid (MidC (u191.heap.size) (v11.heap.size) v11 (xa6) (S6) (xc6)) := hX6.midc
  have L207 : Hid (MidC (u191.heap.size) (v11.heap.size) v11 (ya6) (D6) (yc6)) := hY6.midc
  clear hB hb198 B193 B194 L195 L196 L197 hX6 hY6
  clear L204
  clear L202 L203
  have l208 := (B201.out).fr 0
  have l209 := (B201.out).c0
  have l210 := (B201.out).fr 1
  have l211 := (B201.out).c1
  have l212 := (B201.out).fr 2
  have l213 := (B201.out).c2
  have n214 := lit_mid (((v11.setCell ⟨v10.heap.size, 0, none⟩ (.bool c1)).setCell ⟨v10.heap.size, 1, none⟩ (.slice xa6 S6.length xc6)).setCell ⟨v10.heap.size, 2, none⟩ (.slice ya6 D6.length yc6)) 3 [(M : Int) + (N : Int)] 1 rfl
  simp only [World.size_setCell, List.map_cons, List.map_nil] at n214
  have l215 := (((abx_o3 B200.out (B := v10.heap.size) (by omega) (.bool c1) (.slice xa6 S6.length xc6) (.slice ya6 D6.length yc6)).al (.cells #[.int .i64 ((M : Int) + (N : Int))] 3))).c0
  have l216 := (((abx_o3 B200.out (B := v10.heap.size) (by omega) (.bool c1) (.slice xa6 S6.length xc6) (.slice ya6 D6.length yc6)).al (.cells #[.int .i64 ((M : Int) + (N : Int))] 3))).c1
  have l217 := (((abx_o3 B200.out (B := v10.heap.size) (by omega) (.bool c1) (.slice xa6 S6.length xc6) (.slice ya6 D6.length yc6)).al (.cells #[.int .i64 ((M : Int) + (N : Int))] 3))).c2
  go_wp2_with fail
  obtain ⟨u218, hu218⟩ : ∃ u218, u218 = ((((v11.setCell ⟨v10.heap.size, 0, none⟩ (.bool c1)).setCell ⟨v10.heap.size, 1, none⟩ (.slice xa6 S6.length xc6)).setCell ⟨v10.heap.size, 2, none⟩ (.slice ya6 D6.length yc6)).alloc (.cells #[.int .i64 ((M : Int) + (N : Int))] 3)) := ⟨_, rfl⟩
  rw [← hu218]
  have z219 : v11.heap.size + 1 ≤ u218.heap.size := by rw [hu218]; simp only [World.size_alloc, World.size_setCell]; omega
  have B220 : Hid (Abx u218 (w.heap.size) (.bool c1) (.slice sa1 sz1.length sc1) (.slice da1 dz1.length dc1)) := by rw [hu218]; exact ((abx_o3 B200.out (B := v10.heap.size) (by omega) (.bool c1) (.slice xa6 S6.length xc6) (.slice ya6 D6.length yc6)).al (.cells #[.int .i64 ((M : Int) + (N : Int))] 3))
  have B221 : Hid (Abx u218 (v10.heap.size) (.bool c1) (.slice xa6 S6.length xc6) (.slice ya6 D6.length yc6)) := by rw [hu218]; exact ((B201.out.set3 (.bool c1) (.slice xa6 S6.length xc6) (.slice ya6 D6.length yc6)).al (.cells #[.int .i64 ((M : Int) + (N : Int))] 3))
  have L222 : Hid (MidC (u191.heap.size) (v11.heap.size) u218 (xa6) (S6) (xc6)) := by rw [hu218]; exact ((L206.out.s3 (b := v10.heap.size) (by omega) (.bool c1) (.slice xa6 S6.length xc6) (.slice ya6 D6.length yc6)).al (by simp only [World.size_setCell]; omega) (.cells #[.int .i64 ((M : Int) + (N : Int))] 3))
  have L223 : Hid (MidC (u191.heap.size) (v11.heap.size) u218 (ya6) (D6) (yc6)) := by rw [hu218]; exact ((L207.out.s3 (b := v10.heap.size) (by omega) (.bool c1) (.slice xa6 S6.length xc6) (.slice ya6 D6.length yc6)).al (by simp only [World.size_setCell]; omega) (.cells #[.int .i64 ((M : Int) + (N : Int))] 3))
  have L224 : Hid (MidC (v11.heap.size) (v11.heap.size + 1) u218 (some ⟨v11.heap.size, 0, none⟩) ([(M : Int) + (N : Int)]) (1)) := by rw [hu218]; exact n214
  have hb225 : Hid (Below w.heap.size w u218) := by rw [hu218]; exact ((bel_s3 hb205.out (B := v10.heap.size) (by omega) (.bool c1) (.slice xa6 S6.length xc6) (.slice ya6 D6.length yc6)).alloc (by simp only [World.size_setCell]; omega) (.cells #[.int .i64 ((M : Int) + (N : Int))] 3))
  have zu218 : w.heap.size ≤ u218.heap.size := hb225.out.size
  clear hu218 l208 l209 l210 l211 l212 l213 n214 l215 l216 l217 hb205 B200 B201 L206 L207
  refine (dr_ok (some ⟨v11.heap.size, 0, none⟩) 1 [(M : Int) + (N : Int)] c1 sa1 sc1 sz1 da1 dc1 dz1 _ (by simp) (one64 (by unfold In64; omega)) (L224.out.is (by omega)) x1 x2 ((HI.out.1.below hb225.out).mono hb225.out.size) ((HI.out.2.1.below hb225.out).mono hb225.out.size) HI.out.2.2 S7 D7 HDr (by rw [HS7.out, HD7.out, F1.out.1]; exact dr_one F0.out (M + N))).mono ?_
  rintro e v12 ⟨xa7, xc7, ya7, yc7, rfl, hX7, hY7, hB⟩
  have z226 : u218.heap.size ≤ v12.heap.size := hB.size
  have B227 : Hid (Abx v12 (w.heap.size) (.bool c1) (.slice sa1 sz1.length sc1) (.slice da1 dz1.length dc1)) := B220.out.go hB
  have B228 : Hid (Abx v12 (v10.heap.size) (.bool c1) (.slice xa6 S6.length xc6) (.slice ya6 D6.length yc6)) := B221.out.go hB
  have L229 : Hid (MidC (u191.heap.size) (v11.heap.size) v12 (xa6) (S6) (xc6)) := L222.out.go (by omega) hB
  have L230 : Hid (MidC (u191.heap.size) (v11.heap.size) v12 (ya6) (D6) (yc6)) := L223.out.go (by omega) hB
  have L231 : Hid (MidC (v11.heap.size) (v11.heap.size + 1) v12 (some ⟨v11.heap.size, 0, none⟩) ([(M : Int) + (N : Int)]) (1)) := L224.out.go (by omega) hB
  have hb232 : Hid (Below w.heap.size w v12) := hb225.out.trans (hB.mono hb225.out.size)
  have L233 : Hid (MidC (u218.heap.size) (v12.heap.size) v12 (xa7) (S7) (xc7)) := hX7.midc
  have L234 : Hid (MidC (u218.heap.size) (v12.heap.size) v12 (ya7) (D7) (yc7)) := hY7.midc
  clear hB hb225 B220 B221 L222 L223 L224 hX7 hY7
  clear L231
  have n235 := Abx.new v12 (.bool c1) (.slice xa7 S7.length xc7) (.slice ya7 D7.length yc7)
  have l236 := ((B228.out.al (.cells #[.bool c1, .slice xa7 S7.length xc7, .slice ya7 D7.length yc7] 24))).c0
  have l237 := ((B228.out.al (.cells #[.bool c1, .slice xa7 S7.length xc7, .slice ya7 D7.length yc7] 24))).c1
  have l238 := ((B228.out.al (.cells #[.bool c1, .slice xa7 S7.length xc7, .slice ya7 D7.length yc7] 24))).c2
  have l239 := (n235).c0
  have l240 := (n235).c1
  have l241 := (n235).c2
  go_wp2_with fail
  obtain ⟨u242, hu242⟩ : ∃ u242, u242 = (v12.alloc (.cells #[.bool c1, .slice xa7 S7.length xc7, .slice ya7 D7.length yc7] 24)) := ⟨_, rfl⟩
  rw [← hu242]
  have z243 : v12.heap.size + 1 ≤ u242.heap.size := by rw [hu242]; simp only [World.size_alloc]; omega
  have B244 : Hid (Abx u242 (w.heap.size) (.bool c1) (.slice sa1 sz1.length sc1) (.slice da1 dz1.length dc1)) := by rw [hu242]; exact (B227.out.al (.cells #[.bool c1, .slice xa7 S7.length xc7, .slice ya7 D7.length yc7] 24))
  have B245 : Hid (Abx u242 (v10.heap.size) (.bool c1) (.slice xa6 S6.length xc6) (.slice ya6 D6.length yc6)) := by rw [hu242]; exact (B228.out.al (.cells #[.bool c1, .slice xa7 S7.length xc7, .slice ya7 D7.length yc7] 24))
  have B246 : Hid (Abx u242 (v12.heap.size) (.bool c1) (.slice xa7 S7.length xc7) (.slice ya7 D7.length yc7)) := by rw [hu242]; exact n235
  have L247 : Hid (MidC (u191.heap.size) (v11.heap.size) u242 (xa6) (S6) (xc6)) := by rw [hu242]; exact (L229.out.al (by omega) (.cells #[.bool c1, .slice xa7 S7.length xc7, .slice ya7 D7.length yc7] 24))
  have L248 : Hid (MidC (u191.heap.size) (v11.heap.size) u242 (ya6) (D6) (yc6)) := by rw [hu242]; exact (L230.out.al (by omega) (.cells #[.bool c1, .slice xa7 S7.length xc7, .slice ya7 D7.length yc7] 24))
  have L249 : Hid (MidC (u218.heap.size) (v12.heap.size) u242 (xa7) (S7) (xc7)) := by rw [hu242]; exact (L233.out.al (by omega) (.cells #[.bool c1, .slice xa7 S7.length xc7, .slice ya7 D7.length yc7] 24))
  have L250 : Hid (MidC (u218.heap.size) (v12.heap.size) u242 (ya7) (D7) (yc7)) := by rw [hu242]; exact (L234.out.al (by omega) (.cells #[.bool c1, .slice xa7 S7.length xc7, .slice ya7 D7.length yc7] 24))
  have hb251 : Hid (Below w.heap.size w u242) := by rw [hu242]; exact (hb232.out.alloc (by omega) (.cells #[.bool c1, .slice xa7 S7.length xc7, .slice ya7 D7.length yc7] 24))
  have zu242 : w.heap.size ≤ u242.heap.size := hb251.out.size
  clear hu242 n235 l236 l237 l238 l239 l240 l241 hb232 B227 B228 L229 L230 L233 L234
  refine (alike_eq c1 xa6 xc6 S6 ya6 yc6 D6 xa7 xc7 S7 ya7 yc7 D7 (by rw [HS6.out, HS7.out, G6.out.2]) G6.out.2 (by rw [HS6.out]; simp) (by have := G6.out.1; omega) _ (L247.out.is (by omega)) (L248.out.is (by omega)).1 (L249.out.is (by omega)) (L250.out.is (by omega)).1).mono ?_
  rintro e v13 ⟨rfl, hB⟩
  have z252 : u242.heap.size ≤ v13.heap.size := hB.size
  have B253 : Hid (Abx v13 (w.heap.size) (.bool c1) (.slice sa1 sz1.length sc1) (.slice da1 dz1.length dc1)) := B244.out.go hB
  have B254 : Hid (Abx v13 (v10.heap.size) (.bool c1) (.slice xa6 S6.length xc6) (.slice ya6 D6.length yc6)) := B245.out.go hB
  have B255 : Hid (Abx v13 (v12.heap.size) (.bool c1) (.slice xa7 S7.length xc7) (.slice ya7 D7.length yc7)) := B246.out.go hB
  have L256 : Hid (MidC (u191.heap.size) (v11.heap.size) v13 (xa6) (S6) (xc6)) := L247.out.go (by omega) hB
  have L257 : Hid (MidC (u191.heap.size) (v11.heap.size) v13 (ya6) (D6) (yc6)) := L248.out.go (by omega) hB
  have L258 : Hid (MidC (u218.heap.size) (v12.heap.size) v13 (xa7) (S7) (xc7)) := L249.out.go (by omega) hB
  have L259 : Hid (MidC (u218.heap.size) (v12.heap.size) v13 (ya7) (D7) (yc7)) := L250.out.go (by omega) hB
  have hb260 : Hid (Below w.heap.size w v13) := hb251.out.trans (hB.mono hb251.out.size)
  clear hB hb251 B244 B245 B246 L247 L248 L249 L250
  clear L256 L257 L258 L259 B254 B255
  go_wp2_with fail
  go_ret
  exact ⟨rfl, hb260.out⟩
end Go.Proofs.Ytldjgacnjogbnab
