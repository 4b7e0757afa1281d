/-
  The walk of the statement CutWhole, where nothing is wrong, given what the program tells.
-/
import Derived.Test.YtldjgacnjogbnaaCWholeWalk
namespace Go.Proofs.Ytldjgacnjogbnaa
open Go.RowKit
set_option linter.unusedVariables false

set_option maxRecDepth 100000 in
set_option maxHeartbeats 8000000 in
theorem whole_ok (HT : CTk) (HDr : CDr) (HJ : CJn) (n : Int) (xn : Nat) (c1 : Bool) (bs os : Nat) (sc1 : Nat) (sz1 : List Int) (da1 : Option Addr) (dc1 : Nat) (dz1 : List Int) (w : World) (w9 : IsArrD w (some ⟨bs, os, none⟩) sz1 sc1 da1 dz1 dc1) (F1 : Hid (flawE c1 sz1 dz1 = 0)) (hxl : xn < sz1.length) (B3 : 0 ≤ n) (B4 : n ≤ nth sz1 xn) :
    Calls Try.prog 3 #[.int .i64 n, .int .i64 (xn : Int), .agg #[.bool c1, .slice (some ⟨bs, os, none⟩) sz1.length sc1, .slice da1 dz1.length dc1]] w fun e w' => e = .returned (.bool true) ∧ Below w.heap.size w w' := by
  obtain ⟨x1, x2, x3, x4, s64, T⟩ := w9
  have HI : Hid (IsC w.heap.size w (some ⟨bs, os, none⟩) sz1 sc1 ∧ IsC w.heap.size w da1 dz1 dc1 ∧ ∀ j, In64 (nth dz1 j)) := ⟨x3, x4, T⟩
  clear x3 x4 T s64
  have hl6 : sz1.length ≤ 6 := (flawE_short F1.out).1
  have hd4 : dz1.length ≤ 4096 := (flawE_short F1.out).2
  have t2 : ¬ ((sz1.length : Int) ≤ (xn : Int)) := by omega
  have hz := (errOf_zero.1 (flawE_zero F1.out).1).2.1.nth xn
  have t3 : ¬ (nth sz1 xn < n) := by omega
  obtain ⟨b9, o9, e9, hbs, hcS⟩ := HI.out.1.1.at hxl
  cases e9
  have HC : Hid (∀ W, Below w.heap.size w W → W.cell? ⟨bs, os + xn, none⟩ = some (.int .i64 (nth sz1 xn))) := fun W hB => (hB.cell (p := ⟨bs, os + xn, none⟩) hbs).trans (hcS xn hxl)
  clear hcS
  have HK : Hid (AllIn sz1) := (errOf_zero.1 (flawE_zero F1.out).1).2.1
  obtain ⟨S1, hS1⟩ : ∃ S, S = sz1.set xn n := ⟨_, rfl⟩
  obtain ⟨D1, hD1⟩ : ∃ D, D = TA (sz1.set xn n) (cel sz1 dz1) := ⟨_, rfl⟩
  have HS1 : Hid (S1 = sz1.set xn n ∧ D1 = TA (sz1.set xn n) (cel sz1 dz1)) := ⟨hS1, hD1⟩
  clear hS1 hD1
  obtain ⟨S2, hS2⟩ : ∃ S, S = sz1.set xn (nth sz1 xn - n) := ⟨_, rfl⟩
  obtain ⟨D2, hD2⟩ : ∃ D, D = TA (sz1.set xn (nth sz1 xn - n)) (fun t => cel sz1 dz1 (t.set xn (nth t xn + n))) := ⟨_, rfl⟩
  have HS2 : Hid (S2 = sz1.set xn (nth sz1 xn - n) ∧ D2 = TA (sz1.set xn (nth sz1 xn - n)) (fun t => cel sz1 dz1 (t.set xn (nth t xn + n)))) := ⟨hS2, hD2⟩
  clear hS2 hD2
  have G1 : Hid (tkE (sz1.set xn n) c1 sz1 dz1 = 0 ∧ tkS (sz1.set xn n) = S1 ∧ tkD (sz1.set xn n) c1 sz1 dz1 = D1) := by rw [HS1.out.1, HS1.out.2]; exact tk_head F1.out hxl B3 B4
  have G2 : Hid (drE ((zer sz1.length).set xn n) c1 sz1 dz1 = 0 ∧ drS sz1 ((zer sz1.length).set xn n) = S2 ∧ drD ((zer sz1.length).set xn n) c1 sz1 dz1 = D2) := by rw [HS2.out.1, HS2.out.2]; exact dr_tail F1.out hxl B3 B4
  have G3 : Hid (jnE (xn : Int) c1 S1 D1 c1 S2 D2 = 0 ∧ jnS (xn : Int).toNat S1 S2 = sz1 ∧ jnD (xn : Int).toNat S1 D1 S2 D2 = dz1) := by rw [HS1.out.1, HS1.out.2, HS2.out.1, HS2.out.2, Int.toNat_natCast]; exact jn_whole F1.out hxl B3 B4
  have G4 : Hid (tkE ((sz1.set xn n).set xn (n - nth sz1 xn)) c1 sz1 dz1 = 0 ∧ tkS ((sz1.set xn n).set xn (n - nth sz1 xn)) = S2 ∧ tkD ((sz1.set xn n).set xn (n - nth sz1 xn)) c1 sz1 dz1 = D2) := by rw [set_set, HS2.out.1, HS2.out.2]; exact tk_last F1.out hxl B3 B4
  have G5 : Hid (drE (((zer sz1.length).set xn n).set xn (n - nth sz1 xn)) c1 sz1 dz1 = 0 ∧ drS sz1 (((zer sz1.length).set xn n).set xn (n - nth sz1 xn)) = S1 ∧ drD (((zer sz1.length).set xn n).set xn (n - nth sz1 xn)) c1 sz1 dz1 = D1) := by rw [set_set, HS1.out.1, HS1.out.2]; exact dr_last F1.out hxl B3 B4
  have L1 : Hid (S1.length ≤ 6 ∧ D1.length ≤ 4096 ∧ (∀ j, In64 (nth D1 j)) ∧ S2.length ≤ 6 ∧ D2.length ≤ 4096 ∧ ∀ j, In64 (nth D2 j)) := by
    have e1 : errOf S1 = 0 := by rw [← G1.out.2.1]; exact (tkE_zero.1 G1.out.1).2.2.2
    have e2 : errOf S2 = 0 := by rw [← G2.out.2.1]; exact dr_err G2.out.1
    have f1 : D1 = ptD c1 sz1 dz1 S1 (tkU sz1 (sz1.set xn n)) := by rw [← G1.out.2.2, ← G1.out.2.1]; rfl
    have f2 : D2 = ptD c1 sz1 dz1 S2 (drU sz1 ((zer sz1.length).set xn n)) := by rw [← G2.out.2.2, ← G2.out.2.1]; rfl
    refine ⟨(errOf_zero.1 e1).1, ?_, ?_, (errOf_zero.1 e2).1, ?_, ?_⟩
    · rw [f1, ptD, TA_length]; exact (errS e1).2
    · rw [f1]; exact pt_64 e1 HI.out.2.2
    · rw [f2, ptD, TA_length]; exact (errS e2).2
    · rw [f2]; exact pt_64 e2 HI.out.2.2
  have T1 : Hid ((∀ j, In64 (nth (sz1.set xn n) j)) ∧ (∀ j, In64 (nth ((zer sz1.length).set xn n) j)) ∧ (∀ j, In64 (nth ((sz1.set xn n).set xn (n - nth sz1 xn)) j)) ∧ ∀ j, In64 (nth (((zer sz1.length).set xn n).set xn (n - nth sz1 xn)) j)) := by
    have h0 : ∀ j, In64 (nth sz1 j) := fun j => by have := HK.out.nth j; unfold In64; omega
    have h1 : ∀ j, In64 (nth (zer sz1.length) j) := fun j => by rw [zer_nth]; unfold In64; omega
    have hs : ∀ (zs : List Int) (v : Int), xn < zs.length → (∀ j, In64 (nth zs j)) → In64 v → ∀ j, In64 (nth (zs.set xn v) j) := fun zs v hl h hv j => by rw [nth_set _ _ _ _ hl]; split <;> first | exact hv | exact h j
    have v1 : In64 n := by unfold In64; omega
    have v2 : In64 (n - nth sz1 xn) := by unfold In64; omega
    have hzl : xn < (zer sz1.length).length := by unfold zer; rw [List.length_replicate]; exact hxl
    exact ⟨hs _ _ hxl h0 v1, hs _ _ hzl h1 v1, by rw [set_set]; exact hs _ _ hxl h0 v2, by rw [set_set]; exact hs _ _ hzl h1 v2⟩
  have hzl : xn < (zer sz1.length).length := by unfold zer; rw [List.length_replicate]; exact hxl
  have hsl : xn < (sz1.set xn n).length := by rw [List.length_set]; exact hxl
  have hzs : xn < ((zer sz1.length).set xn n).length := by rw [List.length_set]; exact hzl
  have n1 := Abx.new w (.bool c1) (.slice (some ⟨bs, os, none⟩) sz1.length sc1) (.slice da1 dz1.length dc1)
  have n2 := lit_mid (w.alloc (.cells #[.bool c1, .slice (some ⟨bs, os, none⟩) sz1.length sc1, .slice da1 dz1.length dc1] 24)) 3 [2] 1 rfl
  simp only [World.size_alloc, List.map_cons, List.map_nil] at n2
  have n3 := lit_mid ((w.alloc (.cells #[.bool c1, .slice (some ⟨bs, os, none⟩) sz1.length sc1, .slice da1 dz1.length dc1] 24)).alloc (.cells #[.int .i64 2] 3)) 3 [1, 2, 3] 3 rfl
  simp only [World.size_alloc, List.map_cons, List.map_nil] at n3
  go_enter Try.func3, Try.ntmps3
  go_wp2_with fail
  obtain ⟨u4, hu4⟩ : ∃ u4, u4 = (((w.alloc (.cells #[.bool c1, .slice (some ⟨bs, os, none⟩) sz1.length sc1, .slice da1 dz1.length dc1] 24)).alloc (.cells #[.int .i64 2] 3)).alloc (.cells #[.int .i64 1, .int .i64 2, .int .i64 3] 3)) := ⟨_, rfl⟩
  rw [← hu4]
  have z5 : w.heap.size + 1 + 1 + 1 ≤ u4.heap.size := by rw [hu4]; simp only [World.size_alloc]; omega
  have B6 : Hid (Abx u4 (w.heap.size) (.bool c1) (.slice (some ⟨bs, os, none⟩) sz1.length sc1) (.slice da1 dz1.length dc1)) := by rw [hu4]; exact ((n1.al (.cells #[.int .i64 2] 3)).al (.cells #[.int .i64 1, .int .i64 2, .int .i64 3] 3))
  have L7 : Hid (MidC (w.heap.size + 1) (w.heap.size + 1 + 1) u4 (some ⟨w.heap.size + 1, 0, none⟩) ([2]) (1)) := by rw [hu4]; exact (n2.al (by simp only [World.size_alloc]; omega) (.cells #[.int .i64 1, .int .i64 2, .int .i64 3] 3))
  have L8 : Hid (MidC (w.heap.size + 1 + 1) (w.heap.size + 1 + 1 + 1) u4 (some ⟨w.heap.size + 1 + 1, 0, none⟩) ([1, 2, 3]) (3)) := by rw [hu4]; exact n3
  have hb9 : Hid (Below w.heap.size w u4) := by rw [hu4]; exact ((((Below.refl w.heap.size w).alloc (by omega) (.cells #[.bool c1, .slice (some ⟨bs, os, none⟩) sz1.length sc1, .slice da1 dz1.length dc1] 24)).alloc (by simp only [World.size_alloc]; omega) (.cells #[.int .i64 2] 3)).alloc (by simp only [World.size_alloc]; omega) (.cells #[.int .i64 1, .int .i64 2, .int .i64 3] 3))
  have zu4 : w.heap.size ≤ u4.heap.size := hb9.out.size
  clear hu4 n1 n2 n3
  refine (vec_c (some ⟨w.heap.size + 1 + 1, 0, none⟩) 3 [1, 2, 3] (by simp) _ (L8.out.is (by omega)).1).mono ?_
  rintro e v1 ⟨va, vc, ga, gc, rfl, hV, hG, hB⟩
  have z10 : u4.heap.size ≤ v1.heap.size := hB.size
  have B11 : Hid (Abx v1 (w.heap.size) (.bool c1) (.slice (some ⟨bs, os, none⟩) sz1.length sc1) (.slice da1 dz1.length dc1)) := B6.out.go hB
  have L12 : Hid (MidC (w.heap.size + 1) (w.heap.size + 1 + 1) v1 (some ⟨w.heap.size + 1, 0, none⟩) ([2]) (1)) := L7.out.go (by omega) hB
  have L13 : Hid (MidC (w.heap.size + 1 + 1) (w.heap.size + 1 + 1 + 1) v1 (some ⟨w.heap.size + 1 + 1, 0, none⟩) ([1, 2, 3]) (3)) := L8.out.go (by omega) hB
  have hb14 : Hid (Below w.heap.size w v1) := hb9.out.trans (hB.mono hb9.out.size)
  have L15 : Hid (MidC (u4.heap.size) (v1.heap.size) v1 (va) ([(3 : Int)]) (vc)) := hV.midc
  have L16 : Hid (MidC (u4.heap.size) (v1.heap.size) v1 (ga) ([1, 2, 3]) (gc)) := hG.midc
  clear hB hb9 B6 L7 L8 hV hG
  clear L13
  go_wp2_with fail
  refine (tk_ok (some ⟨w.heap.size + 1, 0, none⟩) 1 [2] false va vc [3] ga gc [1, 2, 3] _ (by simp) (lit_all (by decide)) (L12.out.is (by omega)) (by simp) (by simp) (L15.out.is (by omega)) (L16.out.is (by omega)) (lit_all (by decide)) [2] [1, 2] HT (by decide)).mono ?_
  rintro e v2 ⟨f1, g1, f2, g2, rfl, hX0, hY0, hB⟩
  have z17 : v1.heap.size ≤ v2.heap.size := hB.size
  have B18 : Hid (Abx v2 (w.heap.size) (.bool c1) (.slice (some ⟨bs, os, none⟩) sz1.length sc1) (.slice da1 dz1.length dc1)) := B11.out.go hB
  have L19 : Hid (MidC (w.heap.size + 1) (w.heap.size + 1 + 1) v2 (some ⟨w.heap.size + 1, 0, none⟩) ([2]) (1)) := L12.out.go (by omega) hB
  have L20 : Hid (MidC (u4.heap.size) (v1.heap.size) v2 (va) ([(3 : Int)]) (vc)) := L15.out.go (by omega) hB
  have L21 : Hid (MidC (u4.heap.size) (v1.heap.size) v2 (ga) ([1, 2, 3]) (gc)) := L16.out.go (by omega) hB
  have hb22 : Hid (Below w.heap.size w v2) := hb14.out.trans (hB.mono hb14.out.size)
  have L23 : Hid (MidC (v1.heap.size) (v2.heap.size) v2 (f1) ([2]) (g1)) := hX0.midc
  have L24 : Hid (MidC (v1.heap.size) (v2.heap.size) v2 (f2) ([1, 2]) (g2)) := hY0.midc
  clear hB hb14 B11 L12 L15 L16 hX0 hY0
  clear L20 L21 L19
  have n25 := Abx.new v2 (.bool false) (.slice f1 1 g1) (.slice f2 2 g2)
  have l26 := (n25).c0
  have l27 := (n25).c1
  have l28 := (n25).c2
  have n29 := lit_mid (v2.alloc (.cells #[.bool false, .slice f1 1 g1, .slice f2 2 g2] 24)) 3 [1, 2] 2 rfl
  simp only [World.size_alloc, List.map_cons, List.map_nil] at n29
  go_wp2_with fail
  obtain ⟨u30, hu30⟩ : ∃ u30, u30 = ((v2.alloc (.cells #[.bool false, .slice f1 1 g1, .slice f2 2 g2] 24)).alloc (.cells #[.int .i64 1, .int .i64 2] 3)) := ⟨_, rfl⟩
  rw [← hu30]
  have z31 : v2.heap.size + 1 + 1 ≤ u30.heap.size := by rw [hu30]; simp only [World.size_alloc]; omega
  have B32 : Hid (Abx u30 (w.heap.size) (.bool c1) (.slice (some ⟨bs, os, none⟩) sz1.length sc1) (.slice da1 dz1.length dc1)) := by rw [hu30]; exact ((B18.out.al (.cells #[.bool false, .slice f1 1 g1, .slice f2 2 g2] 24)).al (.cells #[.int .i64 1, .int .i64 2] 3))
  have B33 : Hid (Abx u30 (v2.heap.size) (.bool false) (.slice f1 1 g1) (.slice f2 2 g2)) := by rw [hu30]; exact (n25.al (.cells #[.int .i64 1, .int .i64 2] 3))
  have L34 : Hid (MidC (v1.heap.size) (v2.heap.size) u30 (f1) ([2]) (g1)) := by rw [hu30]; exact ((L23.out.al (by omega) (.cells #[.bool false, .slice f1 1 g1, .slice f2 2 g2] 24)).al (by simp only [World.size_alloc]; omega) (.cells #[.int .i64 1, .int .i64 2] 3))
  have L35 : Hid (MidC (v1.heap.size) (v2.heap.size) u30 (f2) ([1, 2]) (g2)) := by rw [hu30]; exact ((L24.out.al (by omega) (.cells #[.bool false, .slice f1 1 g1, .slice f2 2 g2] 24)).al (by simp only [World.size_alloc]; omega) (.cells #[.int .i64 1, .int .i64 2] 3))
  have L36 : Hid (MidC (v2.heap.size + 1) (v2.heap.size + 1 + 1) u30 (some ⟨v2.heap.size + 1, 0, none⟩) ([1, 2]) (2)) := by rw [hu30]; exact n29
  have hb37 : Hid (Below w.heap.size w u30) := by rw [hu30]; exact ((hb22.out.alloc (by omega) (.cells #[.bool false, .slice f1 1 g1, .slice f2 2 g2] 24)).alloc (by simp only [World.size_alloc]; omega) (.cells #[.int .i64 1, .int .i64 2] 3))
  have zu30 : w.heap.size ≤ u30.heap.size := hb37.out.size
  clear hu30 n25 l26 l27 l28 n29 hb22 B18 L23 L24
  refine (ints_any f2 g2 [1, 2] (some ⟨v2.heap.size + 1, 0, none⟩) 2 [1, 2] (by simp) _ _ (L35.out.is (by omega)).1 (L36.out.is (by omega)).1).mono ?_
  rintro e v3 ⟨rfl, hB⟩
  have z38 : u30.heap.size ≤ v3.heap.size := hB.size
  have B39 : Hid (Abx v3 (w.heap.size) (.bool c1) (.slice (some ⟨bs, os, none⟩) sz1.length sc1) (.slice da1 dz1.length dc1)) := B32.out.go hB
  have B40 : Hid (Abx v3 (v2.heap.size) (.bool false) (.slice f1 1 g1) (.slice f2 2 g2)) := B33.out.go hB
  have L41 : Hid (MidC (v1.heap.size) (v2.heap.size) v3 (f1) ([2]) (g1)) := L34.out.go (by omega) hB
  have L42 : Hid (MidC (v1.heap.size) (v2.heap.size) v3 (f2) ([1, 2]) (g2)) := L35.out.go (by omega) hB
  have L43 : Hid (MidC (v2.heap.size + 1) (v2.heap.size + 1 + 1) v3 (some ⟨v2.heap.size + 1, 0, none⟩) ([1, 2]) (2)) := L36.out.go (by omega) hB
  have hb44 : Hid (Below w.heap.size w v3) := hb37.out.trans (hB.mono hb37.out.size)
  clear hB hb37 B32 B33 L34 L35 L36
  rw [eqB_true rfl]
  clear L41 L42 L43 B40
  have l45 := (B39.out).c0
  have l46 := (B39.out).c1
  have l47 := (B39.out).c2
  go_wp2_with fail
  clear l45 l46 l47
  refine (check_ok c1 (some ⟨bs, os, none⟩) sc1 sz1 da1 dc1 dz1 x1 x2 _ ((HI.out.1.1.below hb44.out).mono hb44.out.size) ((HI.out.2.1.1.below hb44.out).mono hb44.out.size) F1.out).mono ?_
  rintro e v4 ⟨rfl, hB⟩
  have z48 : v3.heap.size ≤ v4.heap.size := hB.size
  have B49 : Hid (Abx v4 (w.heap.size) (.bool c1) (.slice (some ⟨bs, os, none⟩) sz1.length sc1) (.slice da1 dz1.length dc1)) := B39.out.go hB
  have hb50 : Hid (Below w.heap.size w v4) := hb44.out.trans (hB.mono hb44.out.size)
  clear hB hb44 B39
  have l51 := (B49.out).c0
  have l52 := (B49.out).c1
  have l53 := (B49.out).c2
  have l54 := HC.out _ hb50.out
  go_wp2_with fail
  clear l51 l52 l53 l54 t2 t3
  refine (copy_c (some ⟨bs, os, none⟩) sc1 sz1 (by omega) _ ((HI.out.1.1.below hb50.out).mono hb50.out.size)).mono ?_
  rintro e v5 ⟨ga, gc, rfl, hH, hB⟩
  have z55 : v4.heap.size ≤ v5.heap.size := hB.size
  have B56 : Hid (Abx v5 (w.heap.size) (.bool c1) (.slice (some ⟨bs, os, none⟩) sz1.length sc1) (.slice da1 dz1.length dc1)) := B49.out.go hB
  have hb57 : Hid (Below w.heap.size w v5) := hb50.out.trans (hB.mono hb50.out.size)
  have L58 : Hid (MidC (v4.heap.size) (v5.heap.size) v5 (ga) (sz1) (gc)) := hH.midc
  clear hB hb50 B49 hH
  obtain ⟨hb, ho, e8, hh1, hh2, _⟩ := L58.out.at hxl
  cases e8
  have hmk := run_make_row' (P := Try.prog) 22 3 (.int .i64 0) 8 Try.underlying22 Try.infoInt rfl .i64 .i64 sz1.length (by omega) (by omega)
  obtain ⟨l59b, l59o, l59e, _, _, l59, l59f⟩ := (L58.out).at (i := xn) hxl
  cases l59e
  have l60 := ((B56.out.ot (a := ⟨hb, ho + xn, none⟩) (by show w.heap.size ≠ hb; omega) (.int .i64 (n)))).c0
  have l61 := ((B56.out.ot (a := ⟨hb, ho + xn, none⟩) (by show w.heap.size ≠ hb; omega) (.int .i64 (n)))).c1
  have l62 := ((B56.out.ot (a := ⟨hb, ho + xn, none⟩) (by show w.heap.size ≠ hb; omega) (.int .i64 (n)))).c2
  have n63 := zer_mid (v5.setCell ⟨hb, ho + xn, none⟩ (.int .i64 (n))) 3 sz1.length
  obtain ⟨n63b, n63o, n63e, _, _, n63c, n63f⟩ := n63.at (i := xn) (by simpa using hxl)
  cases n63e
  rw [Nat.zero_add] at n63c n63f
  simp only [World.size_setCell] at n63c n63f
  have n64 := zput_mid (v5.setCell ⟨hb, ho + xn, none⟩ (.int .i64 (n))) 3 sz1.length xn hxl (n)
  simp only [World.size_setCell] at n64
  have l65 := (((B56.out.ot (a := ⟨hb, ho + xn, none⟩) (by show w.heap.size ≠ hb; omega) (.int .i64 (n))).al (.cells ((madeCells #[.int .i64 0] sz1.length).setIfInBounds xn (.int .i64 (n))) 3))).c0
  have l66 := (((B56.out.ot (a := ⟨hb, ho + xn, none⟩) (by show w.heap.size ≠ hb; omega) (.int .i64 (n))).al (.cells ((madeCells #[.int .i64 0] sz1.length).setIfInBounds xn (.int .i64 (n))) 3))).c1
  have l67 := (((B56.out.ot (a := ⟨hb, ho + xn, none⟩) (by show w.heap.size ≠ hb; omega) (.int .i64 (n))).al (.cells ((madeCells #[.int .i64 0] sz1.length).setIfInBounds xn (.int .i64 (n))) 3))).c2
  go_wp2_with fail
  obtain ⟨u68, hu68⟩ : ∃ u68, u68 = ((v5.setCell ⟨hb, ho + xn, none⟩ (.int .i64 (n))).alloc (.cells ((madeCells #[.int .i64 0] sz1.length).setIfInBounds xn (.int .i64 (n))) 3)) := ⟨_, rfl⟩
  rw [← hu68]
  have z69 : v5.heap.size + 1 ≤ u68.heap.size := by rw [hu68]; simp only [World.size_alloc, World.size_setCell]; omega
  have B70 : Hid (Abx u68 (w.heap.size) (.bool c1) (.slice (some ⟨bs, os, none⟩) sz1.length sc1) (.slice da1 dz1.length dc1)) := by rw [hu68]; exact ((B56.out.ot (a := ⟨hb, ho + xn, none⟩) (by show w.heap.size ≠ hb; omega) (.int .i64 (n))).al (.cells ((madeCells #[.int .i64 0] sz1.length).setIfInBounds xn (.int .i64 (n))) 3))
  have L71 : Hid (MidC (v4.heap.size) (v5.heap.size) u68 (some ⟨hb, ho, none⟩) (sz1.set xn n) (gc)) := by rw [hu68]; exact ((L58.out.put hxl (n)).al (by simp only [World.size_setCell]; omega) (.cells ((madeCells #[.int .i64 0] sz1.length).setIfInBounds xn (.int .i64 (n))) 3))
  have L72 : Hid (MidC (v5.heap.size) (v5.heap.size + 1) u68 (some ⟨v5.heap.size, 0, none⟩) ((zer (sz1.length)).set xn (n)) (sz1.length)) := by rw [hu68]; exact n64
  have hb73 : Hid (Below w.heap.size w u68) := by rw [hu68]; exact ((hb57.out.setCell (p := ⟨hb, ho + xn, none⟩) (by show w.heap.size ≤ hb; omega) (.int .i64 (n))).alloc (by simp only [World.size_setCell]; omega) (.cells ((madeCells #[.int .i64 0] sz1.length).setIfInBounds xn (.int .i64 (n))) 3))
  have zu68 : w.heap.size ≤ u68.heap.size := hb73.out.size
  clear hu68 l59 l59f l60 l61 l62 n63 n63c n63f n64 l65 l66 l67 hb57 B56 L58 hmk
  refine (tk_okl (some ⟨hb, ho, none⟩) gc (sz1.set xn n) sz1.length (by rw [List.length_set]) c1 (some ⟨bs, os, none⟩) sc1 sz1 da1 dc1 dz1 _ (by rw [List.length_set]; omega) T1.out.1 (L71.out.is (by omega)) x1 x2 ((HI.out.1.below hb73.out).mono hb73.out.size) ((HI.out.2.1.below hb73.out).mono hb73.out.size) HI.out.2.2 S1 D1 HT G1.out).mono ?_
  rintro e v6 ⟨xa1, xc1, ya1, yc1, rfl, hX1, hY1, hB⟩
  have z74 : u68.heap.size ≤ v6.heap.size := hB.size
  have B75 : Hid (Abx v6 (w.heap.size) (.bool c1) (.slice (some ⟨bs, os, none⟩) sz1.length sc1) (.slice da1 dz1.length dc1)) := B70.out.go hB
  have L76 : Hid (MidC (v4.heap.size) (v5.heap.size) v6 (some ⟨hb, ho, none⟩) (sz1.set xn n) (gc)) := L71.out.go (by omega) hB
  have L77 : Hid (MidC (v5.heap.size) (v5.heap.size + 1) v6 (some ⟨v5.heap.size, 0, none⟩) ((zer (sz1.length)).set xn (n)) (sz1.length)) := L72.out.go (by omega) hB
  have hb78 : Hid (Below w.heap.size w v6) := hb73.out.trans (hB.mono hb73.out.size)
  have L79 : Hid (MidC (u68.heap.size) (v6.heap.size) v6 (xa1) (S1) (xc1)) := hX1.midc
  have L80 : Hid (MidC (u68.heap.size) (v6.heap.size) v6 (ya1) (D1) (yc1)) := hY1.midc
  clear hB hb73 B70 L71 L72 hX1 hY1
  have n81 := Abx.new v6 (.bool c1) (.slice xa1 S1.length xc1) (.slice ya1 D1.length yc1)
  have l82 := ((B75.out.al (.cells #[.bool c1, .slice xa1 S1.length xc1, .slice ya1 D1.length yc1] 24))).c0
  have l83 := ((B75.out.al (.cells #[.bool c1, .slice xa1 S1.length xc1, .slice ya1 D1.length yc1] 24))).c1
  have l84 := ((B75.out.al (.cells #[.bool c1, .slice xa1 S1.length xc1, .slice ya1 D1.length yc1] 24))).c2
  go_wp2_with fail
  obtain ⟨u85, hu85⟩ : ∃ u85, u85 = (v6.alloc (.cells #[.bool c1, .slice xa1 S1.length xc1, .slice ya1 D1.length yc1] 24)) := ⟨_, rfl⟩
  rw [← hu85]
  have z86 : v6.heap.size + 1 ≤ u85.heap.size := by rw [hu85]; simp only [World.size_alloc]; omega
  have B87 : Hid (Abx u85 (w.heap.size) (.bool c1) (.slice (some ⟨bs, os, none⟩) sz1.length sc1) (.slice da1 dz1.length dc1)) := by rw [hu85]; exact (B75.out.al (.cells #[.bool c1, .slice xa1 S1.length xc1, .slice ya1 D1.length yc1] 24))
  have B88 : Hid (Abx u85 (v6.heap.size) (.bool c1) (.slice xa1 S1.length xc1) (.slice ya1 D1.length yc1)) := by rw [hu85]; exact n81
  have L89 : Hid (MidC (v4.heap.size) (v5.heap.size) u85 (some ⟨hb, ho, none⟩) (sz1.set xn n) (gc)) := by rw [hu85]; exact (L76.out.al (by omega) (.cells #[.bool c1, .slice xa1 S1.length xc1, .slice ya1 D1.length yc1] 24))
  have L90 : Hid (MidC (v5.heap.size) (v5.heap.size + 1) u85 (some ⟨v5.heap.size, 0, none⟩) ((zer (sz1.length)).set xn (n)) (sz1.length)) := by rw [hu85]; exact (L77.out.al (by omega) (.cells #[.bool c1, .slice xa1 S1.length xc1, .slice ya1 D1.length yc1] 24))
  have L91 : Hid (MidC (u68.heap.size) (v6.heap.size) u85 (xa1) (S1) (xc1)) := by rw [hu85]; exact (L79.out.al (by omega) (.cells #[.bool c1, .slice xa1 S1.length xc1, .slice ya1 D1.length yc1] 24))
  have L92 : Hid (MidC (u68.heap.size) (v6.heap.size) u85 (ya1) (D1) (yc1)) := by rw [hu85]; exact (L80.out.al (by omega) (.cells #[.bool c1, .slice xa1 S1.length xc1, .slice ya1 D1.length yc1] 24))
  have hb93 : Hid (Below w.heap.size w u85) := by rw [hu85]; exact (hb78.out.alloc (by omega) (.cells #[.bool c1, .slice xa1 S1.length xc1, .slice ya1 D1.length yc1] 24))
  have zu85 : w.heap.size ≤ u85.heap.size := hb93.out.size
  clear hu85 n81 l82 l83 l84 hb78 B75 L76 L77 L79 L80
  refine (dr_okl (some ⟨v5.heap.size, 0, none⟩) sz1.length ((zer sz1.length).set xn n) sz1.length (by rw [List.length_set]; unfold zer; rw [List.length_replicate]) c1 (some ⟨bs, os, none⟩) sc1 sz1 da1 dc1 dz1 _ (by rw [List.length_set]; unfold zer; rw [List.length_replicate]; omega) T1.out.2.1 (L90.out.is (by omega)) x1 x2 ((HI.out.1.below hb93.out).mono hb93.out.size) ((HI.out.2.1.below hb93.out).mono hb93.out.size) HI.out.2.2 S2 D2 HDr G2.out).mono ?_
  rintro e v7 ⟨xa2, xc2, ya2, yc2, rfl, hX2, hY2, hB⟩
  have z94 : u85.heap.size ≤ v7.heap.size := hB.size
  have B95 : Hid (Abx v7 (w.heap.size) (.bool c1) (.slice (some ⟨bs, os, none⟩) sz1.length sc1) (.slice da1 dz1.length dc1)) := B87.out.go hB
  have B96 : Hid (Abx v7 (v6.heap.size) (.bool c1) (.slice xa1 S1.length xc1) (.slice ya1 D1.length yc1)) := B88.out.go hB
  have L97 : Hid (MidC (v4.heap.size) (v5.heap.size) v7 (some ⟨hb, ho, none⟩) (sz1.set xn n) (gc)) := L89.out.go (by omega) hB
  have L98 : Hid (MidC (v5.heap.size) (v5.heap.size + 1) v7 (some ⟨v5.heap.size, 0, none⟩) ((zer (sz1.length)).set xn (n)) (sz1.length)) := L90.out.go (by omega) hB
  have L99 : Hid (MidC (u68.heap.size) (v6.heap.size) v7 (xa1) (S1) (xc1)) := L91.out.go (by omega) hB
  have L100 : Hid (MidC (u68.heap.size) (v6.heap.size) v7 (ya1) (D1) (yc1)) := L92.out.go (by omega) hB
  have hb101 : Hid (Below w.heap.size w v7) := hb93.out.trans (hB.mono hb93.out.size)
  have L102 : Hid (MidC (u85.heap.size) (v7.heap.size) v7 (xa2) (S2) (xc2)) := hX2.midc
  have L103 : Hid (MidC (u85.heap.size) (v7.heap.size) v7 (ya2) (D2) (yc2)) := hY2.midc
  clear hB hb93 B87 B88 L89 L90 L91 L92 hX2 hY2
  have n104 := Abx.new v7 (.bool c1) (.slice xa2 S2.length xc2) (.slice ya2 D2.length yc2)
  have l105 := ((B96.out.al (.cells #[.bool c1, .slice xa2 S2.length xc2, .slice ya2 D2.length yc2] 24))).c0
  have l106 := ((B96.out.al (.cells #[.bool c1, .slice xa2 S2.length xc2, .slice ya2 D2.length yc2] 24))).c1
  have l107 := ((B96.out.al (.cells #[.bool c1, .slice xa2 S2.length xc2, .slice ya2 D2.length yc2] 24))).c2
  have l108 := (n104).c0
  have l109 := (n104).c1
  have l110 := (n104).c2
  go_wp2_with fail
  obtain ⟨u111, hu111⟩ : ∃ u111, u111 = (v7.alloc (.cells #[.bool c1, .slice xa2 S2.length xc2, .slice ya2 D2.length yc2] 24)) := ⟨_, rfl⟩
  rw [← hu111]
  have z112 : v7.heap.size + 1 ≤ u111.heap.size := by rw [hu111]; simp only [World.size_alloc]; omega
  have B113 : Hid (Abx u111 (w.heap.size) (.bool c1) (.slice (some ⟨bs, os, none⟩) sz1.length sc1) (.slice da1 dz1.length dc1)) := by rw [hu111]; exact (B95.out.al (.cells #[.bool c1, .slice xa2 S2.length xc2, .slice ya2 D2.length yc2] 24))
  have B114 : Hid (Abx u111 (v6.heap.size) (.bool c1) (.slice xa1 S1.length xc1) (.slice ya1 D1.length yc1)) := by rw [hu111]; exact (B96.out.al (.cells #[.bool c1, .slice xa2 S2.length xc2, .slice ya2 D2.length yc2] 24))
  have B115 : Hid (Abx u111 (v7.heap.size) (.bool c1) (.slice xa2 S2.length xc2) (.slice ya2 D2.length yc2)) := by rw [hu111]; exact n104
  have L116 : Hid (MidC (v4.heap.size) (v5.heap.size) u111 (some ⟨hb, ho, none⟩) (sz1.set xn n) (gc)) := by rw [hu111]; exact (L97.out.al (by omega) (.cells #[.bool c1, .slice xa2 S2.length xc2, .slice ya2 D2.length yc2] 24))
  have L117 : Hid (MidC (v5.heap.size) (v5.heap.size + 1) u111 (some ⟨v5.heap.size, 0, none⟩) ((zer (sz1.length)).set xn (n)) (sz1.length)) := by rw [hu111]; exact (L98.out.al (by omega) (.cells #[.bool c1, .slice xa2 S2.length xc2, .slice ya2 D2.length yc2] 24))
  have L118 : Hid (MidC (u68.heap.size) (v6.heap.size) u111 (xa1) (S1) (xc1)) := by rw [hu111]; exact (L99.out.al (by omega) (.cells #[.bool c1, .slice xa2 S2.length xc2, .slice ya2 D2.length yc2] 24))
  have L119 : Hid (MidC (u68.heap.size) (v6.heap.size) u111 (ya1) (D1) (yc1)) := by rw [hu111]; exact (L100.out.al (by omega) (.cells #[.bool c1, .slice xa2 S2.length xc2, .slice ya2 D2.length yc2] 24))
  have L120 : Hid (MidC (u85.heap.size) (v7.heap.size) u111 (xa2) (S2) (xc2)) := by rw [hu111]; exact (L102.out.al (by omega) (.cells #[.bool c1, .slice xa2 S2.length xc2, .slice ya2 D2.length yc2] 24))
  have L121 : Hid (MidC (u85.heap.size) (v7.heap.size) u111 (ya2) (D2) (yc2)) := by rw [hu111]; exact (L103.out.al (by omega) (.cells #[.bool c1, .slice xa2 S2.length xc2, .slice ya2 D2.length yc2] 24))
  have hb122 : Hid (Below w.heap.size w u111) := by rw [hu111]; exact (hb101.out.alloc (by omega) (.cells #[.bool c1, .slice xa2 S2.length xc2, .slice ya2 D2.length yc2] 24))
  have zu111 : w.heap.size ≤ u111.heap.size := hb122.out.size
  clear hu111 n104 l105 l106 l107 l108 l109 l110 hb101 B95 B96 L97 L98 L99 L100 L102 L103
  refine (jn_ok (xn : Int) (by unfold In64; omega) c1 xa1 xc1 S1 ya1 yc1 D1 c1 xa2 xc2 S2 ya2 yc2 D2 _ (by have := L1.out.1; omega) (by have := L1.out.2.1; omega) (L118.out.is (by omega)) (L119.out.is (by omega)) L1.out.2.2.1 (by have := L1.out.2.2.2.1; omega) (by have := L1.out.2.2.2.2.1; omega) (L120.out.is (by omega)) (L121.out.is (by omega)) L1.out.2.2.2.2.2 sz1 dz1 HJ G3.out).mono ?_
  rintro e v8 ⟨xa3, xc3, ya3, yc3, rfl, hX3, hY3, hB⟩
  have z123 : u111.heap.size ≤ v8.heap.size := hB.size
  have B124 : Hid (Abx v8 (w.heap.size) (.bool c1) (.slice (some ⟨bs, os, none⟩) sz1.length sc1) (.slice da1 dz1.length dc1)) := B113.out.go hB
  have B125 : Hid (Abx v8 (v6.heap.size) (.bool c1) (.slice xa1 S1.length xc1) (.slice ya1 D1.length yc1)) := B114.out.go hB
  have B126 : Hid (Abx v8 (v7.heap.size) (.bool c1) (.slice xa2 S2.length xc2) (.slice ya2 D2.length yc2)) := B115.out.go hB
  have L127 : Hid (MidC (v4.heap.size) (v5.heap.size) v8 (some ⟨hb, ho, none⟩) (sz1.set xn n) (gc)) := L116.out.go (by omega) hB
  have L128 : Hid (MidC (v5.heap.size) (v5.heap.size + 1) v8 (some ⟨v5.heap.size, 0, none⟩) ((zer (sz1.length)).set xn (n)) (sz1.length)) := L117.out.go (by omega) hB
  have L129 : Hid (MidC (u68.heap.size) (v6.heap.size) v8 (xa1) (S1) (xc1)) := L118.out.go (by omega) hB
  have L130 : Hid (MidC (u68.heap.size) (v6.heap.size) v8 (ya1) (D1) (yc1)) := L119.out.go (by omega) hB
  have L131 : Hid (MidC (u85.heap.size) (v7.heap.size) v8 (xa2) (S2) (xc2)) := L120.out.go (by omega) hB
  have L132 : Hid (MidC (u85.heap.size) (v7.heap.size) v8 (ya2) (D2) (yc2)) := L121.out.go (by omega) hB
  have hb133 : Hid (Below w.heap.size w v8) := hb122.out.trans (hB.mono hb122.out.size)
  have L134 : Hid (MidC (u111.heap.size) (v8.heap.size) v8 (xa3) (sz1) (xc3)) := hX3.midc
  have L135 : Hid (MidC (u111.heap.size) (v8.heap.size) v8 (ya3) (dz1) (yc3)) := hY3.midc
  clear hB hb122 B113 B114 B115 L116 L117 L118 L119 L120 L121 hX3 hY3
  have n136 := Abx.new v8 (.bool c1) (.slice xa3 sz1.length xc3) (.slice ya3 dz1.length yc3)
  have l137 := (n136).c0
  have l138 := (n136).c1
  have l139 := (n136).c2
  have l140 := ((B124.out.al (.cells #[.bool c1, .slice xa3 sz1.length xc3, .slice ya3 dz1.length yc3] 24))).c0
  have l141 := ((B124.out.al (.cells #[.bool c1, .slice xa3 sz1.length xc3, .slice ya3 dz1.length yc3] 24))).c1
  have l142 := ((B124.out.al (.cells #[.bool c1, .slice xa3 sz1.length xc3, .slice ya3 dz1.length yc3] 24))).c2
  go_wp2_with fail
  obtain ⟨u143, hu143⟩ : ∃ u143, u143 = (v8.alloc (.cells #[.bool c1, .slice xa3 sz1.length xc3, .slice ya3 dz1.length yc3] 24)) := ⟨_, rfl⟩
  rw [← hu143]
  have z144 : v8.heap.size + 1 ≤ u143.heap.size := by rw [hu143]; simp only [World.size_alloc]; omega
  have B145 : Hid (Abx u143 (w.heap.size) (.bool c1) (.slice (some ⟨bs, os, none⟩) sz1.length sc1) (.slice da1 dz1.length dc1)) := by rw [hu143]; exact (B124.out.al (.cells #[.bool c1, .slice xa3 sz1.length xc3, .slice ya3 dz1.length yc3] 24))
  have B146 : Hid (Abx u143 (v6.heap.size) (.bool c1) (.slice xa1 S1.length xc1) (.slice ya1 D1.length yc1)) := by rw [hu143]; exact (B125.out.al (.cells #[.bool c1, .slice xa3 sz1.length xc3, .slice ya3 dz1.length yc3] 24))
  have B147 : Hid (Abx u143 (v7.heap.size) (.bool c1) (.slice xa2 S2.length xc2) (.slice ya2 D2.length yc2)) := by rw [hu143]; exact (B126.out.al (.cells #[.bool c1, .slice xa3 sz1.length xc3, .slice ya3 dz1.length yc3] 24))
  have B148 : Hid (Abx u143 (v8.heap.size) (.bool c1) (.slice xa3 sz1.length xc3) (.slice ya3 dz1.length yc3)) := by rw [hu143]; exact n136
  have L149 : Hid (MidC (v4.heap.size) (v5.heap.size) u143 (some ⟨hb, ho, none⟩) (sz1.set xn n) (gc)) := by rw [hu143]; exact (L127.out.al (by omega) (.cells #[.bool c1, .slice xa3 sz1.length xc3, .slice ya3 dz1.length yc3] 24))
  have L150 : Hid (MidC (v5.heap.size) (v5.heap.size + 1) u143 (some ⟨v5.heap.size, 0, none⟩) ((zer (sz1.length)).set xn (n)) (sz1.length)) := by rw [hu143]; exact (L128.out.al (by omega) (.cells #[.bool c1, .slice xa3 sz1.length xc3, .slice ya3 dz1.length yc3] 24))
  have L151 : Hid (MidC (u68.heap.size) (v6.heap.size) u143 (xa1) (S1) (xc1)) := by rw [hu143]; exact (L129.out.al (by omega) (.cells #[.bool c1, .slice xa3 sz1.length xc3, .slice ya3 dz1.length yc3] 24))
  have L152 : Hid (MidC (u68.heap.size) (v6.heap.size) u143 (ya1) (D1) (yc1)) := by rw [hu143]; exact (L130.out.al (by omega) (.cells #[.bool c1, .slice xa3 sz1.length xc3, .slice ya3 dz1.length yc3] 24))
  have L153 : Hid (MidC (u85.heap.size) (v7.heap.size) u143 (xa2) (S2) (xc2)) := by rw [hu143]; exact (L131.out.al (by omega) (.cells #[.bool c1, .slice xa3 sz1.length xc3, .slice ya3 dz1.length yc3] 24))
  have L154 : Hid (MidC (u85.heap.size) (v7.heap.size) u143 (ya2) (D2) (yc2)) := by rw [hu143]; exact (L132.out.al (by omega) (.cells #[.bool c1, .slice xa3 sz1.length xc3, .slice ya3 dz1.length yc3] 24))
  have L155 : Hid (MidC (u111.heap.size) (v8.heap.size) u143 (xa3) (sz1) (xc3)) := by rw [hu143]; exact (L134.out.al (by omega) (.cells #[.bool c1, .slice xa3 sz1.length xc3, .slice ya3 dz1.length yc3] 24))
  have L156 : Hid (MidC (u111.heap.size) (v8.heap.size) u143 (ya3) (dz1) (yc3)) := by rw [hu143]; exact (L135.out.al (by omega) (.cells #[.bool c1, .slice xa3 sz1.length xc3, .slice ya3 dz1.length yc3] 24))
  have hb157 : Hid (Below w.heap.size w u143) := by rw [hu143]; exact (hb133.out.alloc (by omega) (.cells #[.bool c1, .slice xa3 sz1.length xc3, .slice ya3 dz1.length yc3] 24))
  have zu143 : w.heap.size ≤ u143.heap.size := hb157.out.size
  clear hu143 n136 l137 l138 l139 l140 l141 l142 hb133 B124 B125 B126 L127 L128 L129 L130 L131 L132 L134 L135
  refine (alike_eq c1 xa3 xc3 sz1 ya3 yc3 dz1 (some ⟨bs, os, none⟩) sc1 sz1 da1 dc1 dz1 rfl rfl x1 x2 _ (L155.out.is (by omega)) (L156.out.is (by omega)).1 ((HI.out.1.below hb157.out).mono hb157.out.size) ((HI.out.2.1.1.below hb157.out).mono hb157.out.size)).mono ?_
  rintro e v9 ⟨rfl, hB⟩
  have z158 : u143.heap.size ≤ v9.heap.size := hB.size
  have B159 : Hid (Abx v9 (w.heap.size) (.bool c1) (.slice (some ⟨bs, os, none⟩) sz1.length sc1) (.slice da1 dz1.length dc1)) := B145.out.go hB
  have B160 : Hid (Abx v9 (v6.heap.size) (.bool c1) (.slice xa1 S1.length xc1) (.slice ya1 D1.length yc1)) := B146.out.go hB
  have B161 : Hid (Abx v9 (v7.heap.size) (.bool c1) (.slice xa2 S2.length xc2) (.slice ya2 D2.length yc2)) := B147.out.go hB
  have B162 : Hid (Abx v9 (v8.heap.size) (.bool c1) (.slice xa3 sz1.length xc3) (.slice ya3 dz1.length yc3)) := B148.out.go hB
  have L163 : Hid (MidC (v4.heap.size) (v5.heap.size) v9 (some ⟨hb, ho, none⟩) (sz1.set xn n) (gc)) := L149.out.go (by omega) hB
  have L164 : Hid (MidC (v5.heap.size) (v5.heap.size + 1) v9 (some ⟨v5.heap.size, 0, none⟩) ((zer (sz1.length)).set xn (n)) (sz1.length)) := L150.out.go (by omega) hB
  have L165 : Hid (MidC (u68.heap.size) (v6.heap.size) v9 (xa1) (S1) (xc1)) := L151.out.go (by omega) hB
  have L166 : Hid (MidC (u68.heap.size) (v6.heap.size) v9 (ya1) (D1) (yc1)) := L152.out.go (by omega) hB
  have L167 : Hid (MidC (u85.heap.size) (v7.heap.size) v9 (xa2) (S2) (xc2)) := L153.out.go (by omega) hB
  have L168 : Hid (MidC (u85.heap.size) (v7.heap.size) v9 (ya2) (D2) (yc2)) := L154.out.go (by omega) hB
  have L169 : Hid (MidC (u111.heap.size) (v8.heap.size) v9 (xa3) (sz1) (xc3)) := L155.out.go (by omega) hB
  have L170 : Hid (MidC (u111.heap.size) (v8.heap.size) v9 (ya3) (dz1) (yc3)) := L156.out.go (by omega) hB
  have hb171 : Hid (Below w.heap.size w v9) := hb157.out.trans (hB.mono hb157.out.size)
  clear hB hb157 B145 B146 B147 B148 L149 L150 L151 L152 L153 L154 L155 L156
  clear L169 L170 B162
  have l172 := (B159.out).c0
  have l173 := (B159.out).c1
  have l174 := (B159.out).c2
  have l175 := HC.out _ hb171.out
  obtain ⟨l176b, l176o, l176e, _, _, l176, l176f⟩ := (L163.out).at (i := xn) hsl
  cases l176e
  have l177 := ((B159.out.ot (a := ⟨hb, ho + xn, none⟩) (by show w.heap.size ≠ hb; omega) (.int .i64 (n - nth sz1 xn)))).c0
  have l178 := ((B159.out.ot (a := ⟨hb, ho + xn, none⟩) (by show w.heap.size ≠ hb; omega) (.int .i64 (n - nth sz1 xn)))).c1
  have l179 := ((B159.out.ot (a := ⟨hb, ho + xn, none⟩) (by show w.heap.size ≠ hb; omega) (.int .i64 (n - nth sz1 xn)))).c2
  go_wp2_with fail
  obtain ⟨u180, hu180⟩ : ∃ u180, u180 = (v9.setCell ⟨hb, ho + xn, none⟩ (.int .i64 (n - nth sz1 xn))) := ⟨_, rfl⟩
  rw [← hu180]
  have z181 : v9.heap.size ≤ u180.heap.size := by rw [hu180]; simp only [World.size_setCell]; omega
  have B182 : Hid (Abx u180 (w.heap.size) (.bool c1) (.slice (some ⟨bs, os, none⟩) sz1.length sc1) (.slice da1 dz1.length dc1)) := by rw [hu180]; exact (B159.out.ot (a := ⟨hb, ho + xn, none⟩) (by show w.heap.size ≠ hb; omega) (.int .i64 (n - nth sz1 xn)))
  have B183 : Hid (Abx u180 (v6.heap.size) (.bool c1) (.slice xa1 S1.length xc1) (.slice ya1 D1.length yc1)) := by rw [hu180]; exact (B160.out.ot (a := ⟨hb, ho + xn, none⟩) (by show v6.heap.size ≠ hb; omega) (.int .i64 (n - nth sz1 xn)))
  have B184 : Hid (Abx u180 (v7.heap.size) (.bool c1) (.slice xa2 S2.length xc2) (.slice ya2 D2.length yc2)) := by rw [hu180]; exact (B161.out.ot (a := ⟨hb, ho + xn, none⟩) (by show v7.heap.size ≠ hb; omega) (.int .i64 (n - nth sz1 xn)))
  have L185 : Hid (MidC (v4.heap.size) (v5.heap.size) u180 (some ⟨hb, ho, none⟩) ((sz1.set xn n).set xn (n - nth sz1 xn)) (gc)) := by rw [hu180]; exact (L163.out.put hsl (n - nth sz1 xn))
  have L186 : Hid (MidC (v5.heap.size) (v5.heap.size + 1) u180 (some ⟨v5.heap.size, 0, none⟩) ((zer (sz1.length)).set xn (n)) (sz1.length)) := by rw [hu180]; exact (L164.out.s1 (p := ⟨hb, ho + xn, none⟩) (by show hb < v5.heap.size ∨ v5.heap.size + 1 ≤ hb; omega) (.int .i64 (n - nth sz1 xn)))
  have L187 : Hid (MidC (u68.heap.size) (v6.heap.size) u180 (xa1) (S1) (xc1)) := by rw [hu180]; exact (L165.out.s1 (p := ⟨hb, ho + xn, none⟩) (by show hb < u68.heap.size ∨ v6.heap.size ≤ hb; omega) (.int .i64 (n - nth sz1 xn)))
  have L188 : Hid (MidC (u68.heap.size) (v6.heap.size) u180 (ya1) (D1) (yc1)) := by rw [hu180]; exact (L166.out.s1 (p := ⟨hb, ho + xn, none⟩) (by show hb < u68.heap.size ∨ v6.heap.size ≤ hb; omega) (.int .i64 (n - nth sz1 xn)))
  have L189 : Hid (MidC (u85.heap.size) (v7.heap.size) u180 (xa2) (S2) (xc2)) := by rw [hu180]; exact (L167.out.s1 (p := ⟨hb, ho + xn, none⟩) (by show hb < u85.heap.size ∨ v7.heap.size ≤ hb; omega) (.int .i64 (n - nth sz1 xn)))
  have L190 : Hid (MidC (u85.heap.size) (v7.heap.size) u180 (ya2) (D2) (yc2)) := by rw [hu180]; exact (L168.out.s1 (p := ⟨hb, ho + xn, none⟩) (by show hb < u85.heap.size ∨ v7.heap.size ≤ hb; omega) (.int .i64 (n - nth sz1 xn)))
  have hb191 : Hid (Below w.heap.size w u180) := by rw [hu180]; exact (hb171.out.setCell (p := ⟨hb, ho + xn, none⟩) (by show w.heap.size ≤ hb; omega) (.int .i64 (n - nth sz1 xn)))
  have zu180 : w.heap.size ≤ u180.heap.size := hb191.out.size
  clear hu180 l172 l173 l174 l175 l176 l176f l177 l178 l179 hb171 B159 B160 B161 L163 L164 L165 L166 L167 L168
  refine (tk_okl (some ⟨hb, ho, none⟩) gc ((sz1.set xn n).set xn (n - nth sz1 xn)) sz1.length (by rw [List.length_set, List.length_set]) c1 (some ⟨bs, os, none⟩) sc1 sz1 da1 dc1 dz1 _ (by rw [List.length_set, List.length_set]; omega) T1.out.2.2.1 (L185.out.is (by omega)) x1 x2 ((HI.out.1.below hb191.out).mono hb191.out.size) ((HI.out.2.1.below hb191.out).mono hb191.out.size) HI.out.2.2 S2 D2 HT G4.out).mono ?_
  rintro e v10 ⟨xa4, xc4, ya4, yc4, rfl, hX4, hY4, hB⟩
  have z192 : u180.heap.size ≤ v10.heap.size := hB.size
  have B193 : Hid (Abx v10 (w.heap.size) (.bool c1) (.slice (some ⟨bs, os, none⟩) sz1.length sc1) (.slice da1 dz1.length dc1)) := B182.out.go hB
  have B194 : Hid (Abx v10 (v6.heap.size) (.bool c1) (.slice xa1 S1.length xc1) (.slice ya1 D1.length yc1)) := B183.out.go hB
  have B195 : Hid (Abx v10 (v7.heap.size) (.bool c1) (.slice xa2 S2.length xc2) (.slice ya2 D2.length yc2)) := B184.out.go hB
  have L196 : Hid (MidC (v4.heap.size) (v5.heap.size) v10 (some ⟨hb, ho, none⟩) ((sz1.set xn n).set xn (n - nth sz1 xn)) (gc)) := L185.out.go (by omega) hB
  have L197 : Hid (MidC (v5.heap.size) (v5.heap.size + 1) v10 (some ⟨v5.heap.size, 0, none⟩) ((zer (sz1.length)).set xn (n)) (sz1.length)) := L186.out.go (by omega) hB
  have L198 : Hid (MidC (u68.heap.size) (v6.heap.size) v10 (xa1) (S1) (xc1)) := L187.out.go (by omega) hB
  have L199 : Hid (MidC (u68.heap.size) (v6.heap.size) v10 (ya1) (D1) (yc1)) := L188.out.go (by omega) hB
  have L200 : Hid (MidC (u85.heap.size) (v7.heap.size) v10 (xa2) (S2) (xc2)) := L189.out.go (by omega) hB
  have L201 : Hid (MidC (u85.heap.size) (v7.heap.size) v10 (ya2) (D2) (yc2)) := L190.out.go (by omega) hB
  have hb202 : Hid (Below w.heap.size w v10) := hb191.out.trans (hB.mono hb191.out.size)
  have L203 : Hid (MidC (u180.heap.size) (v10.heap.size) v10 (xa4) (S2) (xc4)) := hX4.midc
  have L204 : Hid (MidC (u180.heap.size) (v10.heap.size) v10 (ya4) (D2) (yc4)) := hY4.midc
  clear hB hb191 B182 B183 B184 L185 L186 L187 L188 L189 L190 hX4 hY4
  have n205 := Abx.new v10 (.bool c1) (.slice xa4 S2.length xc4) (.slice ya4 D2.length yc4)
  have l206 := (n205).c0
  have l207 := (n205).c1
  have l208 := (n205).c2
  have l209 := ((B195.out.al (.cells #[.bool c1, .slice xa4 S2.length xc4, .slice ya4 D2.length yc4] 24))).c0
  have l210 := ((B195.out.al (.cells #[.bool c1, .slice xa4 S2.length xc4, .slice ya4 D2.length yc4] 24))).c1
  have l211 := ((B195.out.al (.cells #[.bool c1, .slice xa4 S2.length xc4, .slice ya4 D2.length yc4] 24))).c2
  go_wp2_with fail
  obtain ⟨u212, hu212⟩ : ∃ u212, u212 = (v10.alloc (.cells #[.bool c1, .slice xa4 S2.length xc4, .slice ya4 D2.length yc4] 24)) := ⟨_, rfl⟩
  rw [← hu212]
  have z213 : v10.heap.size + 1 ≤ u212.heap.size := by rw [hu212]; simp only [World.size_alloc]; omega
  have B214 : Hid (Abx u212 (w.heap.size) (.bool c1) (.slice (some ⟨bs, os, none⟩) sz1.length sc1) (.slice da1 dz1.length dc1)) := by rw [hu212]; exact (B193.out.al (.cells #[.bool c1, .slice xa4 S2.length xc4, .slice ya4 D2.length yc4] 24))
  have B215 : Hid (Abx u212 (v6.heap.size) (.bool c1) (.slice xa1 S1.length xc1) (.slice ya1 D1.length yc1)) := by rw [hu212]; exact (B194.out.al (.cells #[.bool c1, .slice xa4 S2.length xc4, .slice ya4 D2.length yc4] 24))
  have B216 : Hid (Abx u212 (v7.heap.size) (.bool c1) (.slice xa2 S2.length xc2) (.slice ya2 D2.length yc2)) := by rw [hu212]; exact (B195.out.al (.cells #[.bool c1, .slice xa4 S2.length xc4, .slice ya4 D2.length yc4] 24))
  have B217 : Hid (Abx u212 (v10.heap.size) (.bool c1) (.slice xa4 S2.length xc4) (.slice ya4 D2.length yc4)) := by rw [hu212]; exact n205
  have L218 : Hid (MidC (v4.heap.size) (v5.heap.size) u212 (some ⟨hb, ho, none⟩) ((sz1.set xn n).set xn (n - nth sz1 xn)) (gc)) := by rw [hu212]; exact (L196.out.al (by omega) (.cells #[.bool c1, .slice xa4 S2.length xc4, .slice ya4 D2.length yc4] 24))
  have L219 : Hid (MidC (v5.heap.size) (v5.heap.size + 1) u212 (some ⟨v5.heap.size, 0, none⟩) ((zer (sz1.length)).set xn (n)) (sz1.length)) := by rw [hu212]; exact (L197.out.al (by omega) (.cells #[.bool c1, .slice xa4 S2.length xc4, .slice ya4 D2.length yc4] 24))
  have L220 : Hid (MidC (u68.heap.size) (v6.heap.size) u212 (xa1) (S1) (xc1)) := by rw [hu212]; exact (L198.out.al (by omega) (.cells #[.bool c1, .slice xa4 S2.length xc4, .slice ya4 D2.length yc4] 24))
  have L221 : Hid (MidC (u68.heap.size) (v6.heap.size) u212 (ya1) (D1) (yc1)) := by rw [hu212]; exact (L199.out.al (by omega) (.cells #[.bool c1, .slice xa4 S2.length xc4, .slice ya4 D2.length yc4] 24))
  have L222 : Hid (MidC (u85.heap.size) (v7.heap.size) u212 (xa2) (S2) (xc2)) := by rw [hu212]; exact (L200.out.al (by omega) (.cells #[.bool c1, .slice xa4 S2.length xc4, .slice ya4 D2.length yc4] 24))
  have L223 : Hid (MidC (u85.heap.size) (v7.heap.size) u212 (ya2) (D2) (yc2)) := by rw [hu212]; exact (L201.out.al (by omega) (.cells #[.bool c1, .slice xa4 S2.length xc4, .slice ya4 D2.length yc4] 24))
  have L224 : Hid (MidC (u180.heap.size) (v10.heap.size) u212 (xa4) (S2) (xc4)) := by rw [hu212]; exact (L203.out.al (by omega) (.cells #[.bool c1, .slice xa4 S2.length xc4, .slice ya4 D2.length yc4] 24))
  have L225 : Hid (MidC (u180.heap.size) (v10.heap.size) u212 (ya4) (D2) (yc4)) := by rw [hu212]; exact (L204.out.al (by omega) (.cells #[.bool c1, .slice xa4 S2.length xc4, .slice ya4 D2.length yc4] 24))
  have hb226 : Hid (Below w.heap.size w u212) := by rw [hu212]; exact (hb202.out.alloc (by omega) (.cells #[.bool c1, .slice xa4 S2.length xc4, .slice ya4 D2.length yc4] 24))
  have zu212 : w.heap.size ≤ u212.heap.size := hb226.out.size
  clear hu212 n205 l206 l207 l208 l209 l210 l211 hb202 B193 B194 B195 L196 L197 L198 L199 L200 L201 L203 L204
  refine (alike_eq c1 xa4 xc4 S2 ya4 yc4 D2 xa2 xc2 S2 ya2 yc2 D2 rfl rfl (by have := L1.out.2.2.2.1; omega) (by have := L1.out.2.2.2.2.1; omega) _ (L224.out.is (by omega)) (L225.out.is (by omega)).1 (L222.out.is (by omega)) (L223.out.is (by omega)).1).mono ?_
  rintro e v11 ⟨rfl, hB⟩
  have z227 : u212.heap.size ≤ v11.heap.size := hB.size
  have B228 : Hid (Abx v11 (w.heap.size) (.bool c1) (.slice (some ⟨bs, os, none⟩) sz1.length sc1) (.slice da1 dz1.length dc1)) := B214.out.go hB
  have B229 : Hid (Abx v11 (v6.heap.size) (.bool c1) (.slice xa1 S1.length xc1) (.slice ya1 D1.length yc1)) := B215.out.go hB
  have B230 : Hid (Abx v11 (v7.heap.size) (.bool c1) (.slice xa2 S2.length xc2) (.slice ya2 D2.length yc2)) := B216.out.go hB
  have B231 : Hid (Abx v11 (v10.heap.size) (.bool c1) (.slice xa4 S2.length xc4) (.slice ya4 D2.length yc4)) := B217.out.go hB
  have L232 : Hid (MidC (v4.heap.size) (v5.heap.size) v11 (some ⟨hb, ho, none⟩) ((sz1.set xn n).set xn (n - nth sz1 xn)) (gc)) := L218.out.go (by omega) hB
  have L233 : Hid (MidC (v5.heap.size) (v5.heap.size + 1) v11 (some ⟨v5.heap.size, 0, none⟩) ((zer (sz1.length)).set xn (n)) (sz1.length)) := L219.out.go (by omega) hB
  have L234 : Hid (MidC (u68.heap.size) (v6.heap.size) v11 (xa1) (S1) (xc1)) := L220.out.go (by omega) hB
  have L235 : Hid (MidC (u68.heap.size) (v6.heap.size) v11 (ya1) (D1) (yc1)) := L221.out.go (by omega) hB
  have L236 : Hid (MidC (u85.heap.size) (v7.heap.size) v11 (xa2) (S2) (xc2)) := L222.out.go (by omega) hB
  have L237 : Hid (MidC (u85.heap.size) (v7.heap.size) v11 (ya2) (D2) (yc2)) := L223.out.go (by omega) hB
  have L238 : Hid (MidC (u180.heap.size) (v10.heap.size) v11 (xa4) (S2) (xc4)) := L224.out.go (by omega) hB
  have L239 : Hid (MidC (u180.heap.size) (v10.heap.size) v11 (ya4) (D2) (yc4)) := L225.out.go (by omega) hB
  have hb240 : Hid (Below w.heap.size w v11) := hb226.out.trans (hB.mono hb226.out.size)
  clear hB hb226 B214 B215 B216 B217 L218 L219 L220 L221 L222 L223 L224 L225
  clear L238 L239 B231 L236 L237 B230 L232
  have l241 := (B228.out).c0
  have l242 := (B228.out).c1
  have l243 := (B228.out).c2
  have l244 := HC.out _ hb240.out
  obtain ⟨l245b, l245o, l245e, _, _, l245, l245f⟩ := (L233.out).at (i := xn) hzs
  cases l245e
  rw [Nat.zero_add] at l245 l245f
  have l246 := ((B228.out.ot (a := ⟨v5.heap.size, xn, none⟩) (by show w.heap.size ≠ v5.heap.size; omega) (.int .i64 (n - nth sz1 xn)))).c0
  have l247 := ((B228.out.ot (a := ⟨v5.heap.size, xn, none⟩) (by show w.heap.size ≠ v5.heap.size; omega) (.int .i64 (n - nth sz1 xn)))).c1
  have l248 := ((B228.out.ot (a := ⟨v5.heap.size, xn, none⟩) (by show w.heap.size ≠ v5.heap.size; omega) (.int .i64 (n - nth sz1 xn)))).c2
  go_wp2_with fail
  obtain ⟨u249, hu249⟩ : ∃ u249, u249 = (v11.setCell ⟨v5.heap.size, xn, none⟩ (.int .i64 (n - nth sz1 xn))) := ⟨_, rfl⟩
  rw [← hu249]
  have z250 : v11.heap.size ≤ u249.heap.size := by rw [hu249]; simp only [World.size_setCell]; omega
  have B251 : Hid (Abx u249 (w.heap.size) (.bool c1) (.slice (some ⟨bs, os, none⟩) sz1.length sc1) (.slice da1 dz1.length dc1)) := by rw [hu249]; exact (B228.out.ot (a := ⟨v5.heap.size, xn, none⟩) (by show w.heap.size ≠ v5.heap.size; omega) (.int .i64 (n - nth sz1 xn)))
  have B252 : Hid (Abx u249 (v6.heap.size) (.bool c1) (.slice xa1 S1.length xc1) (.slice ya1 D1.length yc1)) := by rw [hu249]; exact (B229.out.ot (a := ⟨v5.heap.size, xn, none⟩) (by show v6.heap.size ≠ v5.heap.size; omega) (.int .i64 (n - nth sz1 xn)))
  have L253 : Hid (MidC (v5.heap.size) (v5.heap.size + 1) u249 (some ⟨v5.heap.size, 0, none⟩) (((zer sz1.length).set xn n).set xn (n - nth sz1 xn)) (sz1.length)) := by rw [hu249]; exact (put0 L233.out hzs (n - nth sz1 xn))
  have L254 : Hid (MidC (u68.heap.size) (v6.heap.size) u249 (xa1) (S1) (xc1)) := by rw [hu249]; exact (L234.out.s1 (p := ⟨v5.heap.size, xn, none⟩) (by show v5.heap.size < u68.heap.size ∨ v6.heap.size ≤ v5.heap.size; omega) (.int .i64 (n - nth sz1 xn)))
  have L255 : Hid (MidC (u68.heap.size) (v6.heap.size) u249 (ya1) (D1) (yc1)) := by rw [hu249]; exact (L235.out.s1 (p := ⟨v5.heap.size, xn, none⟩) (by show v5.heap.size < u68.heap.size ∨ v6.heap.size ≤ v5.heap.size; omega) (.int .i64 (n - nth sz1 xn)))
  have hb256 : Hid (Below w.heap.size w u249) := by rw [hu249]; exact (hb240.out.setCell (p := ⟨v5.heap.size, xn, none⟩) (by show w.heap.size ≤ v5.heap.size; omega) (.int .i64 (n - nth sz1 xn)))
  have zu249 : w.heap.size ≤ u249.heap.size := hb256.out.size
  clear hu249 l241 l242 l243 l244 l245 l245f l246 l247 l248 hb240 B228 B229 L233 L234 L235
  refine (dr_okl (some ⟨v5.heap.size, 0, none⟩) sz1.length (((zer sz1.length).set xn n).set xn (n - nth sz1 xn)) sz1.length (by rw [List.length_set, List.length_set]; unfold zer; rw [List.length_replicate]) c1 (some ⟨bs, os, none⟩) sc1 sz1 da1 dc1 dz1 _ (by rw [List.length_set, List.length_set]; unfold zer; rw [List.length_replicate]; omega) T1.out.2.2.2 (L253.out.is (by omega)) x1 x2 ((HI.out.1.below hb256.out).mono hb256.out.size) ((HI.out.2.1.below hb256.out).mono hb256.out.size) HI.out.2.2 S1 D1 HDr G5.out).mono ?_
  rintro e v12 ⟨xa5, xc5, ya5, yc5, rfl, hX5, hY5, hB⟩
  have z257 : u249.heap.size ≤ v12.heap.size := hB.size
  have B258 : Hid (Abx v12 (w.heap.size) (.bool c1) (.slice (some ⟨bs, os, none⟩) sz1.length sc1) (.slice da1 dz1.length dc1)) := B251.out.go hB
  have B259 : Hid (Abx v12 (v6.heap.size) (.bool c1) (.slice xa1 S1.length xc1) (.slice ya1 D1.length yc1)) := B252.out.go hB
  have L260 : Hid (MidC (v5.heap.size) (v5.heap.size + 1) v12 (some ⟨v5.heap.size, 0, none⟩) (((zer sz1.length).set xn n).set xn (n - nth sz1 xn)) (sz1.length)) := L253.out.go (by omega) hB
  have L261 : Hid (MidC (u68.heap.size) (v6.heap.size) v12 (xa1) (S1) (xc1)) := L254.out.go (by omega) hB
  have L262 : Hid (MidC (u68.heap.size) (v6.heap.size) v12 (ya1) (D1) (yc1)) := L255.out.go (by omega) hB
  have hb263 : Hid (Below w.heap.size w v12) := hb256.out.trans (hB.mono hb256.out.size)
  have L264 : Hid (MidC (u249.heap.size) (v12.heap.size) v12 (xa5) (S1) (xc5)) := hX5.midc
  have L265 : Hid (MidC (u249.heap.size) (v12.heap.size) v12 (ya5) (D1) (yc5)) := hY5.midc
  clear hB hb256 B251 B252 L253 L254 L255 hX5 hY5
  have n266 := Abx.new v12 (.bool c1) (.slice xa5 S1.length xc5) (.slice ya5 D1.length yc5)
  have l267 := (n266).c0
  have l268 := (n266).c1
  have l269 := (n266).c2
  have l270 := ((B259.out.al (.cells #[.bool c1, .slice xa5 S1.length xc5, .slice ya5 D1.length yc5] 24))).c0
  have l271 := ((B259.out.al (.cells #[.bool c1, .slice xa5 S1.length xc5, .slice ya5 D1.length yc5] 24))).c1
  have l272 := ((B259.out.al (.cells #[.bool c1, .slice xa5 S1.length xc5, .slice ya5 D1.length yc5] 24))).c2
  go_wp2_with fail
  obtain ⟨u273, hu273⟩ : ∃ u273, u273 = (v12.alloc (.cells #[.bool c1, .slice xa5 S1.length xc5, .slice ya5 D1.length yc5] 24)) := ⟨_, rfl⟩
  rw [← hu273]
  have z274 : v12.heap.size + 1 ≤ u273.heap.size := by rw [hu273]; simp only [World.size_alloc]; omega
  have B275 : Hid (Abx u273 (w.heap.size) (.bool c1) (.slice (some ⟨bs, os, none⟩) sz1.length sc1) (.slice da1 dz1.length dc1)) := by rw [hu273]; exact (B258.out.al (.cells #[.bool c1, .slice xa5 S1.length xc5, .slice ya5 D1.length yc5] 24))
  have B276 : Hid (Abx u273 (v6.heap.size) (.bool c1) (.slice xa1 S1.length xc1) (.slice ya1 D1.length yc1)) := by rw [hu273]; exact (B259.out.al (.cells #[.bool c1, .slice xa5 S1.length xc5, .slice ya5 D1.length yc5] 24))
  have B277 : Hid (Abx u273 (v12.heap.size) (.bool c1) (.slice xa5 S1.length xc5) (.slice ya5 D1.length yc5)) := by rw [hu273]; exact n266
  have L278 : Hid (MidC (v5.heap.size) (v5.heap.size + 1) u273 (some ⟨v5.heap.size, 0, none⟩) (((zer sz1.length).set xn n).set xn (n - nth sz1 xn)) (sz1.length)) := by rw [hu273]; exact (L260.out.al (by omega) (.cells #[.bool c1, .slice xa5 S1.length xc5, .slice ya5 D1.length yc5] 24))
  have L279 : Hid (MidC (u68.heap.size) (v6.heap.size) u273 (xa1) (S1) (xc1)) := by rw [hu273]; exact (L261.out.al (by omega) (.cells #[.bool c1, .slice xa5 S1.length xc5, .slice ya5 D1.length yc5] 24))
  have L280 : Hid (MidC (u68.heap.size) (v6.heap.size) u273 (ya1) (D1) (yc1)) := by rw [hu273]; exact (L262.out.al (by omega) (.cells #[.bool c1, .slice xa5 S1.length xc5, .slice ya5 D1.length yc5] 24))
  have L281 : Hid (MidC (u249.heap.size) (v12.heap.size) u273 (xa5) (S1) (xc5)) := by rw [hu273]; exact (L264.out.al (by omega) (.cells #[.bool c1, .slice xa5 S1.length xc5, .slice ya5 D1.length yc5] 24))
  have L282 : Hid (MidC (u249.heap.size) (v12.heap.size) u273 (ya5) (D1) (yc5)) := by rw [hu273]; exact (L265.out.al (by omega) (.cells #[.bool c1, .slice xa5 S1.length xc5, .slice ya5 D1.length yc5] 24))
  have hb283 : Hid (Below w.heap.size w u273) := by rw [hu273]; exact (hb263.out.alloc (by omega) (.cells #[.bool c1, .slice xa5 S1.length xc5, .slice ya5 D1.length yc5] 24))
  have zu273 : w.heap.size ≤ u273.heap.size := hb283.out.size
  clear hu273 n266 l267 l268 l269 l270 l271 l272 hb263 B258 B259 L260 L261 L262 L264 L265
  refine (alike_eq c1 xa5 xc5 S1 ya5 yc5 D1 xa1 xc1 S1 ya1 yc1 D1 rfl rfl (by have := L1.out.1; omega) (by have := L1.out.2.1; omega) _ (L281.out.is (by omega)) (L282.out.is (by omega)).1 (L279.out.is (by omega)) (L280.out.is (by omega)).1).mono ?_
  rintro e v13 ⟨rfl, hB⟩
  have z284 : u273.heap.size ≤ v13.heap.size := hB.size
  have B285 : Hid (Abx v13 (w.heap.size) (.bool c1) (.slice (some ⟨bs, os, none⟩) sz1.length sc1) (.slice da1 dz1.length dc1)) := B275.out.go hB
  have B286 : Hid (Abx v13 (v6.heap.size) (.bool c1) (.slice xa1 S1.length xc1) (.slice ya1 D1.length yc1)) := B276.out.go hB
  have B287 : Hid (Abx v13 (v12.heap.size) (.bool c1) (.slice xa5 S1.length xc5) (.slice ya5 D1.length yc5)) := B277.out.go hB
  have L288 : Hid (MidC (v5.heap.size) (v5.heap.size + 1) v13 (some ⟨v5.heap.size, 0, none⟩) (((zer sz1.length).set xn n).set xn (n - nth sz1 xn)) (sz1.length)) := L278.out.go (by omega) hB
  have L289 : Hid (MidC (u68.heap.size) (v6.heap.size) v13 (xa1) (S1) (xc1)) := L279.out.go (by omega) hB
  have L290 : Hid (MidC (u68.heap.size) (v6.heap.size) v13 (ya1) (D1) (yc1)) := L280.out.go (by omega) hB
  have L291 : Hid (MidC (u249.heap.size) (v12.heap.size) v13 (xa5) (S1) (xc5)) := L281.out.go (by omega) hB
  have L292 : Hid (MidC (u249.heap.size) (v12.heap.size) v13 (ya5) (D1) (yc5)) := L282.out.go (by omega) hB
  have hb293 : Hid (Below w.heap.size w v13) := hb283.out.trans (hB.mono hb283.out.size)
  clear hB hb283 B275 B276 B277 L278 L279 L280 L281 L282
  go_wp2_with fail
  go_ret
  exact ⟨rfl, hb293.out⟩
end Go.Proofs.Ytldjgacnjogbnaa
