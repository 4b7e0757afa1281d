/-
  The walk of the statement FoldLast, given what the program tells.
-/
import Derived.Test.YtmbgomljofngnabFldi
import Derived.Test.YtmbgomljofngnabFldx
import Derived.Test.YtmbgomljofngnabFldl
import Derived.Test.YtmbgomljofngnabCutw
import Derived.Test.YtmbgomljofngnabCutq
import Derived.Test.YtmbgomljofngnabMidc
import Derived.Test.YtmbgomljofngnabSarr
namespace Go.Proofs.Ytmbgomljofngnab
open Go.RowKit
set_option linter.unusedVariables false

set_option maxRecDepth 100000 in
set_option maxHeartbeats 8000000 in
theorem last_no (HSc : CSc) (HRd : CRd) (HDr : CDr) (f x : Int) (hf : In64 f) (hx : In64 x) (c1 : Bool) (sa1 : Option Addr) (sc1 : Nat) (sz1 : List Int) (da1 : Option Addr) (dc1 : Nat) (dz1 : List Int) (w : World) (w8 : IsArrD w sa1 sz1 sc1 da1 dz1 dc1) (F1 : Hid (scE f x c1 sz1 dz1 ≠ 0)) :
    Calls Try.prog 5 #[.int .i64 f, .int .i64 x, .agg #[.bool c1, .slice sa1 sz1.length sc1, .slice da1 dz1.length dc1]] w fun e w' => e = .returned (.bool true) ∧ Below w.heap.size w w' := by
  obtain ⟨E, hE⟩ : ∃ E, E = scE f x c1 sz1 dz1 := ⟨_, rfl⟩
  have HE : Hid (scE f x c1 sz1 dz1 = E ∧ E ≠ 0) := ⟨hE.symm, by rw [hE]; exact F1.out⟩
  clear hE
  obtain ⟨x11, x12, x3, x4, s64, T⟩ := w8
  have HI1 : Hid (IsC w.heap.size w sa1 sz1 sc1 ∧ IsC w.heap.size w da1 dz1 dc1 ∧ (∀ j, In64 (nth sz1 j)) ∧ ∀ j, In64 (nth dz1 j)) := ⟨x3, x4, s64, T⟩
  clear x3 x4 T s64
  have n1 := Abx.new w (.bool c1) (.slice sa1 sz1.length sc1) (.slice da1 dz1.length dc1)
  have n2 := lit_mid (w.alloc (.cells #[.bool c1, .slice sa1 sz1.length sc1, .slice da1 dz1.length dc1] 24)) 3 [1, 2, 3] 3 rfl
  simp only [World.size_alloc, List.map_cons, List.map_nil] at n2
  go_enter Try.func5, Try.ntmps5
  go_wp2_with fail
  obtain ⟨wo3, hwo3⟩ : ∃ wo3, wo3 = ((w.alloc (.cells #[.bool c1, .slice sa1 sz1.length sc1, .slice da1 dz1.length dc1] 24)).alloc (.cells #[.int .i64 1, .int .i64 2, .int .i64 3] 3)) := ⟨_, rfl⟩
  rw [← hwo3]
  have z4 : w.heap.size + 1 + 1 ≤ wo3.heap.size := by rw [hwo3]; simp only [World.size_alloc]; omega
  have B5 : Hid (Abx wo3 (w.heap.size) (.bool c1) (.slice sa1 sz1.length sc1) (.slice da1 dz1.length dc1)) := by rw [hwo3]; exact (n1.al (.cells #[.int .i64 1, .int .i64 2, .int .i64 3] 3))
  have L6 : Hid (MidC (w.heap.size + 1) (w.heap.size + 1 + 1) wo3 (some ⟨w.heap.size + 1, 0, none⟩) ([1, 2, 3]) (3)) := by rw [hwo3]; exact n2
  have hb7 : Hid (Below w.heap.size w wo3) := by rw [hwo3]; exact (((Below.refl w.heap.size w).alloc (by omega) (.cells #[.bool c1, .slice sa1 sz1.length sc1, .slice da1 dz1.length dc1] 24)).alloc (by simp only [World.size_alloc]; omega) (.cells #[.int .i64 1, .int .i64 2, .int .i64 3] 3))
  have zwo3 : w.heap.size ≤ wo3.heap.size := hb7.out.size
  clear hwo3 n1 n2
  refine (vec_c (some ⟨w.heap.size + 1, 0, none⟩) 3 [1, 2, 3] (by simp) _ (L6.out.is (by omega)).1).mono ?_
  rintro e v1 ⟨vap, vcp, gap, gcp, rfl, hVp, hGp, hB⟩
  have z8 : wo3.heap.size ≤ v1.heap.size := hB.size
  have B9 : Hid (Abx v1 (w.heap.size) (.bool c1) (.slice sa1 sz1.length sc1) (.slice da1 dz1.length dc1)) := B5.out.go hB
  have L10 : Hid (MidC (w.heap.size + 1) (w.heap.size + 1 + 1) v1 (some ⟨w.heap.size + 1, 0, none⟩) ([1, 2, 3]) (3)) := L6.out.go (by omega) hB
  have hb11 : Hid (Below w.heap.size w v1) := hb7.out.trans (hB.mono hb7.out.size)
  have L12 : Hid (MidC (wo3.heap.size) (v1.heap.size) v1 (vap) ([(3 : Int)]) (vcp)) := hVp.midc
  have L13 : Hid (MidC (wo3.heap.size) (v1.heap.size) v1 (gap) ([1, 2, 3]) (gcp)) := hGp.midc
  clear hB hb7 B5 L6 hVp hGp
  clear L10
  go_wp2_with fail
  refine (scw_ok 1 0 false vap vcp [(3 : Int)] 1 rfl gap gcp [1, 2, 3] 3 rfl _ (by unfold In64; decide) (by unfold In64; decide) (by decide) (by decide) (L12.out.is (by omega)) (L13.out.is (by omega)).1 (lit12 (by decide)) [3] [1, 3, 6] HSc (by show scE 1 0 false [(3 : Int)] [1, 2, 3] = 0 ∧ [(3 : Int)] = [3] ∧ scD 1 [(3 : Int)] [1, 2, 3] (0 : Int).toNat = [1, 3, 6]; decide +kernel)).mono ?_
  rintro e v2 ⟨f1, g1, f2, g2, rfl, hX0, hY0, hB⟩
  have z14 : v1.heap.size ≤ v2.heap.size := hB.size
  have B15 : Hid (Abx v2 (w.heap.size) (.bool c1) (.slice sa1 sz1.length sc1) (.slice da1 dz1.length dc1)) := B9.out.go hB
  have L16 : Hid (MidC (wo3.heap.size) (v1.heap.size) v2 (vap) ([(3 : Int)]) (vcp)) := L12.out.go (by omega) hB
  have L17 : Hid (MidC (wo3.heap.size) (v1.heap.size) v2 (gap) ([1, 2, 3]) (gcp)) := L13.out.go (by omega) hB
  have hb18 : Hid (Below w.heap.size w v2) := hb11.out.trans (hB.mono hb11.out.size)
  have L19 : Hid (MidC (v1.heap.size) (v2.heap.size) v2 (f1) ([3]) (g1)) := hX0.midc
  have L20 : Hid (MidC (v1.heap.size) (v2.heap.size) v2 (f2) ([1, 3, 6]) (g2)) := hY0.midc
  clear hB hb11 B9 L12 L13 hX0 hY0
  clear L16 L17
  have n21 := Abx.new v2 (.bool false) (.slice f1 1 g1) (.slice f2 3 g2)
  have l22 := (n21).c0
  have l23 := (n21).c1
  have l24 := (n21).c2
  have n25 := lit_mid (v2.alloc (.cells #[.bool false, .slice f1 1 g1, .slice f2 3 g2] 24)) 3 [1, 3, 6] 3 rfl
  simp only [World.size_alloc, List.map_cons, List.map_nil] at n25
  go_wp2_with fail
  obtain ⟨wo26, hwo26⟩ : ∃ wo26, wo26 = ((v2.alloc (.cells #[.bool false, .slice f1 1 g1, .slice f2 3 g2] 24)).alloc (.cells #[.int .i64 1, .int .i64 3, .int .i64 6] 3)) := ⟨_, rfl⟩
  rw [← hwo26]
  have z27 : v2.heap.size + 1 + 1 ≤ wo26.heap.size := by rw [hwo26]; simp only [World.size_alloc]; omega
  have B28 : Hid (Abx wo26 (w.heap.size) (.bool c1) (.slice sa1 sz1.length sc1) (.slice da1 dz1.length dc1)) := by rw [hwo26]; exact ((B15.out.al (.cells #[.bool false, .slice f1 1 g1, .slice f2 3 g2] 24)).al (.cells #[.int .i64 1, .int .i64 3, .int .i64 6] 3))
  have B29 : Hid (Abx wo26 (v2.heap.size) (.bool false) (.slice f1 1 g1) (.slice f2 3 g2)) := by rw [hwo26]; exact (n21.al (.cells #[.int .i64 1, .int .i64 3, .int .i64 6] 3))
  have L30 : Hid (MidC (v1.heap.size) (v2.heap.size) wo26 (f1) ([3]) (g1)) := by rw [hwo26]; exact ((L19.out.al (by omega) (.cells #[.bool false, .slice f1 1 g1, .slice f2 3 g2] 24)).al (by simp only [World.size_alloc]; omega) (.cells #[.int .i64 1, .int .i64 3, .int .i64 6] 3))
  have L31 : Hid (MidC (v1.heap.size) (v2.heap.size) wo26 (f2) ([1, 3, 6]) (g2)) := by rw [hwo26]; exact ((L20.out.al (by omega) (.cells #[.bool false, .slice f1 1 g1, .slice f2 3 g2] 24)).al (by simp only [World.size_alloc]; omega) (.cells #[.int .i64 1, .int .i64 3, .int .i64 6] 3))
  have L32 : Hid (MidC (v2.heap.size + 1) (v2.heap.size + 1 + 1) wo26 (some ⟨v2.heap.size + 1, 0, none⟩) ([1, 3, 6]) (3)) := by rw [hwo26]; exact n25
  have hb33 : Hid (Below w.heap.size w wo26) := by rw [hwo26]; exact ((hb18.out.alloc (by omega) (.cells #[.bool false, .slice f1 1 g1, .slice f2 3 g2] 24)).alloc (by simp only [World.size_alloc]; omega) (.cells #[.int .i64 1, .int .i64 3, .int .i64 6] 3))
  have zwo26 : w.heap.size ≤ wo26.heap.size := hb33.out.size
  clear hwo26 n21 l22 l23 l24 n25 hb18 B15 L19 L20
  refine (ints_any f2 g2 [1, 3, 6] (some ⟨v2.heap.size + 1, 0, none⟩) 3 [1, 3, 6] (by simp) _ _ (L31.out.is (by omega)).1 (L32.out.is (by omega)).1).mono ?_
  rintro e v3 ⟨rfl, hB⟩
  have z34 : wo26.heap.size ≤ v3.heap.size := hB.size
  have B35 : Hid (Abx v3 (w.heap.size) (.bool c1) (.slice sa1 sz1.length sc1) (.slice da1 dz1.length dc1)) := B28.out.go hB
  have B36 : Hid (Abx v3 (v2.heap.size) (.bool false) (.slice f1 1 g1) (.slice f2 3 g2)) := B29.out.go hB
  have L37 : Hid (MidC (v1.heap.size) (v2.heap.size) v3 (f1) ([3]) (g1)) := L30.out.go (by omega) hB
  have L38 : Hid (MidC (v1.heap.size) (v2.heap.size) v3 (f2) ([1, 3, 6]) (g2)) := L31.out.go (by omega) hB
  have L39 : Hid (MidC (v2.heap.size + 1) (v2.heap.size + 1 + 1) v3 (some ⟨v2.heap.size + 1, 0, none⟩) ([1, 3, 6]) (3)) := L32.out.go (by omega) hB
  have hb40 : Hid (Below w.heap.size w v3) := hb33.out.trans (hB.mono hb33.out.size)
  clear hB hb33 B28 B29 L30 L31 L32
  rw [eqB_true rfl]
  clear L37 L38 L39 B36
  have l41 := (B35.out).c0
  have l42 := (B35.out).c1
  have l43 := (B35.out).c2
  go_wp2_with fail
  clear l41 l42 l43
  refine (scw_no f x c1 sa1 sc1 sz1 sz1.length rfl da1 dc1 dz1 dz1.length rfl _ hf hx x11 x12 ((HI1.out.1.below hb40.out).mono hb40.out.size) ((HI1.out.2.1.1.below hb40.out).mono hb40.out.size) HI1.out.2.2.2 HSc E HE.out).mono ?_
  rintro e v4 ⟨xa1, xc1, ya1, yc1, rfl, hB⟩
  have z44 : v3.heap.size ≤ v4.heap.size := hB.size
  have B45 : Hid (Abx v4 (w.heap.size) (.bool c1) (.slice sa1 sz1.length sc1) (.slice da1 dz1.length dc1)) := B35.out.go hB
  have hb46 : Hid (Below w.heap.size w v4) := hb40.out.trans (hB.mono hb40.out.size)
  clear hB hb40 B35
  have n47 := Abx.new v4 (.bool false) (.slice xa1 0 xc1) (.slice ya1 0 yc1)
  go_wp2_with fail
  obtain ⟨wo48, hwo48⟩ : ∃ wo48, wo48 = (v4.alloc (.cells #[.bool false, .slice xa1 0 xc1, .slice ya1 0 yc1] 24)) := ⟨_, rfl⟩
  rw [← hwo48]
  have z49 : v4.heap.size + 1 ≤ wo48.heap.size := by rw [hwo48]; simp only [World.size_alloc]; omega
  have B50 : Hid (Abx wo48 (w.heap.size) (.bool c1) (.slice sa1 sz1.length sc1) (.slice da1 dz1.length dc1)) := by rw [hwo48]; exact (B45.out.al (.cells #[.bool false, .slice xa1 0 xc1, .slice ya1 0 yc1] 24))
  have B51 : Hid (Abx wo48 (v4.heap.size) (.bool false) (.slice xa1 0 xc1) (.slice ya1 0 yc1)) := by rw [hwo48]; exact n47
  have hb52 : Hid (Below w.heap.size w wo48) := by rw [hwo48]; exact (hb46.out.alloc (by omega) (.cells #[.bool false, .slice xa1 0 xc1, .slice ya1 0 yc1] 24))
  have zwo48 : w.heap.size ≤ wo48.heap.size := hb52.out.size
  clear hwo48 n47 hb46 B45
  go_ret
  exact ⟨rfl, hb52.out⟩
set_option maxRecDepth 100000 in
set_option maxHeartbeats 8000000 in
theorem last_none (HSc : CSc) (HRd : CRd) (HDr : CDr) (f : Int) (xn : Nat) (hf : In64 f) (bs os : Nat) (sc1 : Nat) (sz1 : List Int) (da1 : Option Addr) (dc1 : Nat) (dz1 : List Int) (w : World) (w8 : IsArrD w (some ⟨bs, os, none⟩) sz1 sc1 da1 dz1 dc1) (hxl : xn < sz1.length) (F1 : Hid (scE f (xn : Int) false sz1 dz1 = 0)) (F3 : Hid ((nth sz1 xn).toNat = 0)) :
    Calls Try.prog 5 #[.int .i64 f, .int .i64 (xn : Nat), .agg #[.bool false, .slice (some ⟨bs, os, none⟩) sz1.length sc1, .slice da1 dz1.length dc1]] w fun e w' => e = .returned (.bool true) ∧ Below w.heap.size w w' := by
  have T1 := w8.2.2.2.2.2
  have z1 := scE_zero.1 F1.out
  have z2 := lnE_zero.1 z1.1
  have z3 := flawE_zero z2.2.1
  have ls1 : sz1.length ≤ 6 := (flawE_short z2.2.1).1
  have ld1 : dz1.length ≤ 4096 := (flawE_short z2.2.1).2
  obtain ⟨D, hD⟩ : ∃ D, D = scD f sz1 dz1 xn := ⟨_, rfl⟩
  have HR1 : Hid (scE f (xn : Int) false sz1 dz1 = 0 ∧ scD f sz1 dz1 (xn : Int).toNat = D) := ⟨F1.out, by rw [Int.toNat_natCast]; exact hD.symm⟩
  have lD : D.length ≤ 4096 := by rw [hD]; unfold scD; rw [TA_length]; exact (errS z3.1).2
  have hln := (errOf_zero.1 z3.1).2.1.nth xn
  obtain ⟨L, hL⟩ : ∃ L : Nat, (L : Int) = nth sz1 xn := ⟨(nth sz1 xn).toNat, by omega⟩
  have HL : Hid ((L : Int) = nth sz1 xn) := hL
  have hL4 : L ≤ 4096 := by omega
  have t0 : ((L : Int) == 0) = true := by have := F3.out; simp; omega
  have HLc : Hid (nth sz1 xn = (L : Int)) := hL.symm
  clear hD T1 z1 z2 z3 hln hL
  obtain ⟨x11, x12, x3, x4, s64, T⟩ := w8
  have HI1 : Hid (IsC w.heap.size w (some ⟨bs, os, none⟩) sz1 sc1 ∧ IsC w.heap.size w da1 dz1 dc1 ∧ (∀ j, In64 (nth sz1 j)) ∧ ∀ j, In64 (nth dz1 j)) := ⟨x3, x4, s64, T⟩
  clear x3 x4 T s64
  have n1 := Abx.new w (.bool false) (.slice (some ⟨bs, os, none⟩) sz1.length sc1) (.slice da1 dz1.length dc1)
  have n2 := lit_mid (w.alloc (.cells #[.bool false, .slice (some ⟨bs, os, none⟩) sz1.length sc1, .slice da1 dz1.length dc1] 24)) 3 [1, 2, 3] 3 rfl
  simp only [World.size_alloc, List.map_cons, List.map_nil] at n2
  go_enter Try.func5, Try.ntmps5
  go_wp2_with fail
  obtain ⟨wo3, hwo3⟩ : ∃ wo3, wo3 = ((w.alloc (.cells #[.bool false, .slice (some ⟨bs, os, none⟩) sz1.length sc1, .slice da1 dz1.length dc1] 24)).alloc (.cells #[.int .i64 1, .int .i64 2, .int .i64 3] 3)) := ⟨_, rfl⟩
  rw [← hwo3]
  have z4 : w.heap.size + 1 + 1 ≤ wo3.heap.size := by rw [hwo3]; simp only [World.size_alloc]; omega
  have B5 : Hid (Abx wo3 (w.heap.size) (.bool false) (.slice (some ⟨bs, os, none⟩) sz1.length sc1) (.slice da1 dz1.length dc1)) := by rw [hwo3]; exact (n1.al (.cells #[.int .i64 1, .int .i64 2, .int .i64 3] 3))
  have L6 : Hid (MidC (w.heap.size + 1) (w.heap.size + 1 + 1) wo3 (some ⟨w.heap.size + 1, 0, none⟩) ([1, 2, 3]) (3)) := by rw [hwo3]; exact n2
  have hb7 : Hid (Below w.heap.size w wo3) := by rw [hwo3]; exact (((Below.refl w.heap.size w).alloc (by omega) (.cells #[.bool false, .slice (some ⟨bs, os, none⟩) sz1.length sc1, .slice da1 dz1.length dc1] 24)).alloc (by simp only [World.size_alloc]; omega) (.cells #[.int .i64 1, .int .i64 2, .int .i64 3] 3))
  have zwo3 : w.heap.size ≤ wo3.heap.size := hb7.out.size
  clear hwo3 n1 n2
  refine (vec_c (some ⟨w.heap.size + 1, 0, none⟩) 3 [1, 2, 3] (by simp) _ (L6.out.is (by omega)).1).mono ?_
  rintro e v1 ⟨vap, vcp, gap, gcp, rfl, hVp, hGp, hB⟩
  have z8 : wo3.heap.size ≤ v1.heap.size := hB.size
  have B9 : Hid (Abx v1 (w.heap.size) (.bool false) (.slice (some ⟨bs, os, none⟩) sz1.length sc1) (.slice da1 dz1.length dc1)) := B5.out.go hB
  have L10 : Hid (MidC (w.heap.size + 1) (w.heap.size + 1 + 1) v1 (some ⟨w.heap.size + 1, 0, none⟩) ([1, 2, 3]) (3)) := L6.out.go (by omega) hB
  have hb11 : Hid (Below w.heap.size w v1) := hb7.out.trans (hB.mono hb7.out.size)
  have L12 : Hid (MidC (wo3.heap.size) (v1.heap.size) v1 (vap) ([(3 : Int)]) (vcp)) := hVp.midc
  have L13 : Hid (MidC (wo3.heap.size) (v1.heap.size) v1 (gap) ([1, 2, 3]) (gcp)) := hGp.midc
  clear hB hb7 B5 L6 hVp hGp
  clear L10
  go_wp2_with fail
  refine (scw_ok 1 0 false vap vcp [(3 : Int)] 1 rfl gap gcp [1, 2, 3] 3 rfl _ (by unfold In64; decide) (by unfold In64; decide) (by decide) (by decide) (L12.out.is (by omega)) (L13.out.is (by omega)).1 (lit12 (by decide)) [3] [1, 3, 6] HSc (by show scE 1 0 false [(3 : Int)] [1, 2, 3] = 0 ∧ [(3 : Int)] = [3] ∧ scD 1 [(3 : Int)] [1, 2, 3] (0 : Int).toNat = [1, 3, 6]; decide +kernel)).mono ?_
  rintro e v2 ⟨f1, g1, f2, g2, rfl, hX0, hY0, hB⟩
  have z14 : v1.heap.size ≤ v2.heap.size := hB.size
  have B15 : Hid (Abx v2 (w.heap.size) (.bool false) (.slice (some ⟨bs, os, none⟩) sz1.length sc1) (.slice da1 dz1.length dc1)) := B9.out.go hB
  have L16 : Hid (MidC (wo3.heap.size) (v1.heap.size) v2 (vap) ([(3 : Int)]) (vcp)) := L12.out.go (by omega) hB
  have L17 : Hid (MidC (wo3.heap.size) (v1.heap.size) v2 (gap) ([1, 2, 3]) (gcp)) := L13.out.go (by omega) hB
  have hb18 : Hid (Below w.heap.size w v2) := hb11.out.trans (hB.mono hb11.out.size)
  have L19 : Hid (MidC (v1.heap.size) (v2.heap.size) v2 (f1) ([3]) (g1)) := hX0.midc
  have L20 : Hid (MidC (v1.heap.size) (v2.heap.size) v2 (f2) ([1, 3, 6]) (g2)) := hY0.midc
  clear hB hb11 B9 L12 L13 hX0 hY0
  clear L16 L17
  have n21 := Abx.new v2 (.bool false) (.slice f1 1 g1) (.slice f2 3 g2)
  have l22 := (n21).c0
  have l23 := (n21).c1
  have l24 := (n21).c2
  have n25 := lit_mid (v2.alloc (.cells #[.bool false, .slice f1 1 g1, .slice f2 3 g2] 24)) 3 [1, 3, 6] 3 rfl
  simp only [World.size_alloc, List.map_cons, List.map_nil] at n25
  go_wp2_with fail
  obtain ⟨wo26, hwo26⟩ : ∃ wo26, wo26 = ((v2.alloc (.cells #[.bool false, .slice f1 1 g1, .slice f2 3 g2] 24)).alloc (.cells #[.int .i64 1, .int .i64 3, .int .i64 6] 3)) := ⟨_, rfl⟩
  rw [← hwo26]
  have z27 : v2.heap.size + 1 + 1 ≤ wo26.heap.size := by rw [hwo26]; simp only [World.size_alloc]; omega
  have B28 : Hid (Abx wo26 (w.heap.size) (.bool false) (.slice (some ⟨bs, os, none⟩) sz1.length sc1) (.slice da1 dz1.length dc1)) := by rw [hwo26]; exact ((B15.out.al (.cells #[.bool false, .slice f1 1 g1, .slice f2 3 g2] 24)).al (.cells #[.int .i64 1, .int .i64 3, .int .i64 6] 3))
  have B29 : Hid (Abx wo26 (v2.heap.size) (.bool false) (.slice f1 1 g1) (.slice f2 3 g2)) := by rw [hwo26]; exact (n21.al (.cells #[.int .i64 1, .int .i64 3, .int .i64 6] 3))
  have L30 : Hid (MidC (v1.heap.size) (v2.heap.size) wo26 (f1) ([3]) (g1)) := by rw [hwo26]; exact ((L19.out.al (by omega) (.cells #[.bool false, .slice f1 1 g1, .slice f2 3 g2] 24)).al (by simp only [World.size_alloc]; omega) (.cells #[.int .i64 1, .int .i64 3, .int .i64 6] 3))
  have L31 : Hid (MidC (v1.heap.size) (v2.heap.size) wo26 (f2) ([1, 3, 6]) (g2)) := by rw [hwo26]; exact ((L20.out.al (by omega) (.cells #[.bool false, .slice f1 1 g1, .slice f2 3 g2] 24)).al (by simp only [World.size_alloc]; omega) (.cells #[.int .i64 1, .int .i64 3, .int .i64 6] 3))
  have L32 : Hid (MidC (v2.heap.size + 1) (v2.heap.size + 1 + 1) wo26 (some ⟨v2.heap.size + 1, 0, none⟩) ([1, 3, 6]) (3)) := by rw [hwo26]; exact n25
  have hb33 : Hid (Below w.heap.size w wo26) := by rw [hwo26]; exact ((hb18.out.alloc (by omega) (.cells #[.bool false, .slice f1 1 g1, .slice f2 3 g2] 24)).alloc (by simp only [World.size_alloc]; omega) (.cells #[.int .i64 1, .int .i64 3, .int .i64 6] 3))
  have zwo26 : w.heap.size ≤ wo26.heap.size := hb33.out.size
  clear hwo26 n21 l22 l23 l24 n25 hb18 B15 L19 L20
  refine (ints_any f2 g2 [1, 3, 6] (some ⟨v2.heap.size + 1, 0, none⟩) 3 [1, 3, 6] (by simp) _ _ (L31.out.is (by omega)).1 (L32.out.is (by omega)).1).mono ?_
  rintro e v3 ⟨rfl, hB⟩
  have z34 : wo26.heap.size ≤ v3.heap.size := hB.size
  have B35 : Hid (Abx v3 (w.heap.size) (.bool false) (.slice (some ⟨bs, os, none⟩) sz1.length sc1) (.slice da1 dz1.length dc1)) := B28.out.go hB
  have B36 : Hid (Abx v3 (v2.heap.size) (.bool false) (.slice f1 1 g1) (.slice f2 3 g2)) := B29.out.go hB
  have L37 : Hid (MidC (v1.heap.size) (v2.heap.size) v3 (f1) ([3]) (g1)) := L30.out.go (by omega) hB
  have L38 : Hid (MidC (v1.heap.size) (v2.heap.size) v3 (f2) ([1, 3, 6]) (g2)) := L31.out.go (by omega) hB
  have L39 : Hid (MidC (v2.heap.size + 1) (v2.heap.size + 1 + 1) v3 (some ⟨v2.heap.size + 1, 0, none⟩) ([1, 3, 6]) (3)) := L32.out.go (by omega) hB
  have hb40 : Hid (Below w.heap.size w v3) := hb33.out.trans (hB.mono hb33.out.size)
  clear hB hb33 B28 B29 L30 L31 L32
  rw [eqB_true rfl]
  clear L37 L38 L39 B36
  have l41 := (B35.out).c0
  have l42 := (B35.out).c1
  have l43 := (B35.out).c2
  go_wp2_with fail
  clear l41 l42 l43
  refine (scw_ok f (xn : Int) false (some ⟨bs, os, none⟩) sc1 sz1 sz1.length rfl da1 dc1 dz1 dz1.length rfl _ hf (by unfold In64; omega) x11 x12 ((HI1.out.1.below hb40.out).mono hb40.out.size) ((HI1.out.2.1.1.below hb40.out).mono hb40.out.size) HI1.out.2.2.2 sz1 D HSc ⟨HR1.out.1, rfl, HR1.out.2⟩).mono ?_
  rintro e v4 ⟨xa1, xc1, ya1, yc1, rfl, hX1, hY1, hB⟩
  have z44 : v3.heap.size ≤ v4.heap.size := hB.size
  have B45 : Hid (Abx v4 (w.heap.size) (.bool false) (.slice (some ⟨bs, os, none⟩) sz1.length sc1) (.slice da1 dz1.length dc1)) := B35.out.go hB
  have hb46 : Hid (Below w.heap.size w v4) := hb40.out.trans (hB.mono hb40.out.size)
  have L47 : Hid (MidC (v3.heap.size) (v4.heap.size) v4 (xa1) (sz1) (xc1)) := hX1.midc
  have L48 : Hid (MidC (v3.heap.size) (v4.heap.size) v4 (ya1) (D) (yc1)) := hY1.midc
  clear hB hb40 B35 hX1 hY1
  have n49 := Abx.new v4 (.bool false) (.slice xa1 sz1.length xc1) (.slice ya1 D.length yc1)
  have l50 := (n49).c0
  have l51 := (n49).c1
  have l52 := (n49).c2
  have l53 := ((B45.out.al (.cells #[.bool false, .slice xa1 sz1.length xc1, .slice ya1 D.length yc1] 24))).c0
  have l54 := ((B45.out.al (.cells #[.bool false, .slice xa1 sz1.length xc1, .slice ya1 D.length yc1] 24))).c1
  have l55 := ((B45.out.al (.cells #[.bool false, .slice xa1 sz1.length xc1, .slice ya1 D.length yc1] 24))).c2
  go_wp2_with fail
  obtain ⟨wo56, hwo56⟩ : ∃ wo56, wo56 = (v4.alloc (.cells #[.bool false, .slice xa1 sz1.length xc1, .slice ya1 D.length yc1] 24)) := ⟨_, rfl⟩
  rw [← hwo56]
  have z57 : v4.heap.size + 1 ≤ wo56.heap.size := by rw [hwo56]; simp only [World.size_alloc]; omega
  have B58 : Hid (Abx wo56 (w.heap.size) (.bool false) (.slice (some ⟨bs, os, none⟩) sz1.length sc1) (.slice da1 dz1.length dc1)) := by rw [hwo56]; exact (B45.out.al (.cells #[.bool false, .slice xa1 sz1.length xc1, .slice ya1 D.length yc1] 24))
  have B59 : Hid (Abx wo56 (v4.heap.size) (.bool false) (.slice xa1 sz1.length xc1) (.slice ya1 D.length yc1)) := by rw [hwo56]; exact n49
  have L60 : Hid (MidC (v3.heap.size) (v4.heap.size) wo56 (xa1) (sz1) (xc1)) := by rw [hwo56]; exact (L47.out.al (by omega) (.cells #[.bool false, .slice xa1 sz1.length xc1, .slice ya1 D.length yc1] 24))
  have L61 : Hid (MidC (v3.heap.size) (v4.heap.size) wo56 (ya1) (D) (yc1)) := by rw [hwo56]; exact (L48.out.al (by omega) (.cells #[.bool false, .slice xa1 sz1.length xc1, .slice ya1 D.length yc1] 24))
  have hb62 : Hid (Below w.heap.size w wo56) := by rw [hwo56]; exact (hb46.out.alloc (by omega) (.cells #[.bool false, .slice xa1 sz1.length xc1, .slice ya1 D.length yc1] 24))
  have zwo56 : w.heap.size ≤ wo56.heap.size := hb62.out.size
  clear hwo56 n49 l50 l51 l52 l53 l54 l55 hb46 B45 L47 L48
  refine (ints_any xa1 xc1 sz1 (some ⟨bs, os, none⟩) sc1 sz1 x11 _ _ (L60.out.is (by omega)).1 ((HI1.out.1.1.below hb62.out).mono hb62.out.size)).mono ?_
  rintro e v5 ⟨rfl, hB⟩
  have z63 : wo56.heap.size ≤ v5.heap.size := hB.size
  have B64 : Hid (Abx v5 (w.heap.size) (.bool false) (.slice (some ⟨bs, os, none⟩) sz1.length sc1) (.slice da1 dz1.length dc1)) := B58.out.go hB
  have B65 : Hid (Abx v5 (v4.heap.size) (.bool false) (.slice xa1 sz1.length xc1) (.slice ya1 D.length yc1)) := B59.out.go hB
  have L66 : Hid (MidC (v3.heap.size) (v4.heap.size) v5 (xa1) (sz1) (xc1)) := L60.out.go (by omega) hB
  have L67 : Hid (MidC (v3.heap.size) (v4.heap.size) v5 (ya1) (D) (yc1)) := L61.out.go (by omega) hB
  have hb68 : Hid (Below w.heap.size w v5) := hb62.out.trans (hB.mono hb62.out.size)
  clear hB hb62 B58 B59 L60 L61
  rw [eqB_true rfl]
  have cS := (((HI1.out.1.1.below hb68.out).mono hb68.out.size)).at hxl
  obtain ⟨_, _, e1, _, hcS⟩ := cS
  cases e1
  have cS := hcS xn hxl
  rw [HLc.out] at cS
  have l1 := B64.out.c1
  clear hcS
  go_wp2_with fail
  go_ret
  exact ⟨rfl, hb68.out⟩
set_option maxRecDepth 100000 in
set_option maxHeartbeats 8000000 in
theorem last_ok (HSc : CSc) (HRd : CRd) (HDr : CDr) (f : Int) (xn : Nat) (hf : In64 f) (bs os : Nat) (sc1 : Nat) (sz1 : List Int) (da1 : Option Addr) (dc1 : Nat) (dz1 : List Int) (w : World) (w8 : IsArrD w (some ⟨bs, os, none⟩) sz1 sc1 da1 dz1 dc1) (hxl : xn < sz1.length) (F1 : Hid (scE f (xn : Int) false sz1 dz1 = 0)) (F3 : Hid (1 ≤ (nth sz1 xn).toNat)) :
    Calls Try.prog 5 #[.int .i64 f, .int .i64 (xn : Nat), .agg #[.bool false, .slice (some ⟨bs, os, none⟩) sz1.length sc1, .slice da1 dz1.length dc1]] w fun e w' => e = .returned (.bool true) ∧ Below w.heap.size w w' := by
  have T1 := w8.2.2.2.2.2
  have z1 := scE_zero.1 F1.out
  have z2 := lnE_zero.1 z1.1
  have z3 := flawE_zero z2.2.1
  have ls1 : sz1.length ≤ 6 := (flawE_short z2.2.1).1
  have ld1 : dz1.length ≤ 4096 := (flawE_short z2.2.1).2
  obtain ⟨D, hD⟩ : ∃ D, D = scD f sz1 dz1 xn := ⟨_, rfl⟩
  have HR1 : Hid (scE f (xn : Int) false sz1 dz1 = 0 ∧ scD f sz1 dz1 (xn : Int).toNat = D) := ⟨F1.out, by rw [Int.toNat_natCast]; exact hD.symm⟩
  have lD : D.length ≤ 4096 := by rw [hD]; unfold scD; rw [TA_length]; exact (errS z3.1).2
  have hln := (errOf_zero.1 z3.1).2.1.nth xn
  obtain ⟨L, hL⟩ : ∃ L : Nat, (L : Int) = nth sz1 xn := ⟨(nth sz1 xn).toNat, by omega⟩
  have HL : Hid ((L : Int) = nth sz1 xn) := hL
  have hL4 : L ≤ 4096 := by omega
  have hL1 : 1 ≤ L := by have := F3.out; omega
  have t0 : ((L : Int) == 0) = false := by simp; omega
  have HLc : Hid (nth sz1 xn = (L : Int)) := hL.symm
  obtain ⟨S, hS⟩ : ∃ S, S = xout xn sz1 := ⟨_, rfl⟩
  obtain ⟨R, hR⟩ : ∃ R, R = rdD f sz1 dz1 xn := ⟨_, rfl⟩
  obtain ⟨s1, s2⟩ := sc_last F1.out (Int.toNat_natCast xn) (by rw [← hL]; omega)
  have s3 := sc_first F1.out (Int.toNat_natCast xn) (by rw [← hL]; omega)
  rw [← hR, ← hD] at s2
  rw [← hD] at s3
  have HR2 : Hid (rdE f (xn : Int) false sz1 dz1 = 0 ∧ xout (xn : Int).toNat sz1 = S ∧ rdD f sz1 dz1 (xn : Int).toNat = R) := ⟨s1, by rw [Int.toNat_natCast]; exact hS.symm, by rw [Int.toNat_natCast]; exact hR.symm⟩
  have lS : S.length ≤ 4096 := by rw [hS]; exact (errS (rdE_zero.1 s1).2.2.1).1
  have lR : R.length ≤ 4096 := by rw [hR]; unfold rdD; rw [TA_length]; exact (errS (rdE_zero.1 s1).2.2.1).2
  have fD : flawE false sz1 D = 0 := by have h := sc_flaw F1.out; rw [Int.toNat_natCast, ← hD] at h; exact h
  have TD : ∀ j, In64 (nth D j) := by have h := sc_64 (f := f) (x := (xn : Int)) z3.1 T1; rw [Int.toNat_natCast, ← hD] at h; exact h
  have d1 := dr_tail fD hxl (n := nth sz1 xn - 1) (by rw [← hL]; omega) (by omega)
  have d2 := dr_last fD hxl (n := 1) (by omega) (by rw [← hL]; omega)
  have d3 := dr_last z2.2.1 hxl (n := 1) (by omega) (by rw [← hL]; omega)
  rw [← hL] at d1 d2 d3 s2
  rw [show (L : Int) - ((L : Int) - 1) = 1 by omega] at d1
  rw [s2] at d1
  rw [s3] at d2
  obtain ⟨S1, hS1⟩ : ∃ S1, S1 = sz1.set xn 1 := ⟨_, rfl⟩
  obtain ⟨V, hV⟩ : ∃ V, V = TA (sz1.set xn 1) (cel sz1 dz1) := ⟨_, rfl⟩
  rw [← hS1] at d1 d2 d3 hV
  rw [← hV] at d2 d3
  have lV : V.length ≤ 4096 := by rw [hV, TA_length, hS1]; exact (errS (err_set z3.1 hxl (by omega) (by rw [← hL]; omega))).2
  have lS1 : S1.length ≤ 6 := by rw [hS1, List.length_set]; omega
  have H1 : Hid (drE ((zer sz1.length).set xn ((L : Int) - 1)) false sz1 D = 0 ∧ drS sz1 ((zer sz1.length).set xn ((L : Int) - 1)) = S1 ∧ drD ((zer sz1.length).set xn ((L : Int) - 1)) false sz1 D = R) := d1
  rw [← set_set (s := zer sz1.length) ((L : Int) - 1)] at d2 d3
  have H2 : Hid (drE (((zer sz1.length).set xn ((L : Int) - 1)).set xn (1 - (L : Int))) false sz1 D = 0 ∧ drS sz1 (((zer sz1.length).set xn ((L : Int) - 1)).set xn (1 - (L : Int))) = S1 ∧ drD (((zer sz1.length).set xn ((L : Int) - 1)).set xn (1 - (L : Int))) false sz1 D = V) := d2
  have H3 : Hid (drE (((zer sz1.length).set xn ((L : Int) - 1)).set xn (1 - (L : Int))) false sz1 dz1 = 0 ∧ drS sz1 (((zer sz1.length).set xn ((L : Int) - 1)).set xn (1 - (L : Int))) = S1 ∧ drD (((zer sz1.length).set xn ((L : Int) - 1)).set xn (1 - (L : Int))) false sz1 dz1 = V) := d3
  have hzl : xn < (zer sz1.length).length := by unfold zer; rw [List.length_replicate]; exact hxl
  have hzs : xn < ((zer sz1.length).set xn ((L : Int) - 1)).length := by rw [List.length_set]; exact hzl
  have HTD : Hid (∀ j, In64 (nth D j)) := TD
  have hmk := run_make_row' (P := Try.prog) 22 3 (.int .i64 0) 8 Try.underlying22 Try.infoInt rfl .i64 .i64 sz1.length (by omega) (by omega)
  clear hD T1 z1 z2 z3 hln hL hS hR s1 s2 s3 fD TD d1 d2 d3 hS1 hV
  obtain ⟨x11, x12, x3, x4, s64, T⟩ := w8
  have HI1 : Hid (IsC w.heap.size w (some ⟨bs, os, none⟩) sz1 sc1 ∧ IsC w.heap.size w da1 dz1 dc1 ∧ (∀ j, In64 (nth sz1 j)) ∧ ∀ j, In64 (nth dz1 j)) := ⟨x3, x4, s64, T⟩
  clear x3 x4 T s64
  have n1 := Abx.new w (.bool false) (.slice (some ⟨bs, os, none⟩) sz1.length sc1) (.slice da1 dz1.length dc1)
  have n2 := lit_mid (w.alloc (.cells #[.bool false, .slice (some ⟨bs, os, none⟩) sz1.length sc1, .slice da1 dz1.length dc1] 24)) 3 [1, 2, 3] 3 rfl
  simp only [World.size_alloc, List.map_cons, List.map_nil] at n2
  go_enter Try.func5, Try.ntmps5
  go_wp2_with fail
  obtain ⟨wo3, hwo3⟩ : ∃ wo3, wo3 = ((w.alloc (.cells #[.bool false, .slice (some ⟨bs, os, none⟩) sz1.length sc1, .slice da1 dz1.length dc1] 24)).alloc (.cells #[.int .i64 1, .int .i64 2, .int .i64 3] 3)) := ⟨_, rfl⟩
  rw [← hwo3]
  have z4 : w.heap.size + 1 + 1 ≤ wo3.heap.size := by rw [hwo3]; simp only [World.size_alloc]; omega
  have B5 : Hid (Abx wo3 (w.heap.size) (.bool false) (.slice (some ⟨bs, os, none⟩) sz1.length sc1) (.slice da1 dz1.length dc1)) := by rw [hwo3]; exact (n1.al (.cells #[.int .i64 1, .int .i64 2, .int .i64 3] 3))
  have L6 : Hid (MidC (w.heap.size + 1) (w.heap.size + 1 + 1) wo3 (some ⟨w.heap.size + 1, 0, none⟩) ([1, 2, 3]) (3)) := by rw [hwo3]; exact n2
  have hb7 : Hid (Below w.heap.size w wo3) := by rw [hwo3]; exact (((Below.refl w.heap.size w).alloc (by omega) (.cells #[.bool false, .slice (some ⟨bs, os, none⟩) sz1.length sc1, .slice da1 dz1.length dc1] 24)).alloc (by simp only [World.size_alloc]; omega) (.cells #[.int .i64 1, .int .i64 2, .int .i64 3] 3))
  have zwo3 : w.heap.size ≤ wo3.heap.size := hb7.out.size
  clear hwo3 n1 n2
  refine (vec_c (some ⟨w.heap.size + 1, 0, none⟩) 3 [1, 2, 3] (by simp) _ (L6.out.is (by omega)).1).mono ?_
  rintro e v1 ⟨vap, vcp, gap, gcp, rfl, hVp, hGp, hB⟩
  have z8 : wo3.heap.size ≤ v1.heap.size := hB.size
  have B9 : Hid (Abx v1 (w.heap.size) (.bool false) (.slice (some ⟨bs, os, none⟩) sz1.length sc1) (.slice da1 dz1.length dc1)) := B5.out.go hB
  have L10 : Hid (MidC (w.heap.size + 1) (w.heap.size + 1 + 1) v1 (some ⟨w.heap.size + 1, 0, none⟩) ([1, 2, 3]) (3)) := L6.out.go (by omega) hB
  have hb11 : Hid (Below w.heap.size w v1) := hb7.out.trans (hB.mono hb7.out.size)
  have L12 : Hid (MidC (wo3.heap.size) (v1.heap.size) v1 (vap) ([(3 : Int)]) (vcp)) := hVp.midc
  have L13 : Hid (MidC (wo3.heap.size) (v1.heap.size) v1 (gap) ([1, 2, 3]) (gcp)) := hGp.midc
  clear hB hb7 B5 L6 hVp hGp
  clear L10
  go_wp2_with fail
  refine (scw_ok 1 0 false vap vcp [(3 : Int)] 1 rfl gap gcp [1, 2, 3] 3 rfl _ (by unfold In64; decide) (by unfold In64; decide) (by decide) (by decide) (L12.out.is (by omega)) (L13.out.is (by omega)).1 (lit12 (by decide)) [3] [1, 3, 6] HSc (by show scE 1 0 false [(3 : Int)] [1, 2, 3] = 0 ∧ [(3 : Int)] = [3] ∧ scD 1 [(3 : Int)] [1, 2, 3] (0 : Int).toNat = [1, 3, 6]; decide +kernel)).mono ?_
  rintro e v2 ⟨f1, g1, f2, g2, rfl, hX0, hY0, hB⟩
  have z14 : v1.heap.size ≤ v2.heap.size := hB.size
  have B15 : Hid (Abx v2 (w.heap.size) (.bool false) (.slice (some ⟨bs, os, none⟩) sz1.length sc1) (.slice da1 dz1.length dc1)) := B9.out.go hB
  have L16 : Hid (MidC (wo3.heap.size) (v1.heap.size) v2 (vap) ([(3 : Int)]) (vcp)) := L12.out.go (by omega) hB
  have L17 : Hid (MidC (wo3.heap.size) (v1.heap.size) v2 (gap) ([1, 2, 3]) (gcp)) := L13.out.go (by omega) hB
  have hb18 : Hid (Below w.heap.size w v2) := hb11.out.trans (hB.mono hb11.out.size)
  have L19 : Hid (MidC (v1.heap.size) (v2.heap.size) v2 (f1) ([3]) (g1)) := hX0.midc
  have L20 : Hid (MidC (v1.heap.size) (v2.heap.size) v2 (f2) ([1, 3, 6]) (g2)) := hY0.midc
  clear hB hb11 B9 L12 L13 hX0 hY0
  clear L16 L17
  have n21 := Abx.new v2 (.bool false) (.slice f1 1 g1) (.slice f2 3 g2)
  have l22 := (n21).c0
  have l23 := (n21).c1
  have l24 := (n21).c2
  have n25 := lit_mid (v2.alloc (.cells #[.bool false, .slice f1 1 g1, .slice f2 3 g2] 24)) 3 [1, 3, 6] 3 rfl
  simp only [World.size_alloc, List.map_cons, List.map_nil] at n25
  go_wp2_with fail
  obtain ⟨wo26, hwo26⟩ : ∃ wo26, wo26 = ((v2.alloc (.cells #[.bool false, .slice f1 1 g1, .slice f2 3 g2] 24)).alloc (.cells #[.int .i64 1, .int .i64 3, .int .i64 6] 3)) := ⟨_, rfl⟩
  rw [← hwo26]
  have z27 : v2.heap.size + 1 + 1 ≤ wo26.heap.size := by rw [hwo26]; simp only [World.size_alloc]; omega
  have B28 : Hid (Abx wo26 (w.heap.size) (.bool false) (.slice (some ⟨bs, os, none⟩) sz1.length sc1) (.slice da1 dz1.length dc1)) := by rw [hwo26]; exact ((B15.out.al (.cells #[.bool false, .slice f1 1 g1, .slice f2 3 g2] 24)).al (.cells #[.int .i64 1, .int .i64 3, .int .i64 6] 3))
  have B29 : Hid (Abx wo26 (v2.heap.size) (.bool false) (.slice f1 1 g1) (.slice f2 3 g2)) := by rw [hwo26]; exact (n21.al (.cells #[.int .i64 1, .int .i64 3, .int .i64 6] 3))
  have L30 : Hid (MidC (v1.heap.size) (v2.heap.size) wo26 (f1) ([3]) (g1)) := by rw [hwo26]; exact ((L19.out.al (by omega) (.cells #[.bool false, .slice f1 1 g1, .slice f2 3 g2] 24)).al (by simp only [World.size_alloc]; omega) (.cells #[.int .i64 1, .int .i64 3, .int .i64 6] 3))
  have L31 : Hid (MidC (v1.heap.size) (v2.heap.size) wo26 (f2) ([1, 3, 6]) (g2)) := by rw [hwo26]; exact ((L20.out.al (by omega) (.cells #[.bool false, .slice f1 1 g1, .slice f2 3 g2] 24)).al (by simp only [World.size_alloc]; omega) (.cells #[.int .i64 1, .int .i64 3, .int .i64 6] 3))
  have L32 : Hid (MidC (v2.heap.size + 1) (v2.heap.size + 1 + 1) wo26 (some ⟨v2.heap.size + 1, 0, none⟩) ([1, 3, 6]) (3)) := by rw [hwo26]; exact n25
  have hb33 : Hid (Below w.heap.size w wo26) := by rw [hwo26]; exact ((hb18.out.alloc (by omega) (.cells #[.bool false, .slice f1 1 g1, .slice f2 3 g2] 24)).alloc (by simp only [World.size_alloc]; omega) (.cells #[.int .i64 1, .int .i64 3, .int .i64 6] 3))
  have zwo26 : w.heap.size ≤ wo26.heap.size := hb33.out.size
  clear hwo26 n21 l22 l23 l24 n25 hb18 B15 L19 L20
  refine (ints_any f2 g2 [1, 3, 6] (some ⟨v2.heap.size + 1, 0, none⟩) 3 [1, 3, 6] (by simp) _ _ (L31.out.is (by omega)).1 (L32.out.is (by omega)).1).mono ?_
  rintro e v3 ⟨rfl, hB⟩
  have z34 : wo26.heap.size ≤ v3.heap.size := hB.size
  have B35 : Hid (Abx v3 (w.heap.size) (.bool false) (.slice (some ⟨bs, os, none⟩) sz1.length sc1) (.slice da1 dz1.length dc1)) := B28.out.go hB
  have B36 : Hid (Abx v3 (v2.heap.size) (.bool false) (.slice f1 1 g1) (.slice f2 3 g2)) := B29.out.go hB
  have L37 : Hid (MidC (v1.heap.size) (v2.heap.size) v3 (f1) ([3]) (g1)) := L30.out.go (by omega) hB
  have L38 : Hid (MidC (v1.heap.size) (v2.heap.size) v3 (f2) ([1, 3, 6]) (g2)) := L31.out.go (by omega) hB
  have L39 : Hid (MidC (v2.heap.size + 1) (v2.heap.size + 1 + 1) v3 (some ⟨v2.heap.size + 1, 0, none⟩) ([1, 3, 6]) (3)) := L32.out.go (by omega) hB
  have hb40 : Hid (Below w.heap.size w v3) := hb33.out.trans (hB.mono hb33.out.size)
  clear hB hb33 B28 B29 L30 L31 L32
  rw [eqB_true rfl]
  clear L37 L38 L39 B36
  have l41 := (B35.out).c0
  have l42 := (B35.out).c1
  have l43 := (B35.out).c2
  go_wp2_with fail
  clear l41 l42 l43
  refine (scw_ok f (xn : Int) false (some ⟨bs, os, none⟩) sc1 sz1 sz1.length rfl da1 dc1 dz1 dz1.length rfl _ hf (by unfold In64; omega) x11 x12 ((HI1.out.1.below hb40.out).mono hb40.out.size) ((HI1.out.2.1.1.below hb40.out).mono hb40.out.size) HI1.out.2.2.2 sz1 D HSc ⟨HR1.out.1, rfl, HR1.out.2⟩).mono ?_
  rintro e v4 ⟨xa1, xc1, ya1, yc1, rfl, hX1, hY1, hB⟩
  have z44 : v3.heap.size ≤ v4.heap.size := hB.size
  have B45 : Hid (Abx v4 (w.heap.size) (.bool false) (.slice (some ⟨bs, os, none⟩) sz1.length sc1) (.slice da1 dz1.length dc1)) := B35.out.go hB
  have hb46 : Hid (Below w.heap.size w v4) := hb40.out.trans (hB.mono hb40.out.size)
  have L47 : Hid (MidC (v3.heap.size) (v4.heap.size) v4 (xa1) (sz1) (xc1)) := hX1.midc
  have L48 : Hid (MidC (v3.heap.size) (v4.heap.size) v4 (ya1) (D) (yc1)) := hY1.midc
  clear hB hb40 B35 hX1 hY1
  have n49 := Abx.new v4 (.bool false) (.slice xa1 sz1.length xc1) (.slice ya1 D.length yc1)
  have l50 := (n49).c0
  have l51 := (n49).c1
  have l52 := (n49).c2
  have l53 := ((B45.out.al (.cells #[.bool false, .slice xa1 sz1.length xc1, .slice ya1 D.length yc1] 24))).c0
  have l54 := ((B45.out.al (.cells #[.bool false, .slice xa1 sz1.length xc1, .slice ya1 D.length yc1] 24))).c1
  have l55 := ((B45.out.al (.cells #[.bool false, .slice xa1 sz1.length xc1, .slice ya1 D.length yc1] 24))).c2
  go_wp2_with fail
  obtain ⟨wo56, hwo56⟩ : ∃ wo56, wo56 = (v4.alloc (.cells #[.bool false, .slice xa1 sz1.length xc1, .slice ya1 D.length yc1] 24)) := ⟨_, rfl⟩
  rw [← hwo56]
  have z57 : v4.heap.size + 1 ≤ wo56.heap.size := by rw [hwo56]; simp only [World.size_alloc]; omega
  have B58 : Hid (Abx wo56 (w.heap.size) (.bool false) (.slice (some ⟨bs, os, none⟩) sz1.length sc1) (.slice da1 dz1.length dc1)) := by rw [hwo56]; exact (B45.out.al (.cells #[.bool false, .slice xa1 sz1.length xc1, .slice ya1 D.length yc1] 24))
  have B59 : Hid (Abx wo56 (v4.heap.size) (.bool false) (.slice xa1 sz1.length xc1) (.slice ya1 D.length yc1)) := by rw [hwo56]; exact n49
  have L60 : Hid (MidC (v3.heap.size) (v4.heap.size) wo56 (xa1) (sz1) (xc1)) := by rw [hwo56]; exact (L47.out.al (by omega) (.cells #[.bool false, .slice xa1 sz1.length xc1, .slice ya1 D.length yc1] 24))
  have L61 : Hid (MidC (v3.heap.size) (v4.heap.size) wo56 (ya1) (D) (yc1)) := by rw [hwo56]; exact (L48.out.al (by omega) (.cells #[.bool false, .slice xa1 sz1.length xc1, .slice ya1 D.length yc1] 24))
  have hb62 : Hid (Below w.heap.size w wo56) := by rw [hwo56]; exact (hb46.out.alloc (by omega) (.cells #[.bool false, .slice xa1 sz1.length xc1, .slice ya1 D.length yc1] 24))
  have zwo56 : w.heap.size ≤ wo56.heap.size := hb62.out.size
  clear hwo56 n49 l50 l51 l52 l53 l54 l55 hb46 B45 L47 L48
  refine (ints_any xa1 xc1 sz1 (some ⟨bs, os, none⟩) sc1 sz1 x11 _ _ (L60.out.is (by omega)).1 ((HI1.out.1.1.below hb62.out).mono hb62.out.size)).mono ?_
  rintro e v5 ⟨rfl, hB⟩
  have z63 : wo56.heap.size ≤ v5.heap.size := hB.size
  have B64 : Hid (Abx v5 (w.heap.size) (.bool false) (.slice (some ⟨bs, os, none⟩) sz1.length sc1) (.slice da1 dz1.length dc1)) := B58.out.go hB
  have B65 : Hid (Abx v5 (v4.heap.size) (.bool false) (.slice xa1 sz1.length xc1) (.slice ya1 D.length yc1)) := B59.out.go hB
  have L66 : Hid (MidC (v3.heap.size) (v4.heap.size) v5 (xa1) (sz1) (xc1)) := L60.out.go (by omega) hB
  have L67 : Hid (MidC (v3.heap.size) (v4.heap.size) v5 (ya1) (D) (yc1)) := L61.out.go (by omega) hB
  have hb68 : Hid (Below w.heap.size w v5) := hb62.out.trans (hB.mono hb62.out.size)
  clear hB hb62 B58 B59 L60 L61
  rw [eqB_true rfl]
  obtain ⟨b9, o9, e9, hbs, hcS⟩ := HI1.out.1.1.at hxl
  cases e9
  have HC : Hid (∀ W, Below w.heap.size w W → W.cell? ⟨bs, os + xn, none⟩ = some (.int .i64 (L : Int))) := fun W hB => by have h := hcS xn hxl; rw [HLc.out] at h; exact (hB.cell (p := ⟨bs, os + xn, none⟩) hbs).trans h
  clear hcS hbs
  have l69 := (B64.out).c0
  have l70 := (B64.out).c1
  have l71 := (B64.out).c2
  have l72 := HC.out _ hb68.out
  go_wp2_with fail
  clear l69 l70 l71 l72
  refine (rdw_ok f (xn : Int) false (some ⟨bs, os, none⟩) sc1 sz1 sz1.length rfl da1 dc1 dz1 dz1.length rfl _ hf (by unfold In64; omega) x11 x12 ((HI1.out.1.below hb68.out).mono hb68.out.size) ((HI1.out.2.1.1.below hb68.out).mono hb68.out.size) HI1.out.2.2.2 S R HRd HR2.out).mono ?_
  rintro e v6 ⟨xa2, xc2, ya2, yc2, rfl, hX2, hY2, hB⟩
  have z73 : v5.heap.size ≤ v6.heap.size := hB.size
  have B74 : Hid (Abx v6 (w.heap.size) (.bool false) (.slice (some ⟨bs, os, none⟩) sz1.length sc1) (.slice da1 dz1.length dc1)) := B64.out.go hB
  have B75 : Hid (Abx v6 (v4.heap.size) (.bool false) (.slice xa1 sz1.length xc1) (.slice ya1 D.length yc1)) := B65.out.go hB
  have L76 : Hid (MidC (v3.heap.size) (v4.heap.size) v6 (xa1) (sz1) (xc1)) := L66.out.go (by omega) hB
  have L77 : Hid (MidC (v3.heap.size) (v4.heap.size) v6 (ya1) (D) (yc1)) := L67.out.go (by omega) hB
  have hb78 : Hid (Below w.heap.size w v6) := hb68.out.trans (hB.mono hb68.out.size)
  have L79 : Hid (MidC (v5.heap.size) (v6.heap.size) v6 (xa2) (S) (xc2)) := hX2.midc
  have L80 : Hid (MidC (v5.heap.size) (v6.heap.size) v6 (ya2) (R) (yc2)) := hY2.midc
  clear hB hb68 B64 B65 L66 L67 hX2 hY2
  have n81 := Abx.new v6 (.bool false) (.slice xa2 S.length xc2) (.slice ya2 R.length yc2)
  have l82 := ((B74.out.al (.cells #[.bool false, .slice xa2 S.length xc2, .slice ya2 R.length yc2] 24))).c0
  have l83 := ((B74.out.al (.cells #[.bool false, .slice xa2 S.length xc2, .slice ya2 R.length yc2] 24))).c1
  have l84 := ((B74.out.al (.cells #[.bool false, .slice xa2 S.length xc2, .slice ya2 R.length yc2] 24))).c2
  have n85 := zer_mid (v6.alloc (.cells #[.bool false, .slice xa2 S.length xc2, .slice ya2 R.length yc2] 24)) 3 sz1.length
  obtain ⟨n85b, n85o, n85e, _, _, n85c, n85f⟩ := n85.at (i := xn) (by simpa using hxl)
  cases n85e
  rw [Nat.zero_add] at n85c n85f
  simp only [World.size_alloc] at n85c n85f
  have l86 := ((B74.out.al (.cells #[.bool false, .slice xa2 S.length xc2, .slice ya2 R.length yc2] 24)).al (.cells (madeCells #[.int .i64 0] sz1.length) 3)).c0
  have l87 := ((B74.out.al (.cells #[.bool false, .slice xa2 S.length xc2, .slice ya2 R.length yc2] 24)).al (.cells (madeCells #[.int .i64 0] sz1.length) 3)).c1
  have l88 := ((B74.out.al (.cells #[.bool false, .slice xa2 S.length xc2, .slice ya2 R.length yc2] 24)).al (.cells (madeCells #[.int .i64 0] sz1.length) 3)).c2
  have l89 := HC.out _ ((hb78.out.alloc (by omega) (.cells #[.bool false, .slice xa2 S.length xc2, .slice ya2 R.length yc2] 24)).alloc (by simp only [World.size_alloc]; omega) (.cells (madeCells #[.int .i64 0] sz1.length) 3))
  have n90 := zput_mid (v6.alloc (.cells #[.bool false, .slice xa2 S.length xc2, .slice ya2 R.length yc2] 24)) 3 sz1.length xn hxl ((L : Int) - 1)
  simp only [World.size_alloc] at n90
  have l91 := (((B75.out.al (.cells #[.bool false, .slice xa2 S.length xc2, .slice ya2 R.length yc2] 24)).al (.cells ((madeCells #[.int .i64 0] sz1.length).setIfInBounds xn (.int .i64 ((L : Int) - 1))) 3))).c0
  have l92 := (((B75.out.al (.cells #[.bool false, .slice xa2 S.length xc2, .slice ya2 R.length yc2] 24)).al (.cells ((madeCells #[.int .i64 0] sz1.length).setIfInBounds xn (.int .i64 ((L : Int) - 1))) 3))).c1
  have l93 := (((B75.out.al (.cells #[.bool false, .slice xa2 S.length xc2, .slice ya2 R.length yc2] 24)).al (.cells ((madeCells #[.int .i64 0] sz1.length).setIfInBounds xn (.int .i64 ((L : Int) - 1))) 3))).c2
  go_wp2_with fail
  obtain ⟨wo94, hwo94⟩ : ∃ wo94, wo94 = ((v6.alloc (.cells #[.bool false, .slice xa2 S.length xc2, .slice ya2 R.length yc2] 24)).alloc (.cells ((madeCells #[.int .i64 0] sz1.length).setIfInBounds xn (.int .i64 ((L : Int) - 1))) 3)) := ⟨_, rfl⟩
  rw [← hwo94]
  have z95 : v6.heap.size + 1 + 1 ≤ wo94.heap.size := by rw [hwo94]; simp only [World.size_alloc]; omega
  have B96 : Hid (Abx wo94 (w.heap.size) (.bool false) (.slice (some ⟨bs, os, none⟩) sz1.length sc1) (.slice da1 dz1.length dc1)) := by rw [hwo94]; exact ((B74.out.al (.cells #[.bool false, .slice xa2 S.length xc2, .slice ya2 R.length yc2] 24)).al (.cells ((madeCells #[.int .i64 0] sz1.length).setIfInBounds xn (.int .i64 ((L : Int) - 1))) 3))
  have B97 : Hid (Abx wo94 (v4.heap.size) (.bool false) (.slice xa1 sz1.length xc1) (.slice ya1 D.length yc1)) := by rw [hwo94]; exact ((B75.out.al (.cells #[.bool false, .slice xa2 S.length xc2, .slice ya2 R.length yc2] 24)).al (.cells ((madeCells #[.int .i64 0] sz1.length).setIfInBounds xn (.int .i64 ((L : Int) - 1))) 3))
  have B98 : Hid (Abx wo94 (v6.heap.size) (.bool false) (.slice xa2 S.length xc2) (.slice ya2 R.length yc2)) := by rw [hwo94]; exact (n81.al (.cells ((madeCells #[.int .i64 0] sz1.length).setIfInBounds xn (.int .i64 ((L : Int) - 1))) 3))
  have L99 : Hid (MidC (v3.heap.size) (v4.heap.size) wo94 (xa1) (sz1) (xc1)) := by rw [hwo94]; exact ((L76.out.al (by omega) (.cells #[.bool false, .slice xa2 S.length xc2, .slice ya2 R.length yc2] 24)).al (by simp only [World.size_alloc]; omega) (.cells ((madeCells #[.int .i64 0] sz1.length).setIfInBounds xn (.int .i64 ((L : Int) - 1))) 3))
  have L100 : Hid (MidC (v3.heap.size) (v4.heap.size) wo94 (ya1) (D) (yc1)) := by rw [hwo94]; exact ((L77.out.al (by omega) (.cells #[.bool false, .slice xa2 S.length xc2, .slice ya2 R.length yc2] 24)).al (by simp only [World.size_alloc]; omega) (.cells ((madeCells #[.int .i64 0] sz1.length).setIfInBounds xn (.int .i64 ((L : Int) - 1))) 3))
  have L101 : Hid (MidC (v5.heap.size) (v6.heap.size) wo94 (xa2) (S) (xc2)) := by rw [hwo94]; exact ((L79.out.al (by omega) (.cells #[.bool false, .slice xa2 S.length xc2, .slice ya2 R.length yc2] 24)).al (by simp only [World.size_alloc]; omega) (.cells ((madeCells #[.int .i64 0] sz1.length).setIfInBounds xn (.int .i64 ((L : Int) - 1))) 3))
  have L102 : Hid (MidC (v5.heap.size) (v6.heap.size) wo94 (ya2) (R) (yc2)) := by rw [hwo94]; exact ((L80.out.al (by omega) (.cells #[.bool false, .slice xa2 S.length xc2, .slice ya2 R.length yc2] 24)).al (by simp only [World.size_alloc]; omega) (.cells ((madeCells #[.int .i64 0] sz1.length).setIfInBounds xn (.int .i64 ((L : Int) - 1))) 3))
  have L103 : Hid (MidC (v6.heap.size + 1) (v6.heap.size + 1 + 1) wo94 (some ⟨v6.heap.size + 1, 0, none⟩) ((zer (sz1.length)).set xn ((L : Int) - 1)) (sz1.length)) := by rw [hwo94]; exact n90
  have hb104 : Hid (Below w.heap.size w wo94) := by rw [hwo94]; exact ((hb78.out.alloc (by omega) (.cells #[.bool false, .slice xa2 S.length xc2, .slice ya2 R.length yc2] 24)).alloc (by simp only [World.size_alloc]; omega) (.cells ((madeCells #[.int .i64 0] sz1.length).setIfInBounds xn (.int .i64 ((L : Int) - 1))) 3))
  have zwo94 : w.heap.size ≤ wo94.heap.size := hb104.out.size
  clear hwo94 n81 l82 l83 l84 n85 n85c n85f l86 l87 l88 l89 n90 l91 l92 l93 hb78 B74 B75 L76 L77 L79 L80 hmk
  refine (dr_okl12 (some ⟨v6.heap.size + 1, 0, none⟩) sz1.length ((zer sz1.length).set xn ((L : Int) - 1)) sz1.length zer_len false xa1 xc1 sz1 ya1 yc1 D _ (by rw [zer_len]; omega) (zer_64 hxl (by unfold In64; omega)) (L103.out.is (by omega)) (by omega) (by omega) (L99.out.is (by omega)) (L100.out.is (by omega)) HTD.out S1 R HDr H1.out).mono ?_
  rintro e v7 ⟨xa3, xc3, ya3, yc3, rfl, hX3, hY3, hB⟩
  have z105 : wo94.heap.size ≤ v7.heap.size := hB.size
  have B106 : Hid (Abx v7 (w.heap.size) (.bool false) (.slice (some ⟨bs, os, none⟩) sz1.length sc1) (.slice da1 dz1.length dc1)) := B96.out.go hB
  have B107 : Hid (Abx v7 (v4.heap.size) (.bool false) (.slice xa1 sz1.length xc1) (.slice ya1 D.length yc1)) := B97.out.go hB
  have B108 : Hid (Abx v7 (v6.heap.size) (.bool false) (.slice xa2 S.length xc2) (.slice ya2 R.length yc2)) := B98.out.go hB
  have L109 : Hid (MidC (v3.heap.size) (v4.heap.size) v7 (xa1) (sz1) (xc1)) := L99.out.go (by omega) hB
  have L110 : Hid (MidC (v3.heap.size) (v4.heap.size) v7 (ya1) (D) (yc1)) := L100.out.go (by omega) hB
  have L111 : Hid (MidC (v5.heap.size) (v6.heap.size) v7 (xa2) (S) (xc2)) := L101.out.go (by omega) hB
  have L112 : Hid (MidC (v5.heap.size) (v6.heap.size) v7 (ya2) (R) (yc2)) := L102.out.go (by omega) hB
  have L113 : Hid (MidC (v6.heap.size + 1) (v6.heap.size + 1 + 1) v7 (some ⟨v6.heap.size + 1, 0, none⟩) ((zer (sz1.length)).set xn ((L : Int) - 1)) (sz1.length)) := L103.out.go (by omega) hB
  have hb114 : Hid (Below w.heap.size w v7) := hb104.out.trans (hB.mono hb104.out.size)
  have L115 : Hid (MidC (wo94.heap.size) (v7.heap.size) v7 (xa3) (S1) (xc3)) := hX3.midc
  have L116 : Hid (MidC (wo94.heap.size) (v7.heap.size) v7 (ya3) (R) (yc3)) := hY3.midc
  clear hB hb104 B96 B97 B98 L99 L100 L101 L102 L103 hX3 hY3
  have n117 := Abx.new v7 (.bool false) (.slice xa3 S1.length xc3) (.slice ya3 R.length yc3)
  have l118 := (n117).c0
  have l119 := (n117).c1
  have l120 := (n117).c2
  have l121 := ((B108.out.al (.cells #[.bool false, .slice xa3 S1.length xc3, .slice ya3 R.length yc3] 24))).c0
  have l122 := ((B108.out.al (.cells #[.bool false, .slice xa3 S1.length xc3, .slice ya3 R.length yc3] 24))).c1
  have l123 := ((B108.out.al (.cells #[.bool false, .slice xa3 S1.length xc3, .slice ya3 R.length yc3] 24))).c2
  go_wp2_with fail
  obtain ⟨wo124, hwo124⟩ : ∃ wo124, wo124 = (v7.alloc (.cells #[.bool false, .slice xa3 S1.length xc3, .slice ya3 R.length yc3] 24)) := ⟨_, rfl⟩
  rw [← hwo124]
  have z125 : v7.heap.size + 1 ≤ wo124.heap.size := by rw [hwo124]; simp only [World.size_alloc]; omega
  have B126 : Hid (Abx wo124 (w.heap.size) (.bool false) (.slice (some ⟨bs, os, none⟩) sz1.length sc1) (.slice da1 dz1.length dc1)) := by rw [hwo124]; exact (B106.out.al (.cells #[.bool false, .slice xa3 S1.length xc3, .slice ya3 R.length yc3] 24))
  have B127 : Hid (Abx wo124 (v4.heap.size) (.bool false) (.slice xa1 sz1.length xc1) (.slice ya1 D.length yc1)) := by rw [hwo124]; exact (B107.out.al (.cells #[.bool false, .slice xa3 S1.length xc3, .slice ya3 R.length yc3] 24))
  have B128 : Hid (Abx wo124 (v6.heap.size) (.bool false) (.slice xa2 S.length xc2) (.slice ya2 R.length yc2)) := by rw [hwo124]; exact (B108.out.al (.cells #[.bool false, .slice xa3 S1.length xc3, .slice ya3 R.length yc3] 24))
  have B129 : Hid (Abx wo124 (v7.heap.size) (.bool false) (.slice xa3 S1.length xc3) (.slice ya3 R.length yc3)) := by rw [hwo124]; exact n117
  have L130 : Hid (MidC (v3.heap.size) (v4.heap.size) wo124 (xa1) (sz1) (xc1)) := by rw [hwo124]; exact (L109.out.al (by omega) (.cells #[.bool false, .slice xa3 S1.length xc3, .slice ya3 R.length yc3] 24))
  have L131 : Hid (MidC (v3.heap.size) (v4.heap.size) wo124 (ya1) (D) (yc1)) := by rw [hwo124]; exact (L110.out.al (by omega) (.cells #[.bool false, .slice xa3 S1.length xc3, .slice ya3 R.length yc3] 24))
  have L132 : Hid (MidC (v5.heap.size) (v6.heap.size) wo124 (xa2) (S) (xc2)) := by rw [hwo124]; exact (L111.out.al (by omega) (.cells #[.bool false, .slice xa3 S1.length xc3, .slice ya3 R.length yc3] 24))
  have L133 : Hid (MidC (v5.heap.size) (v6.heap.size) wo124 (ya2) (R) (yc2)) := by rw [hwo124]; exact (L112.out.al (by omega) (.cells #[.bool false, .slice xa3 S1.length xc3, .slice ya3 R.length yc3] 24))
  have L134 : Hid (MidC (v6.heap.size + 1) (v6.heap.size + 1 + 1) wo124 (some ⟨v6.heap.size + 1, 0, none⟩) ((zer (sz1.length)).set xn ((L : Int) - 1)) (sz1.length)) := by rw [hwo124]; exact (L113.out.al (by omega) (.cells #[.bool false, .slice xa3 S1.length xc3, .slice ya3 R.length yc3] 24))
  have L135 : Hid (MidC (wo94.heap.size) (v7.heap.size) wo124 (xa3) (S1) (xc3)) := by rw [hwo124]; exact (L115.out.al (by omega) (.cells #[.bool false, .slice xa3 S1.length xc3, .slice ya3 R.length yc3] 24))
  have L136 : Hid (MidC (wo94.heap.size) (v7.heap.size) wo124 (ya3) (R) (yc3)) := by rw [hwo124]; exact (L116.out.al (by omega) (.cells #[.bool false, .slice xa3 S1.length xc3, .slice ya3 R.length yc3] 24))
  have hb137 : Hid (Below w.heap.size w wo124) := by rw [hwo124]; exact (hb114.out.alloc (by omega) (.cells #[.bool false, .slice xa3 S1.length xc3, .slice ya3 R.length yc3] 24))
  have zwo124 : w.heap.size ≤ wo124.heap.size := hb137.out.size
  clear hwo124 n117 l118 l119 l120 l121 l122 l123 hb114 B106 B107 B108 L109 L110 L111 L112 L113 L115 L116
  refine (list_same12 ya3 yc3 R R.length rfl ya2 yc2 R.length rfl _ (by omega) (L136.out.is (by omega)).1 (L133.out.is (by omega)).1).mono ?_
  rintro e v8 ⟨rfl, hB⟩
  have z138 : wo124.heap.size ≤ v8.heap.size := hB.size
  have B139 : Hid (Abx v8 (w.heap.size) (.bool false) (.slice (some ⟨bs, os, none⟩) sz1.length sc1) (.slice da1 dz1.length dc1)) := B126.out.go hB
  have B140 : Hid (Abx v8 (v4.heap.size) (.bool false) (.slice xa1 sz1.length xc1) (.slice ya1 D.length yc1)) := B127.out.go hB
  have B141 : Hid (Abx v8 (v6.heap.size) (.bool false) (.slice xa2 S.length xc2) (.slice ya2 R.length yc2)) := B128.out.go hB
  have B142 : Hid (Abx v8 (v7.heap.size) (.bool false) (.slice xa3 S1.length xc3) (.slice ya3 R.length yc3)) := B129.out.go hB
  have L143 : Hid (MidC (v3.heap.size) (v4.heap.size) v8 (xa1) (sz1) (xc1)) := L130.out.go (by omega) hB
  have L144 : Hid (MidC (v3.heap.size) (v4.heap.size) v8 (ya1) (D) (yc1)) := L131.out.go (by omega) hB
  have L145 : Hid (MidC (v5.heap.size) (v6.heap.size) v8 (xa2) (S) (xc2)) := L132.out.go (by omega) hB
  have L146 : Hid (MidC (v5.heap.size) (v6.heap.size) v8 (ya2) (R) (yc2)) := L133.out.go (by omega) hB
  have L147 : Hid (MidC (v6.heap.size + 1) (v6.heap.size + 1 + 1) v8 (some ⟨v6.heap.size + 1, 0, none⟩) ((zer (sz1.length)).set xn ((L : Int) - 1)) (sz1.length)) := L134.out.go (by omega) hB
  have L148 : Hid (MidC (wo94.heap.size) (v7.heap.size) v8 (xa3) (S1) (xc3)) := L135.out.go (by omega) hB
  have L149 : Hid (MidC (wo94.heap.size) (v7.heap.size) v8 (ya3) (R) (yc3)) := L136.out.go (by omega) hB
  have hb150 : Hid (Below w.heap.size w v8) := hb137.out.trans (hB.mono hb137.out.size)
  clear hB hb137 B126 B127 B128 B129 L130 L131 L132 L133 L134 L135 L136
  clear L148 L149 B142 L145 L146 B141
  have l151 := (B139.out).c0
  have l152 := (B139.out).c1
  have l153 := (B139.out).c2
  have l154 := HC.out _ hb150.out
  obtain ⟨l155b, l155o, l155e, _, _, l155, l155f⟩ := (L147.out).at (i := xn) hzs
  cases l155e
  rw [Nat.zero_add] at l155 l155f
  have l156 := ((B140.out.ot (a := ⟨v6.heap.size + 1, xn, none⟩) (by show v4.heap.size ≠ v6.heap.size + 1; omega) (.int .i64 (1 - (L : Int))))).c0
  have l157 := ((B140.out.ot (a := ⟨v6.heap.size + 1, xn, none⟩) (by show v4.heap.size ≠ v6.heap.size + 1; omega) (.int .i64 (1 - (L : Int))))).c1
  have l158 := ((B140.out.ot (a := ⟨v6.heap.size + 1, xn, none⟩) (by show v4.heap.size ≠ v6.heap.size + 1; omega) (.int .i64 (1 - (L : Int))))).c2
  go_wp2_with fail
  obtain ⟨wo159, hwo159⟩ : ∃ wo159, wo159 = (v8.setCell ⟨v6.heap.size + 1, xn, none⟩ (.int .i64 (1 - (L : Int)))) := ⟨_, rfl⟩
  rw [← hwo159]
  have z160 : v8.heap.size ≤ wo159.heap.size := by rw [hwo159]; simp only [World.size_setCell]; omega
  have B161 : Hid (Abx wo159 (w.heap.size) (.bool false) (.slice (some ⟨bs, os, none⟩) sz1.length sc1) (.slice da1 dz1.length dc1)) := by rw [hwo159]; exact (B139.out.ot (a := ⟨v6.heap.size + 1, xn, none⟩) (by show w.heap.size ≠ v6.heap.size + 1; omega) (.int .i64 (1 - (L : Int))))
  have B162 : Hid (Abx wo159 (v4.heap.size) (.bool false) (.slice xa1 sz1.length xc1) (.slice ya1 D.length yc1)) := by rw [hwo159]; exact (B140.out.ot (a := ⟨v6.heap.size + 1, xn, none⟩) (by show v4.heap.size ≠ v6.heap.size + 1; omega) (.int .i64 (1 - (L : Int))))
  have L163 : Hid (MidC (v3.heap.size) (v4.heap.size) wo159 (xa1) (sz1) (xc1)) := by rw [hwo159]; exact (L143.out.s1 (p := ⟨v6.heap.size + 1, xn, none⟩) (by show v6.heap.size + 1 < v3.heap.size ∨ v4.heap.size ≤ v6.heap.size + 1; omega) (.int .i64 (1 - (L : Int))))
  have L164 : Hid (MidC (v3.heap.size) (v4.heap.size) wo159 (ya1) (D) (yc1)) := by rw [hwo159]; exact (L144.out.s1 (p := ⟨v6.heap.size + 1, xn, none⟩) (by show v6.heap.size + 1 < v3.heap.size ∨ v4.heap.size ≤ v6.heap.size + 1; omega) (.int .i64 (1 - (L : Int))))
  have L165 : Hid (MidC (v6.heap.size + 1) (v6.heap.size + 1 + 1) wo159 (some ⟨v6.heap.size + 1, 0, none⟩) (((zer sz1.length).set xn ((L : Int) - 1)).set xn (1 - (L : Int))) (sz1.length)) := by rw [hwo159]; exact (put0 L147.out hzs (1 - (L : Int)))
  have hb166 : Hid (Below w.heap.size w wo159) := by rw [hwo159]; exact (hb150.out.setCell (p := ⟨v6.heap.size + 1, xn, none⟩) (by show w.heap.size ≤ v6.heap.size + 1; omega) (.int .i64 (1 - (L : Int))))
  have zwo159 : w.heap.size ≤ wo159.heap.size := hb166.out.size
  clear hwo159 l151 l152 l153 l154 l155 l155f l156 l157 l158 hb150 B139 B140 L143 L144 L147
  refine (dr_okl12 (some ⟨v6.heap.size + 1, 0, none⟩) sz1.length (((zer sz1.length).set xn ((L : Int) - 1)).set xn (1 - (L : Int))) sz1.length (by rw [set_set]; exact zer_len) false xa1 xc1 sz1 ya1 yc1 D _ (by rw [set_set, zer_len]; omega) (by rw [set_set]; exact zer_64 hxl (by unfold In64; omega)) (L165.out.is (by omega)) (by omega) (by omega) (L163.out.is (by omega)) (L164.out.is (by omega)) HTD.out S1 V HDr H2.out).mono ?_
  rintro e v9 ⟨xa4, xc4, ya4, yc4, rfl, hX4, hY4, hB⟩
  have z167 : wo159.heap.size ≤ v9.heap.size := hB.size
  have B168 : Hid (Abx v9 (w.heap.size) (.bool false) (.slice (some ⟨bs, os, none⟩) sz1.length sc1) (.slice da1 dz1.length dc1)) := B161.out.go hB
  have B169 : Hid (Abx v9 (v4.heap.size) (.bool false) (.slice xa1 sz1.length xc1) (.slice ya1 D.length yc1)) := B162.out.go hB
  have L170 : Hid (MidC (v3.heap.size) (v4.heap.size) v9 (xa1) (sz1) (xc1)) := L163.out.go (by omega) hB
  have L171 : Hid (MidC (v3.heap.size) (v4.heap.size) v9 (ya1) (D) (yc1)) := L164.out.go (by omega) hB
  have L172 : Hid (MidC (v6.heap.size + 1) (v6.heap.size + 1 + 1) v9 (some ⟨v6.heap.size + 1, 0, none⟩) (((zer sz1.length).set xn ((L : Int) - 1)).set xn (1 - (L : Int))) (sz1.length)) := L165.out.go (by omega) hB
  have hb173 : Hid (Below w.heap.size w v9) := hb166.out.trans (hB.mono hb166.out.size)
  have L174 : Hid (MidC (wo159.heap.size) (v9.heap.size) v9 (xa4) (S1) (xc4)) := hX4.midc
  have L175 : Hid (MidC (wo159.heap.size) (v9.heap.size) v9 (ya4) (V) (yc4)) := hY4.midc
  clear hB hb166 B161 B162 L163 L164 L165 hX4 hY4
  clear L170 L171 B169
  have n176 := Abx.new v9 (.bool false) (.slice xa4 S1.length xc4) (.slice ya4 V.length yc4)
  have l177 := ((B168.out.al (.cells #[.bool false, .slice xa4 S1.length xc4, .slice ya4 V.length yc4] 24))).c0
  have l178 := ((B168.out.al (.cells #[.bool false, .slice xa4 S1.length xc4, .slice ya4 V.length yc4] 24))).c1
  have l179 := ((B168.out.al (.cells #[.bool false, .slice xa4 S1.length xc4, .slice ya4 V.length yc4] 24))).c2
  go_wp2_with fail
  obtain ⟨wo180, hwo180⟩ : ∃ wo180, wo180 = (v9.alloc (.cells #[.bool false, .slice xa4 S1.length xc4, .slice ya4 V.length yc4] 24)) := ⟨_, rfl⟩
  rw [← hwo180]
  have z181 : v9.heap.size + 1 ≤ wo180.heap.size := by rw [hwo180]; simp only [World.size_alloc]; omega
  have B182 : Hid (Abx wo180 (w.heap.size) (.bool false) (.slice (some ⟨bs, os, none⟩) sz1.length sc1) (.slice da1 dz1.length dc1)) := by rw [hwo180]; exact (B168.out.al (.cells #[.bool false, .slice xa4 S1.length xc4, .slice ya4 V.length yc4] 24))
  have B183 : Hid (Abx wo180 (v9.heap.size) (.bool false) (.slice xa4 S1.length xc4) (.slice ya4 V.length yc4)) := by rw [hwo180]; exact n176
  have L184 : Hid (MidC (v6.heap.size + 1) (v6.heap.size + 1 + 1) wo180 (some ⟨v6.heap.size + 1, 0, none⟩) (((zer sz1.length).set xn ((L : Int) - 1)).set xn (1 - (L : Int))) (sz1.length)) := by rw [hwo180]; exact (L172.out.al (by omega) (.cells #[.bool false, .slice xa4 S1.length xc4, .slice ya4 V.length yc4] 24))
  have L185 : Hid (MidC (wo159.heap.size) (v9.heap.size) wo180 (xa4) (S1) (xc4)) := by rw [hwo180]; exact (L174.out.al (by omega) (.cells #[.bool false, .slice xa4 S1.length xc4, .slice ya4 V.length yc4] 24))
  have L186 : Hid (MidC (wo159.heap.size) (v9.heap.size) wo180 (ya4) (V) (yc4)) := by rw [hwo180]; exact (L175.out.al (by omega) (.cells #[.bool false, .slice xa4 S1.length xc4, .slice ya4 V.length yc4] 24))
  have hb187 : Hid (Below w.heap.size w wo180) := by rw [hwo180]; exact (hb173.out.alloc (by omega) (.cells #[.bool false, .slice xa4 S1.length xc4, .slice ya4 V.length yc4] 24))
  have zwo180 : w.heap.size ≤ wo180.heap.size := hb187.out.size
  clear hwo180 n176 l177 l178 l179 hb173 B168 L172 L174 L175
  refine (dr_okl12 (some ⟨v6.heap.size + 1, 0, none⟩) sz1.length (((zer sz1.length).set xn ((L : Int) - 1)).set xn (1 - (L : Int))) sz1.length (by rw [set_set]; exact zer_len) false (some ⟨bs, os, none⟩) sc1 sz1 da1 dc1 dz1 _ (by rw [set_set, zer_len]; omega) (by rw [set_set]; exact zer_64 hxl (by unfold In64; omega)) (L184.out.is (by omega)) x11 x12 ((HI1.out.1.below hb187.out).mono hb187.out.size) ((HI1.out.2.1.below hb187.out).mono hb187.out.size) HI1.out.2.2.2 S1 V HDr H3.out).mono ?_
  rintro e v10 ⟨xa5, xc5, ya5, yc5, rfl, hX5, hY5, hB⟩
  have z188 : wo180.heap.size ≤ v10.heap.size := hB.size
  have B189 : Hid (Abx v10 (w.heap.size) (.bool false) (.slice (some ⟨bs, os, none⟩) sz1.length sc1) (.slice da1 dz1.length dc1)) := B182.out.go hB
  have B190 : Hid (Abx v10 (v9.heap.size) (.bool false) (.slice xa4 S1.length xc4) (.slice ya4 V.length yc4)) := B183.out.go hB
  have L191 : Hid (MidC (v6.heap.size + 1) (v6.heap.size + 1 + 1) v10 (some ⟨v6.heap.size + 1, 0, none⟩) (((zer sz1.length).set xn ((L : Int) - 1)).set xn (1 - (L : Int))) (sz1.length)) := L184.out.go (by omega) hB
  have L192 : Hid (MidC (wo159.heap.size) (v9.heap.size) v10 (xa4) (S1) (xc4)) := L185.out.go (by omega) hB
  have L193 : Hid (MidC (wo159.heap.size) (v9.heap.size) v10 (ya4) (V) (yc4)) := L186.out.go (by omega) hB
  have hb194 : Hid (Below w.heap.size w v10) := hb187.out.trans (hB.mono hb187.out.size)
  have L195 : Hid (MidC (wo180.heap.size) (v10.heap.size) v10 (xa5) (S1) (xc5)) := hX5.midc
  have L196 : Hid (MidC (wo180.heap.size) (v10.heap.size) v10 (ya5) (V) (yc5)) := hY5.midc
  clear hB hb187 B182 B183 L184 L185 L186 hX5 hY5
  clear L191
  have n197 := Abx.new v10 (.bool false) (.slice xa5 S1.length xc5) (.slice ya5 V.length yc5)
  have l198 := ((B190.out.al (.cells #[.bool false, .slice xa5 S1.length xc5, .slice ya5 V.length yc5] 24))).c0
  have l199 := ((B190.out.al (.cells #[.bool false, .slice xa5 S1.length xc5, .slice ya5 V.length yc5] 24))).c1
  have l200 := ((B190.out.al (.cells #[.bool false, .slice xa5 S1.length xc5, .slice ya5 V.length yc5] 24))).c2
  have l201 := (n197).c0
  have l202 := (n197).c1
  have l203 := (n197).c2
  go_wp2_with fail
  obtain ⟨wo204, hwo204⟩ : ∃ wo204, wo204 = (v10.alloc (.cells #[.bool false, .slice xa5 S1.length xc5, .slice ya5 V.length yc5] 24)) := ⟨_, rfl⟩
  rw [← hwo204]
  have z205 : v10.heap.size + 1 ≤ wo204.heap.size := by rw [hwo204]; simp only [World.size_alloc]; omega
  have B206 : Hid (Abx wo204 (w.heap.size) (.bool false) (.slice (some ⟨bs, os, none⟩) sz1.length sc1) (.slice da1 dz1.length dc1)) := by rw [hwo204]; exact (B189.out.al (.cells #[.bool false, .slice xa5 S1.length xc5, .slice ya5 V.length yc5] 24))
  have B207 : Hid (Abx wo204 (v9.heap.size) (.bool false) (.slice xa4 S1.length xc4) (.slice ya4 V.length yc4)) := by rw [hwo204]; exact (B190.out.al (.cells #[.bool false, .slice xa5 S1.length xc5, .slice ya5 V.length yc5] 24))
  have B208 : Hid (Abx wo204 (v10.heap.size) (.bool false) (.slice xa5 S1.length xc5) (.slice ya5 V.length yc5)) := by rw [hwo204]; exact n197
  have L209 : Hid (MidC (wo159.heap.size) (v9.heap.size) wo204 (xa4) (S1) (xc4)) := by rw [hwo204]; exact (L192.out.al (by omega) (.cells #[.bool false, .slice xa5 S1.length xc5, .slice ya5 V.length yc5] 24))
  have L210 : Hid (MidC (wo159.heap.size) (v9.heap.size) wo204 (ya4) (V) (yc4)) := by rw [hwo204]; exact (L193.out.al (by omega) (.cells #[.bool false, .slice xa5 S1.length xc5, .slice ya5 V.length yc5] 24))
  have L211 : Hid (MidC (wo180.heap.size) (v10.heap.size) wo204 (xa5) (S1) (xc5)) := by rw [hwo204]; exact (L195.out.al (by omega) (.cells #[.bool false, .slice xa5 S1.length xc5, .slice ya5 V.length yc5] 24))
  have L212 : Hid (MidC (wo180.heap.size) (v10.heap.size) wo204 (ya5) (V) (yc5)) := by rw [hwo204]; exact (L196.out.al (by omega) (.cells #[.bool false, .slice xa5 S1.length xc5, .slice ya5 V.length yc5] 24))
  have hb213 : Hid (Below w.heap.size w wo204) := by rw [hwo204]; exact (hb194.out.alloc (by omega) (.cells #[.bool false, .slice xa5 S1.length xc5, .slice ya5 V.length yc5] 24))
  have zwo204 : w.heap.size ≤ wo204.heap.size := hb213.out.size
  clear hwo204 n197 l198 l199 l200 l201 l202 l203 hb194 B189 B190 L192 L193 L195 L196
  refine (alike_eq false xa4 xc4 S1 ya4 yc4 V xa5 xc5 S1 ya5 yc5 V rfl rfl (by omega) (by omega) _ (L209.out.is (by omega)) (L210.out.is (by omega)).1 (L211.out.is (by omega)) (L212.out.is (by omega)).1).mono ?_
  rintro e v11 ⟨rfl, hB⟩
  have z214 : wo204.heap.size ≤ v11.heap.size := hB.size
  have B215 : Hid (Abx v11 (w.heap.size) (.bool false) (.slice (some ⟨bs, os, none⟩) sz1.length sc1) (.slice da1 dz1.length dc1)) := B206.out.go hB
  have B216 : Hid (Abx v11 (v9.heap.size) (.bool false) (.slice xa4 S1.length xc4) (.slice ya4 V.length yc4)) := B207.out.go hB
  have B217 : Hid (Abx v11 (v10.heap.size) (.bool false) (.slice xa5 S1.length xc5) (.slice ya5 V.length yc5)) := B208.out.go hB
  have L218 : Hid (MidC (wo159.heap.size) (v9.heap.size) v11 (xa4) (S1) (xc4)) := L209.out.go (by omega) hB
  have L219 : Hid (MidC (wo159.heap.size) (v9.heap.size) v11 (ya4) (V) (yc4)) := L210.out.go (by omega) hB
  have L220 : Hid (MidC (wo180.heap.size) (v10.heap.size) v11 (xa5) (S1) (xc5)) := L211.out.go (by omega) hB
  have L221 : Hid (MidC (wo180.heap.size) (v10.heap.size) v11 (ya5) (V) (yc5)) := L212.out.go (by omega) hB
  have hb222 : Hid (Below w.heap.size w v11) := hb213.out.trans (hB.mono hb213.out.size)
  clear hB hb213 B206 B207 B208 L209 L210 L211 L212
  go_wp2_with fail
  go_ret
  exact ⟨rfl, hb222.out⟩
theorem flast_walk (HSc : CSc) (HRd : CRd) (HDr : CDr) (f x : Int) (hf : In64 f) (hx : In64 x) (c1 : Bool) (sa1 : Option Addr) (sc1 : Nat) (sz1 : List Int) (da1 : Option Addr) (dc1 : Nat) (dz1 : List Int) (w : World) (w8 : IsArrD w sa1 sz1 sc1 da1 dz1 dc1) :
    Calls Try.prog 5 #[.int .i64 f, .int .i64 x, .agg #[.bool c1, .slice sa1 sz1.length sc1, .slice da1 dz1.length dc1]] w fun e w' => e = .returned (.bool true) ∧ Below w.heap.size w w' := by
  by_cases h1 : scE f x c1 sz1 dz1 = 0
  · obtain ⟨_, _, ⟨h2, h3⟩, h4⟩ := lnE_zero.1 (scE_zero.1 h1).1
    subst h4
    obtain ⟨xn, rfl⟩ : ∃ xn : Nat, x = (xn : Int) := ⟨x.toNat, by omega⟩
    rw [Int.toNat_natCast] at h3
    obtain ⟨bs, os, rfl, _, _⟩ := w8.2.2.1.1.at h3
    by_cases h5 : (nth sz1 xn).toNat = 0
    · exact last_none HSc HRd HDr f xn hf bs os sc1 sz1 da1 dc1 dz1 w w8 h3 h1 h5
    · exact last_ok HSc HRd HDr f xn hf bs os sc1 sz1 da1 dc1 dz1 w w8 h3 h1 (show 1 ≤ (nth sz1 xn).toNat by omega)
  · exact last_no HSc HRd HDr f x hf hx c1 sa1 sc1 sz1 da1 dc1 dz1 w w8 h1
end Go.Proofs.Ytmbgomljofngnab
