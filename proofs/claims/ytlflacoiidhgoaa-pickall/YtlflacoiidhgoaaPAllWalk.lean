/-
  The walk of the statement PickAll, given what the program tells.
-/
import Derived.Test.YtlflacoiidhgoaaPalm
import Derived.Test.YtlflacoiidhgoaaSarr
import Derived.Test.YtlflacoiidhgoaaVec
import Derived.Deep.QuietTactic
import Derived.BigQuiet
import Derived.WalkSmall
import Derived.Deep.RegionWith
namespace Go.Proofs.Ytlflacoiidhgoaa
open Go.RowKit
set_option linter.unusedVariables false

set_option maxRecDepth 100000 in
set_option maxHeartbeats 8000000 in
theorem all_no (HA : CAt) (HR : CRvB) (c1 : Bool) (sa1 : Option Addr) (sc1 : Nat) (sz1 : List Int) (da1 : Option Addr) (dc1 : Nat) (dz1 : List Int) (w : World) (w8 : IsArrD w sa1 sz1 sc1 da1 dz1 dc1) (F1 : Hid (flawE c1 sz1 dz1 ≠ 0)) :
    Calls Try.prog 6 #[.agg #[.bool c1, .slice sa1 sz1.length sc1, .slice da1 dz1.length dc1]] w fun e w' => e = .returned (.bool true) ∧ Below w.heap.size w w' := by
  obtain ⟨x11, x12, x3, x4, s64, T⟩ := w8
  have HI1 : Hid (IsC w.heap.size w sa1 sz1 sc1 ∧ IsC w.heap.size w da1 dz1 dc1 ∧ (∀ j, In64 (nth sz1 j)) ∧ ∀ j, In64 (nth dz1 j)) := ⟨x3, x4, s64, T⟩
  clear x3 x4 T s64
  have n1 := Abx.new w (.bool c1) (.slice sa1 sz1.length sc1) (.slice da1 dz1.length dc1)
  have n2 := lit_mid (w.alloc (.cells #[.bool c1, .slice sa1 sz1.length sc1, .slice da1 dz1.length dc1] 24)) 3 [7] 1 rfl
  simp only [World.size_alloc, List.map_cons, List.map_nil] at n2
  go_enter Try.func6, Try.ntmps6
  go_wp2_with fail
  obtain ⟨wo3, hwo3⟩ : ∃ wo3, wo3 = ((w.alloc (.cells #[.bool c1, .slice sa1 sz1.length sc1, .slice da1 dz1.length dc1] 24)).alloc (.cells #[.int .i64 7] 3)) := ⟨_, rfl⟩
  rw [← hwo3]
  have z4 : w.heap.size + 1 + 1 ≤ wo3.heap.size := by rw [hwo3]; simp only [World.size_alloc]; omega
  have B5 : Hid (Abx wo3 (w.heap.size) (.bool c1) (.slice sa1 sz1.length sc1) (.slice da1 dz1.length dc1)) := by rw [hwo3]; exact (n1.al (.cells #[.int .i64 7] 3))
  have L6 : Hid (MidC (w.heap.size + 1) (w.heap.size + 1 + 1) wo3 (some ⟨w.heap.size + 1, 0, none⟩) ([7]) (1)) := by rw [hwo3]; exact n2
  have hb7 : Hid (Below w.heap.size w wo3) := by rw [hwo3]; exact (((Below.refl w.heap.size w).alloc (by omega) (.cells #[.bool c1, .slice sa1 sz1.length sc1, .slice da1 dz1.length dc1] 24)).alloc (by simp only [World.size_alloc]; omega) (.cells #[.int .i64 7] 3))
  have zwo3 : w.heap.size ≤ wo3.heap.size := hb7.out.size
  clear hwo3 n1 n2
  refine (vec_c (some ⟨w.heap.size + 1, 0, none⟩) 1 [7] (by simp) _ (L6.out.is (by omega)).1).mono ?_
  rintro e v1 ⟨vap, vcp, gap, gcp, rfl, hVp, hGp, hB⟩
  have z8 : wo3.heap.size ≤ v1.heap.size := hB.size
  have B9 : Hid (Abx v1 (w.heap.size) (.bool c1) (.slice sa1 sz1.length sc1) (.slice da1 dz1.length dc1)) := B5.out.go hB
  have L10 : Hid (MidC (w.heap.size + 1) (w.heap.size + 1 + 1) v1 (some ⟨w.heap.size + 1, 0, none⟩) ([7]) (1)) := L6.out.go (by omega) hB
  have hb11 : Hid (Below w.heap.size w v1) := hb7.out.trans (hB.mono hb7.out.size)
  have L12 : Hid (MidC (wo3.heap.size) (v1.heap.size) v1 (vap) ([(1 : Int)]) (vcp)) := hVp.midc
  have L13 : Hid (MidC (wo3.heap.size) (v1.heap.size) v1 (gap) ([7]) (gcp)) := hGp.midc
  clear hB hb7 B5 L6 hVp hGp
  clear L10
  have n14 := lit_mid v1 3 [0] 1 rfl
  simp only [List.map_cons, List.map_nil] at n14
  go_wp2_with fail
  obtain ⟨wo15, hwo15⟩ : ∃ wo15, wo15 = (v1.alloc (.cells #[.int .i64 0] 3)) := ⟨_, rfl⟩
  rw [← hwo15]
  have z16 : v1.heap.size + 1 ≤ wo15.heap.size := by rw [hwo15]; simp only [World.size_alloc]; omega
  have B17 : Hid (Abx wo15 (w.heap.size) (.bool c1) (.slice sa1 sz1.length sc1) (.slice da1 dz1.length dc1)) := by rw [hwo15]; exact (B9.out.al (.cells #[.int .i64 0] 3))
  have L18 : Hid (MidC (wo3.heap.size) (v1.heap.size) wo15 (vap) ([(1 : Int)]) (vcp)) := by rw [hwo15]; exact (L12.out.al (by omega) (.cells #[.int .i64 0] 3))
  have L19 : Hid (MidC (wo3.heap.size) (v1.heap.size) wo15 (gap) ([7]) (gcp)) := by rw [hwo15]; exact (L13.out.al (by omega) (.cells #[.int .i64 0] 3))
  have L20 : Hid (MidC (v1.heap.size) (v1.heap.size + 1) wo15 (some ⟨v1.heap.size, 0, none⟩) ([0]) (1)) := by rw [hwo15]; exact n14
  have hb21 : Hid (Below w.heap.size w wo15) := by rw [hwo15]; exact (hb11.out.alloc (by omega) (.cells #[.int .i64 0] 3))
  have zwo15 : w.heap.size ≤ wo15.heap.size := hb21.out.size
  clear hwo15 n14 hb11 B9 L12 L13
  refine (vec_c (some ⟨v1.heap.size, 0, none⟩) 1 [0] (by simp) _ (L20.out.is (by omega)).1).mono ?_
  rintro e v2 ⟨vaq, vcq, gaq, gcq, rfl, hVq, hGq, hB⟩
  have z22 : wo15.heap.size ≤ v2.heap.size := hB.size
  have B23 : Hid (Abx v2 (w.heap.size) (.bool c1) (.slice sa1 sz1.length sc1) (.slice da1 dz1.length dc1)) := B17.out.go hB
  have L24 : Hid (MidC (wo3.heap.size) (v1.heap.size) v2 (vap) ([(1 : Int)]) (vcp)) := L18.out.go (by omega) hB
  have L25 : Hid (MidC (wo3.heap.size) (v1.heap.size) v2 (gap) ([7]) (gcp)) := L19.out.go (by omega) hB
  have L26 : Hid (MidC (v1.heap.size) (v1.heap.size + 1) v2 (some ⟨v1.heap.size, 0, none⟩) ([0]) (1)) := L20.out.go (by omega) hB
  have hb27 : Hid (Below w.heap.size w v2) := hb21.out.trans (hB.mono hb21.out.size)
  have L28 : Hid (MidC (wo15.heap.size) (v2.heap.size) v2 (vaq) ([(1 : Int)]) (vcq)) := hVq.midc
  have L29 : Hid (MidC (wo15.heap.size) (v2.heap.size) v2 (gaq) ([0]) (gcq)) := hGq.midc
  clear hB hb21 B17 L18 L19 L20 hVq hGq
  clear L26
  have n30 := Abx.new v2 (.bool false) (.slice vaq 1 vcq) (.slice gaq 1 gcq)
  go_wp2_with fail
  obtain ⟨wo31, hwo31⟩ : ∃ wo31, wo31 = (v2.alloc (.cells #[.bool false, .slice vaq 1 vcq, .slice gaq 1 gcq] 24)) := ⟨_, rfl⟩
  rw [← hwo31]
  have z32 : v2.heap.size + 1 ≤ wo31.heap.size := by rw [hwo31]; simp only [World.size_alloc]; omega
  have B33 : Hid (Abx wo31 (w.heap.size) (.bool c1) (.slice sa1 sz1.length sc1) (.slice da1 dz1.length dc1)) := by rw [hwo31]; exact (B23.out.al (.cells #[.bool false, .slice vaq 1 vcq, .slice gaq 1 gcq] 24))
  have B34 : Hid (Abx wo31 (v2.heap.size) (.bool false) (.slice vaq 1 vcq) (.slice gaq 1 gcq)) := by rw [hwo31]; exact n30
  have L35 : Hid (MidC (wo3.heap.size) (v1.heap.size) wo31 (vap) ([(1 : Int)]) (vcp)) := by rw [hwo31]; exact (L24.out.al (by omega) (.cells #[.bool false, .slice vaq 1 vcq, .slice gaq 1 gcq] 24))
  have L36 : Hid (MidC (wo3.heap.size) (v1.heap.size) wo31 (gap) ([7]) (gcp)) := by rw [hwo31]; exact (L25.out.al (by omega) (.cells #[.bool false, .slice vaq 1 vcq, .slice gaq 1 gcq] 24))
  have L37 : Hid (MidC (wo15.heap.size) (v2.heap.size) wo31 (vaq) ([(1 : Int)]) (vcq)) := by rw [hwo31]; exact (L28.out.al (by omega) (.cells #[.bool false, .slice vaq 1 vcq, .slice gaq 1 gcq] 24))
  have L38 : Hid (MidC (wo15.heap.size) (v2.heap.size) wo31 (gaq) ([0]) (gcq)) := by rw [hwo31]; exact (L29.out.al (by omega) (.cells #[.bool false, .slice vaq 1 vcq, .slice gaq 1 gcq] 24))
  have hb39 : Hid (Below w.heap.size w wo31) := by rw [hwo31]; exact (hb27.out.alloc (by omega) (.cells #[.bool false, .slice vaq 1 vcq, .slice gaq 1 gcq] 24))
  have zwo31 : w.heap.size ≤ wo31.heap.size := hb39.out.size
  clear hwo31 n30 hb27 B23 L24 L25 L28 L29
  refine (at_ok false vap vcp [(1 : Int)] gap gcp [7] (some ⟨v2.heap.size, 0, none⟩) 1 [(false, (((vaq, vcq), [(1 : Int)]), ((gaq, gcq), [0])))] 1 rfl _ (by simp) (by simp) (by decide) (L35.out.is (by omega)).1 (L36.out.is (by omega)).1 (as_one (c := false) (sa := vaq) (sc := vcq) (sz := [(1 : Int)]) (da := gaq) (dc := gcq) (dz := [0]) B34.out (by simp) (by simp) (L37.out.is (by omega)) (L38.out.is (by omega)) (lit_all (by decide)) (lit_all (by decide))) [1] [7] HA (by show pkE false [(1 : Int)] [7] [(false, ([(1 : Int)], [0]))] = 0 ∧ pkS [(false, ([(1 : Int)], [0]))] = [1] ∧ pkD [(1 : Int)] [7] [(false, ([(1 : Int)], [0]))] = [7]; decide)).mono ?_
  rintro e v3 ⟨f1, g1, f2, g2, rfl, hX0, hY0, hB⟩
  have z40 : wo31.heap.size ≤ v3.heap.size := hB.size
  have B41 : Hid (Abx v3 (w.heap.size) (.bool c1) (.slice sa1 sz1.length sc1) (.slice da1 dz1.length dc1)) := B33.out.go hB
  have B42 : Hid (Abx v3 (v2.heap.size) (.bool false) (.slice vaq 1 vcq) (.slice gaq 1 gcq)) := B34.out.go hB
  have L43 : Hid (MidC (wo3.heap.size) (v1.heap.size) v3 (vap) ([(1 : Int)]) (vcp)) := L35.out.go (by omega) hB
  have L44 : Hid (MidC (wo3.heap.size) (v1.heap.size) v3 (gap) ([7]) (gcp)) := L36.out.go (by omega) hB
  have L45 : Hid (MidC (wo15.heap.size) (v2.heap.size) v3 (vaq) ([(1 : Int)]) (vcq)) := L37.out.go (by omega) hB
  have L46 : Hid (MidC (wo15.heap.size) (v2.heap.size) v3 (gaq) ([0]) (gcq)) := L38.out.go (by omega) hB
  have hb47 : Hid (Below w.heap.size w v3) := hb39.out.trans (hB.mono hb39.out.size)
  have L48 : Hid (MidC (wo31.heap.size) (v3.heap.size) v3 (f1) ([1]) (g1)) := hX0.midc
  have L49 : Hid (MidC (wo31.heap.size) (v3.heap.size) v3 (f2) ([7]) (g2)) := hY0.midc
  clear hB hb39 B33 B34 L35 L36 L37 L38 hX0 hY0
  clear L43 L44 L45 L46 B42
  have n50 := Abx.new v3 (.bool false) (.slice f1 1 g1) (.slice f2 1 g2)
  have l51 := (n50).c0
  have l52 := (n50).c1
  have l53 := (n50).c2
  have n54 := lit_mid (v3.alloc (.cells #[.bool false, .slice f1 1 g1, .slice f2 1 g2] 24)) 3 [7] 1 rfl
  simp only [World.size_alloc, List.map_cons, List.map_nil] at n54
  go_wp2_with fail
  obtain ⟨wo55, hwo55⟩ : ∃ wo55, wo55 = ((v3.alloc (.cells #[.bool false, .slice f1 1 g1, .slice f2 1 g2] 24)).alloc (.cells #[.int .i64 7] 3)) := ⟨_, rfl⟩
  rw [← hwo55]
  have z56 : v3.heap.size + 1 + 1 ≤ wo55.heap.size := by rw [hwo55]; simp only [World.size_alloc]; omega
  have B57 : Hid (Abx wo55 (w.heap.size) (.bool c1) (.slice sa1 sz1.length sc1) (.slice da1 dz1.length dc1)) := by rw [hwo55]; exact ((B41.out.al (.cells #[.bool false, .slice f1 1 g1, .slice f2 1 g2] 24)).al (.cells #[.int .i64 7] 3))
  have B58 : Hid (Abx wo55 (v3.heap.size) (.bool false) (.slice f1 1 g1) (.slice f2 1 g2)) := by rw [hwo55]; exact (n50.al (.cells #[.int .i64 7] 3))
  have L59 : Hid (MidC (wo31.heap.size) (v3.heap.size) wo55 (f1) ([1]) (g1)) := by rw [hwo55]; exact ((L48.out.al (by omega) (.cells #[.bool false, .slice f1 1 g1, .slice f2 1 g2] 24)).al (by simp only [World.size_alloc]; omega) (.cells #[.int .i64 7] 3))
  have L60 : Hid (MidC (wo31.heap.size) (v3.heap.size) wo55 (f2) ([7]) (g2)) := by rw [hwo55]; exact ((L49.out.al (by omega) (.cells #[.bool false, .slice f1 1 g1, .slice f2 1 g2] 24)).al (by simp only [World.size_alloc]; omega) (.cells #[.int .i64 7] 3))
  have L61 : Hid (MidC (v3.heap.size + 1) (v3.heap.size + 1 + 1) wo55 (some ⟨v3.heap.size + 1, 0, none⟩) ([7]) (1)) := by rw [hwo55]; exact n54
  have hb62 : Hid (Below w.heap.size w wo55) := by rw [hwo55]; exact ((hb47.out.alloc (by omega) (.cells #[.bool false, .slice f1 1 g1, .slice f2 1 g2] 24)).alloc (by simp only [World.size_alloc]; omega) (.cells #[.int .i64 7] 3))
  have zwo55 : w.heap.size ≤ wo55.heap.size := hb62.out.size
  clear hwo55 n50 l51 l52 l53 n54 hb47 B41 L48 L49
  refine (ints_any f2 g2 [7] (some ⟨v3.heap.size + 1, 0, none⟩) 1 [7] (by simp) _ _ (L60.out.is (by omega)).1 (L61.out.is (by omega)).1).mono ?_
  rintro e v4 ⟨rfl, hB⟩
  have z63 : wo55.heap.size ≤ v4.heap.size := hB.size
  have B64 : Hid (Abx v4 (w.heap.size) (.bool c1) (.slice sa1 sz1.length sc1) (.slice da1 dz1.length dc1)) := B57.out.go hB
  have B65 : Hid (Abx v4 (v3.heap.size) (.bool false) (.slice f1 1 g1) (.slice f2 1 g2)) := B58.out.go hB
  have L66 : Hid (MidC (wo31.heap.size) (v3.heap.size) v4 (f1) ([1]) (g1)) := L59.out.go (by omega) hB
  have L67 : Hid (MidC (wo31.heap.size) (v3.heap.size) v4 (f2) ([7]) (g2)) := L60.out.go (by omega) hB
  have L68 : Hid (MidC (v3.heap.size + 1) (v3.heap.size + 1 + 1) v4 (some ⟨v3.heap.size + 1, 0, none⟩) ([7]) (1)) := L61.out.go (by omega) hB
  have hb69 : Hid (Below w.heap.size w v4) := hb62.out.trans (hB.mono hb62.out.size)
  clear hB hb62 B57 B58 L59 L60 L61
  rw [eqB_true rfl]
  clear L66 L67 L68 B65
  have l70 := (B64.out).c0
  have l71 := (B64.out).c1
  have l72 := (B64.out).c2
  go_wp2_with fail
  clear l70 l71 l72
  refine (check_no c1 sa1 sc1 sz1 da1 dc1 dz1 x11 x12 _ ((HI1.out.1.1.below hb69.out).mono hb69.out.size) ((HI1.out.2.1.1.below hb69.out).mono hb69.out.size) F1.out).mono ?_
  rintro e v5 ⟨rfl, hB⟩
  have z73 : v4.heap.size ≤ v5.heap.size := hB.size
  have B74 : Hid (Abx v5 (w.heap.size) (.bool c1) (.slice sa1 sz1.length sc1) (.slice da1 dz1.length dc1)) := B64.out.go hB
  have hb75 : Hid (Below w.heap.size w v5) := hb69.out.trans (hB.mono hb69.out.size)
  clear hB hb69 B64
  go_wp2_with fail
  go_ret
  exact ⟨rfl, hb75.out⟩
set_option maxRecDepth 100000 in
set_option maxHeartbeats 8000000 in
theorem all_ok (HA : CAt) (HR : CRvB) (c1 : Bool) (sa1 : Option Addr) (sc1 : Nat) (sz1 : List Int) (da1 : Option Addr) (dc1 : Nat) (dz1 : List Int) (w : World) (w8 : IsArrD w sa1 sz1 sc1 da1 dz1 dc1) (F1 : Hid (flawE c1 sz1 dz1 = 0)) :
    Calls Try.prog 6 #[.agg #[.bool c1, .slice sa1 sz1.length sc1, .slice da1 dz1.length dc1]] w fun e w' => e = .returned (.bool true) ∧ Below w.heap.size w w' := by
  have hs6 : sz1.length ≤ 6 := (flawE_short F1.out).1
  have hd4 : dz1.length ≤ 4096 := (flawE_short F1.out).2
  have HAI : Hid (AllIn sz1) := (errOf_zero.1 (flawE_zero F1.out).1).2.1
  obtain ⟨x11, x12, x3, x4, s64, T⟩ := w8
  have HI1 : Hid (IsC w.heap.size w sa1 sz1 sc1 ∧ IsC w.heap.size w da1 dz1 dc1 ∧ (∀ j, In64 (nth sz1 j)) ∧ ∀ j, In64 (nth dz1 j)) := ⟨x3, x4, s64, T⟩
  clear x3 x4 T s64
  have n1 := Abx.new w (.bool c1) (.slice sa1 sz1.length sc1) (.slice da1 dz1.length dc1)
  have n2 := lit_mid (w.alloc (.cells #[.bool c1, .slice sa1 sz1.length sc1, .slice da1 dz1.length dc1] 24)) 3 [7] 1 rfl
  simp only [World.size_alloc, List.map_cons, List.map_nil] at n2
  go_enter Try.func6, Try.ntmps6
  go_wp2_with fail
  obtain ⟨wo3, hwo3⟩ : ∃ wo3, wo3 = ((w.alloc (.cells #[.bool c1, .slice sa1 sz1.length sc1, .slice da1 dz1.length dc1] 24)).alloc (.cells #[.int .i64 7] 3)) := ⟨_, rfl⟩
  rw [← hwo3]
  have z4 : w.heap.size + 1 + 1 ≤ wo3.heap.size := by rw [hwo3]; simp only [World.size_alloc]; omega
  have B5 : Hid (Abx wo3 (w.heap.size) (.bool c1) (.slice sa1 sz1.length sc1) (.slice da1 dz1.length dc1)) := by rw [hwo3]; exact (n1.al (.cells #[.int .i64 7] 3))
  have L6 : Hid (MidC (w.heap.size + 1) (w.heap.size + 1 + 1) wo3 (some ⟨w.heap.size + 1, 0, none⟩) ([7]) (1)) := by rw [hwo3]; exact n2
  have hb7 : Hid (Below w.heap.size w wo3) := by rw [hwo3]; exact (((Below.refl w.heap.size w).alloc (by omega) (.cells #[.bool c1, .slice sa1 sz1.length sc1, .slice da1 dz1.length dc1] 24)).alloc (by simp only [World.size_alloc]; omega) (.cells #[.int .i64 7] 3))
  have zwo3 : w.heap.size ≤ wo3.heap.size := hb7.out.size
  clear hwo3 n1 n2
  refine (vec_c (some ⟨w.heap.size + 1, 0, none⟩) 1 [7] (by simp) _ (L6.out.is (by omega)).1).mono ?_
  rintro e v1 ⟨vap, vcp, gap, gcp, rfl, hVp, hGp, hB⟩
  have z8 : wo3.heap.size ≤ v1.heap.size := hB.size
  have B9 : Hid (Abx v1 (w.heap.size) (.bool c1) (.slice sa1 sz1.length sc1) (.slice da1 dz1.length dc1)) := B5.out.go hB
  have L10 : Hid (MidC (w.heap.size + 1) (w.heap.size + 1 + 1) v1 (some ⟨w.heap.size + 1, 0, none⟩) ([7]) (1)) := L6.out.go (by omega) hB
  have hb11 : Hid (Below w.heap.size w v1) := hb7.out.trans (hB.mono hb7.out.size)
  have L12 : Hid (MidC (wo3.heap.size) (v1.heap.size) v1 (vap) ([(1 : Int)]) (vcp)) := hVp.midc
  have L13 : Hid (MidC (wo3.heap.size) (v1.heap.size) v1 (gap) ([7]) (gcp)) := hGp.midc
  clear hB hb7 B5 L6 hVp hGp
  clear L10
  have n14 := lit_mid v1 3 [0] 1 rfl
  simp only [List.map_cons, List.map_nil] at n14
  go_wp2_with fail
  obtain ⟨wo15, hwo15⟩ : ∃ wo15, wo15 = (v1.alloc (.cells #[.int .i64 0] 3)) := ⟨_, rfl⟩
  rw [← hwo15]
  have z16 : v1.heap.size + 1 ≤ wo15.heap.size := by rw [hwo15]; simp only [World.size_alloc]; omega
  have B17 : Hid (Abx wo15 (w.heap.size) (.bool c1) (.slice sa1 sz1.length sc1) (.slice da1 dz1.length dc1)) := by rw [hwo15]; exact (B9.out.al (.cells #[.int .i64 0] 3))
  have L18 : Hid (MidC (wo3.heap.size) (v1.heap.size) wo15 (vap) ([(1 : Int)]) (vcp)) := by rw [hwo15]; exact (L12.out.al (by omega) (.cells #[.int .i64 0] 3))
  have L19 : Hid (MidC (wo3.heap.size) (v1.heap.size) wo15 (gap) ([7]) (gcp)) := by rw [hwo15]; exact (L13.out.al (by omega) (.cells #[.int .i64 0] 3))
  have L20 : Hid (MidC (v1.heap.size) (v1.heap.size + 1) wo15 (some ⟨v1.heap.size, 0, none⟩) ([0]) (1)) := by rw [hwo15]; exact n14
  have hb21 : Hid (Below w.heap.size w wo15) := by rw [hwo15]; exact (hb11.out.alloc (by omega) (.cells #[.int .i64 0] 3))
  have zwo15 : w.heap.size ≤ wo15.heap.size := hb21.out.size
  clear hwo15 n14 hb11 B9 L12 L13
  refine (vec_c (some ⟨v1.heap.size, 0, none⟩) 1 [0] (by simp) _ (L20.out.is (by omega)).1).mono ?_
  rintro e v2 ⟨vaq, vcq, gaq, gcq, rfl, hVq, hGq, hB⟩
  have z22 : wo15.heap.size ≤ v2.heap.size := hB.size
  have B23 : Hid (Abx v2 (w.heap.size) (.bool c1) (.slice sa1 sz1.length sc1) (.slice da1 dz1.length dc1)) := B17.out.go hB
  have L24 : Hid (MidC (wo3.heap.size) (v1.heap.size) v2 (vap) ([(1 : Int)]) (vcp)) := L18.out.go (by omega) hB
  have L25 : Hid (MidC (wo3.heap.size) (v1.heap.size) v2 (gap) ([7]) (gcp)) := L19.out.go (by omega) hB
  have L26 : Hid (MidC (v1.heap.size) (v1.heap.size + 1) v2 (some ⟨v1.heap.size, 0, none⟩) ([0]) (1)) := L20.out.go (by omega) hB
  have hb27 : Hid (Below w.heap.size w v2) := hb21.out.trans (hB.mono hb21.out.size)
  have L28 : Hid (MidC (wo15.heap.size) (v2.heap.size) v2 (vaq) ([(1 : Int)]) (vcq)) := hVq.midc
  have L29 : Hid (MidC (wo15.heap.size) (v2.heap.size) v2 (gaq) ([0]) (gcq)) := hGq.midc
  clear hB hb21 B17 L18 L19 L20 hVq hGq
  clear L26
  have n30 := Abx.new v2 (.bool false) (.slice vaq 1 vcq) (.slice gaq 1 gcq)
  go_wp2_with fail
  obtain ⟨wo31, hwo31⟩ : ∃ wo31, wo31 = (v2.alloc (.cells #[.bool false, .slice vaq 1 vcq, .slice gaq 1 gcq] 24)) := ⟨_, rfl⟩
  rw [← hwo31]
  have z32 : v2.heap.size + 1 ≤ wo31.heap.size := by rw [hwo31]; simp only [World.size_alloc]; omega
  have B33 : Hid (Abx wo31 (w.heap.size) (.bool c1) (.slice sa1 sz1.length sc1) (.slice da1 dz1.length dc1)) := by rw [hwo31]; exact (B23.out.al (.cells #[.bool false, .slice vaq 1 vcq, .slice gaq 1 gcq] 24))
  have B34 : Hid (Abx wo31 (v2.heap.size) (.bool false) (.slice vaq 1 vcq) (.slice gaq 1 gcq)) := by rw [hwo31]; exact n30
  have L35 : Hid (MidC (wo3.heap.size) (v1.heap.size) wo31 (vap) ([(1 : Int)]) (vcp)) := by rw [hwo31]; exact (L24.out.al (by omega) (.cells #[.bool false, .slice vaq 1 vcq, .slice gaq 1 gcq] 24))
  have L36 : Hid (MidC (wo3.heap.size) (v1.heap.size) wo31 (gap) ([7]) (gcp)) := by rw [hwo31]; exact (L25.out.al (by omega) (.cells #[.bool false, .slice vaq 1 vcq, .slice gaq 1 gcq] 24))
  have L37 : Hid (MidC (wo15.heap.size) (v2.heap.size) wo31 (vaq) ([(1 : Int)]) (vcq)) := by rw [hwo31]; exact (L28.out.al (by omega) (.cells #[.bool false, .slice vaq 1 vcq, .slice gaq 1 gcq] 24))
  have L38 : Hid (MidC (wo15.heap.size) (v2.heap.size) wo31 (gaq) ([0]) (gcq)) := by rw [hwo31]; exact (L29.out.al (by omega) (.cells #[.bool false, .slice vaq 1 vcq, .slice gaq 1 gcq] 24))
  have hb39 : Hid (Below w.heap.size w wo31) := by rw [hwo31]; exact (hb27.out.alloc (by omega) (.cells #[.bool false, .slice vaq 1 vcq, .slice gaq 1 gcq] 24))
  have zwo31 : w.heap.size ≤ wo31.heap.size := hb39.out.size
  clear hwo31 n30 hb27 B23 L24 L25 L28 L29
  refine (at_ok false vap vcp [(1 : Int)] gap gcp [7] (some ⟨v2.heap.size, 0, none⟩) 1 [(false, (((vaq, vcq), [(1 : Int)]), ((gaq, gcq), [0])))] 1 rfl _ (by simp) (by simp) (by decide) (L35.out.is (by omega)).1 (L36.out.is (by omega)).1 (as_one (c := false) (sa := vaq) (sc := vcq) (sz := [(1 : Int)]) (da := gaq) (dc := gcq) (dz := [0]) B34.out (by simp) (by simp) (L37.out.is (by omega)) (L38.out.is (by omega)) (lit_all (by decide)) (lit_all (by decide))) [1] [7] HA (by show pkE false [(1 : Int)] [7] [(false, ([(1 : Int)], [0]))] = 0 ∧ pkS [(false, ([(1 : Int)], [0]))] = [1] ∧ pkD [(1 : Int)] [7] [(false, ([(1 : Int)], [0]))] = [7]; decide)).mono ?_
  rintro e v3 ⟨f1, g1, f2, g2, rfl, hX0, hY0, hB⟩
  have z40 : wo31.heap.size ≤ v3.heap.size := hB.size
  have B41 : Hid (Abx v3 (w.heap.size) (.bool c1) (.slice sa1 sz1.length sc1) (.slice da1 dz1.length dc1)) := B33.out.go hB
  have B42 : Hid (Abx v3 (v2.heap.size) (.bool false) (.slice vaq 1 vcq) (.slice gaq 1 gcq)) := B34.out.go hB
  have L43 : Hid (MidC (wo3.heap.size) (v1.heap.size) v3 (vap) ([(1 : Int)]) (vcp)) := L35.out.go (by omega) hB
  have L44 : Hid (MidC (wo3.heap.size) (v1.heap.size) v3 (gap) ([7]) (gcp)) := L36.out.go (by omega) hB
  have L45 : Hid (MidC (wo15.heap.size) (v2.heap.size) v3 (vaq) ([(1 : Int)]) (vcq)) := L37.out.go (by omega) hB
  have L46 : Hid (MidC (wo15.heap.size) (v2.heap.size) v3 (gaq) ([0]) (gcq)) := L38.out.go (by omega) hB
  have hb47 : Hid (Below w.heap.size w v3) := hb39.out.trans (hB.mono hb39.out.size)
  have L48 : Hid (MidC (wo31.heap.size) (v3.heap.size) v3 (f1) ([1]) (g1)) := hX0.midc
  have L49 : Hid (MidC (wo31.heap.size) (v3.heap.size) v3 (f2) ([7]) (g2)) := hY0.midc
  clear hB hb39 B33 B34 L35 L36 L37 L38 hX0 hY0
  clear L43 L44 L45 L46 B42
  have n50 := Abx.new v3 (.bool false) (.slice f1 1 g1) (.slice f2 1 g2)
  have l51 := (n50).c0
  have l52 := (n50).c1
  have l53 := (n50).c2
  have n54 := lit_mid (v3.alloc (.cells #[.bool false, .slice f1 1 g1, .slice f2 1 g2] 24)) 3 [7] 1 rfl
  simp only [World.size_alloc, List.map_cons, List.map_nil] at n54
  go_wp2_with fail
  obtain ⟨wo55, hwo55⟩ : ∃ wo55, wo55 = ((v3.alloc (.cells #[.bool false, .slice f1 1 g1, .slice f2 1 g2] 24)).alloc (.cells #[.int .i64 7] 3)) := ⟨_, rfl⟩
  rw [← hwo55]
  have z56 : v3.heap.size + 1 + 1 ≤ wo55.heap.size := by rw [hwo55]; simp only [World.size_alloc]; omega
  have B57 : Hid (Abx wo55 (w.heap.size) (.bool c1) (.slice sa1 sz1.length sc1) (.slice da1 dz1.length dc1)) := by rw [hwo55]; exact ((B41.out.al (.cells #[.bool false, .slice f1 1 g1, .slice f2 1 g2] 24)).al (.cells #[.int .i64 7] 3))
  have B58 : Hid (Abx wo55 (v3.heap.size) (.bool false) (.slice f1 1 g1) (.slice f2 1 g2)) := by rw [hwo55]; exact (n50.al (.cells #[.int .i64 7] 3))
  have L59 : Hid (MidC (wo31.heap.size) (v3.heap.size) wo55 (f1) ([1]) (g1)) := by rw [hwo55]; exact ((L48.out.al (by omega) (.cells #[.bool false, .slice f1 1 g1, .slice f2 1 g2] 24)).al (by simp only [World.size_alloc]; omega) (.cells #[.int .i64 7] 3))
  have L60 : Hid (MidC (wo31.heap.size) (v3.heap.size) wo55 (f2) ([7]) (g2)) := by rw [hwo55]; exact ((L49.out.al (by omega) (.cells #[.bool false, .slice f1 1 g1, .slice f2 1 g2] 24)).al (by simp only [World.size_alloc]; omega) (.cells #[.int .i64 7] 3))
  have L61 : Hid (MidC (v3.heap.size + 1) (v3.heap.size + 1 + 1) wo55 (some ⟨v3.heap.size + 1, 0, none⟩) ([7]) (1)) := by rw [hwo55]; exact n54
  have hb62 : Hid (Below w.heap.size w wo55) := by rw [hwo55]; exact ((hb47.out.alloc (by omega) (.cells #[.bool false, .slice f1 1 g1, .slice f2 1 g2] 24)).alloc (by simp only [World.size_alloc]; omega) (.cells #[.int .i64 7] 3))
  have zwo55 : w.heap.size ≤ wo55.heap.size := hb62.out.size
  clear hwo55 n50 l51 l52 l53 n54 hb47 B41 L48 L49
  refine (ints_any f2 g2 [7] (some ⟨v3.heap.size + 1, 0, none⟩) 1 [7] (by simp) _ _ (L60.out.is (by omega)).1 (L61.out.is (by omega)).1).mono ?_
  rintro e v4 ⟨rfl, hB⟩
  have z63 : wo55.heap.size ≤ v4.heap.size := hB.size
  have B64 : Hid (Abx v4 (w.heap.size) (.bool c1) (.slice sa1 sz1.length sc1) (.slice da1 dz1.length dc1)) := B57.out.go hB
  have B65 : Hid (Abx v4 (v3.heap.size) (.bool false) (.slice f1 1 g1) (.slice f2 1 g2)) := B58.out.go hB
  have L66 : Hid (MidC (wo31.heap.size) (v3.heap.size) v4 (f1) ([1]) (g1)) := L59.out.go (by omega) hB
  have L67 : Hid (MidC (wo31.heap.size) (v3.heap.size) v4 (f2) ([7]) (g2)) := L60.out.go (by omega) hB
  have L68 : Hid (MidC (v3.heap.size + 1) (v3.heap.size + 1 + 1) v4 (some ⟨v3.heap.size + 1, 0, none⟩) ([7]) (1)) := L61.out.go (by omega) hB
  have hb69 : Hid (Below w.heap.size w v4) := hb62.out.trans (hB.mono hb62.out.size)
  clear hB hb62 B57 B58 L59 L60 L61
  rw [eqB_true rfl]
  clear L66 L67 L68 B65
  have l70 := (B64.out).c0
  have l71 := (B64.out).c1
  have l72 := (B64.out).c2
  go_wp2_with fail
  clear l70 l71 l72
  refine (check_ok c1 sa1 sc1 sz1 da1 dc1 dz1 x11 x12 _ ((HI1.out.1.1.below hb69.out).mono hb69.out.size) ((HI1.out.2.1.1.below hb69.out).mono hb69.out.size) F1.out).mono ?_
  rintro e v5 ⟨rfl, hB⟩
  have z73 : v4.heap.size ≤ v5.heap.size := hB.size
  have B74 : Hid (Abx v5 (w.heap.size) (.bool c1) (.slice sa1 sz1.length sc1) (.slice da1 dz1.length dc1)) := B64.out.go hB
  have hb75 : Hid (Below w.heap.size w v5) := hb69.out.trans (hB.mono hb69.out.size)
  clear hB hb69 B64
  go_wp2_with fail
  obtain ⟨i0, hi, hz0, hz1, hz2⟩ := info_parts Try.infoArr
  go_loopw [6, 7] (fun v i wr => ∃ (k : Nat) (bs : List ArV), k ≤ sz1.length ∧ i = .int .i64 k ∧ Hid (bs.length = k ∧ bya bs = ioL (sz1.take k)) ∧ wr.ownsRow v5.heap.size 24 3 v k (cl3 bs) ∧ Hid (∀ j, j < k → AvO v.ownBlock v5.heap.size wr (arz bs j)) ∧ Below v5.heap.size v5 wr) (fun _ i _ => sz1.length - (intOf i).toNat)
  case atStart => exact ⟨0, [], Nat.zero_le _, rfl, ⟨rfl, rfl⟩, World.ownsRow_nil _ _ _ _, fun j hj => absurd hj (Nat.not_lt_zero j), Below.refl _ _⟩
  case round =>
    obtain ⟨k, bs, hk, rfl, HK, hown, HAV, hBv⟩ := hrel
    have HBv : Hid (Below v5.heap.size v5 wr) := hBv
    have HOL : Hid (∀ b, Value.ownBlock u6 = some b → b < wr.heap.size) := fun b hb => own_lt7 hown hb
    have z76 : v5.heap.size ≤ wr.heap.size := hBv.size
    have B77 : Hid (Abx wr (w.heap.size) (.bool c1) (.slice sa1 sz1.length sc1) (.slice da1 dz1.length dc1)) := B74.out.go hBv
    have hb78 : Hid (Below w.heap.size w wr) := hb75.out.trans (hBv.mono hb75.out.size)
    clear hBv hb75 B74
    by_cases hlt : k < sz1.length
    · obtain ⟨bz, oz, rfl, hbz, hcz⟩ := (HI1.out.1.1.below hb78.out).at hlt
      have cz := hcz k hlt
      have hl := HAI.out.nth k
      obtain ⟨n, hn⟩ : ∃ n : Nat, nth sz1 k = (n : Int) := ⟨(nth sz1 k).toNat, by omega⟩
      rw [hn] at cz hl
      have hn4 : n ≤ 4096 := by omega
      have HN : Hid (nth sz1 k = (n : Int)) := hn
      clear hn hl hcz
      have a1 := B77.out.c1
      go_wp2_with fail
      refine (iota_c n hn4 wr).mono ?_
      rintro e y1 ⟨xaI, xcI, yaI, ycI, rfl, hXI, hYI, hB1⟩
      have HB1 : Hid (Below wr.heap.size wr y1) := hB1
      have HXY : Hid (NewC wr.heap.size y1 xaI [(n : Int)] xcI ∧ NewC wr.heap.size y1 yaI (iot n) ycI) := ⟨hXI, hYI⟩
      have zb := HBv.out.size
      have z1 := hB1.size
      have hownL := own_go hown hB1
      obtain ⟨y3, hy3⟩ : ∃ y3, y3 = (y1.alloc (.cells #[.bool false, .slice xaI 1 xcI, .slice yaI n ycI] 24)).alloc (.cells #[.bool false, .slice xaI 1 xcI, .slice yaI n ycI] 24) := ⟨_, rfl⟩
      have HY3 : Hid (y3 = (y1.alloc (.cells #[.bool false, .slice xaI 1 xcI, .slice yaI n ycI] 24)).alloc (.cells #[.bool false, .slice xaI 1 xcI, .slice yaI n ycI] 24)) := hy3
      have HB3 : Hid (Below y1.heap.size y1 y3) := by rw [hy3]; exact ((Below.refl _ y1).alloc (Nat.le_refl _) _).alloc (by simp) _
      have HO3 : Hid (y3.ownsRow v5.heap.size 24 3 u6 k (cl3 bs)) := own_go hownL HB3.out
      have HH3 : Hid (y3.heap[y1.heap.size + 1]? = some (.cells #[.bool false, .slice xaI 1 xcI, .slice yaI n ycI] 24 (0, 0))) := by rw [hy3]; have h := World.alloc_heap_new (y1.alloc (.cells #[.bool false, .slice xaI 1 xcI, .slice yaI n ycI] 24)) (.cells #[.bool false, .slice xaI 1 xcI, .slice yaI n ycI] 24); rw [World.size_alloc] at h; exact h
      have hz3 : y3.heap.size = y1.heap.size + 1 + 1 := by rw [hy3]; simp
      have pb := Abx.new y1 (.bool false) (.slice xaI 1 xcI) (.slice yaI n ycI)
      have pb0 := pb.c0
      have pb1 := pb.c1
      have pb2 := pb.c2
      clear hown hownL hXI hYI hB1 hy3 cz a1
      go_wp2_with (at_builtin; rw [← HY3.out]; refine wpList_append_lies y3 rfl _ _ 25 rfl v5.heap.size 24 i0 (.agg #[.bool false, .slice none 0 0, .slice none 0 0]) 3 56 Try.underlying25 hi hz0 hz1 hz2 rfl (by decide) u6 k (cl3 bs) rfl HO3.out ⟨y1.heap.size + 1, 0, none⟩ 1 1 [.bool false, .slice xaI 1 xcI, .slice yaI n ycI] rfl rfl (World.news_of_block (cs := #[.bool false, .slice xaI 1 xcI, .slice yaI n ycI]) HH3.out) (by simp [Value.oneCell']) (by decide) (by unfold maxLen; omega) (by omega) (by omega) y3.heap.size rfl ?_; intro g gc y4 hown4 hg4 hw4 hl4)
      refine ⟨⟨k + 1, bs ++ [(false, (((xaI, xcI), [(n : Int)]), ((yaI, ycI), iot n)))], by omega, by go_num, ⟨?_, ?_⟩, ?_, ?_, ?_⟩, by simp [intOf]; omega⟩
      · rw [List.length_append, HK.out.1]; rfl
      · exact bya_next HK.out.2 hlt HN.out xaI xcI yaI ycI
      · rw [cl3_snoc]; simpa [ArV.s, ArV.d, iot_length] using hown4
      · intro j hj
        have hb3' : Below y1.heap.size y1 y3 := HB3.out
        rw [arz_snoc, HK.out.1]
        have hog : ∀ b, Value.ownBlock u6 = some b → b < wr.heap.size := fun b hb => HOL.out b hb
        by_cases e : j < k
        · rw [if_pos e]
          exact (((HAV.out j e).go HB1.out).go HB3.out).grow hg4 hw4
        · rw [if_neg e, if_pos (by omega)]
          have q1 : SepO (Value.ownBlock u6) v5.heap.size y3 xaI [(n : Int)] := (SepO.of_new HXY.out.1.1 (by omega) hog).go HB3.out
          have q2 : SepO (Value.ownBlock u6) v5.heap.size y3 yaI (iot n) := (SepO.of_new HXY.out.2.1 (by omega) hog).go HB3.out
          exact ⟨by simp, by rw [iot_length]; omega, ⟨q1.grow hg4 hw4, HXY.out.1.2⟩, ⟨q2.grow hg4 hw4, HXY.out.2.2⟩, one64_7 hn4, iot_64 n hn4⟩
      · exact ((HBv.out.trans (HB1.out.mono HBv.out.size)).trans (HB3.out.mono (HBv.out.trans (HB1.out.mono HBv.out.size)).size)).grown hg4 (by omega) (own_ge HO3.out)
    · obtain rfl : k = sz1.length := by omega
      have hK2 : bya bs = ioL sz1 := by have h := HK.out.2; rwa [List.take_length] at h
      have HBY : Hid (bs.length = sz1.length ∧ bya bs = ioL sz1) := ⟨HK.out.1, hK2⟩
      clear hK2 HK hlt hk
      have HOW : Hid (wr.ownsRow v5.heap.size 24 3 u6 sz1.length (cl3 bs)) := hown
      clear hown HOL
      have hbs6 : bs.length ≤ 9223372036854775807 := by have := HBY.out.1; omega
      by_cases hz : sz1 = []
      · have tz : ((sz1.length : Int) == 0) = true := by rw [hz]; rfl
        obtain ⟨ba, bc, rfl, hAs⟩ := own_as HBY.out.1 HOW.out HAV.out
        have HAS : Hid (IsAs wr.heap.size wr ba bs ∧ True) := ⟨hAs, trivial⟩
        clear hAs hz HOW HAV
        have l79 := (B77.out).c0
        have l80 := (B77.out).c1
        have l81 := (B77.out).c2
        go_wp2_with fail
        clear l79 l80 l81
        refine (at_ok c1 sa1 sc1 sz1 da1 dc1 dz1 ba bc bs sz1.length HBY.out.1 _ x11 x12 (by omega) ((HI1.out.1.1.below hb78.out).mono hb78.out.size) ((HI1.out.2.1.1.below hb78.out).mono hb78.out.size) (HAS.out.1) sz1 dz1 HA ⟨by rw [HBY.out.2]; exact all_err F1.out, by rw [HBY.out.2]; exact (all_is F1.out).1, by rw [HBY.out.2]; exact (all_is F1.out).2⟩).mono ?_
        rintro e v6 ⟨xa1, xc1, ya1, yc1, rfl, hX1, hY1, hB⟩
        have z82 : wr.heap.size ≤ v6.heap.size := hB.size
        have B83 : Hid (Abx v6 (w.heap.size) (.bool c1) (.slice sa1 sz1.length sc1) (.slice da1 dz1.length dc1)) := B77.out.go hB
        have hb84 : Hid (Below w.heap.size w v6) := hb78.out.trans (hB.mono hb78.out.size)
        have L85 : Hid (MidC (wr.heap.size) (v6.heap.size) v6 (xa1) (sz1) (xc1)) := hX1.midc
        have L86 : Hid (MidC (wr.heap.size) (v6.heap.size) v6 (ya1) (dz1) (yc1)) := hY1.midc
        clear hB hb78 B77 hX1 hY1
        have n87 := Abx.new v6 (.bool c1) (.slice xa1 sz1.length xc1) (.slice ya1 dz1.length yc1)
        have l88 := (n87).c0
        have l89 := (n87).c1
        have l90 := (n87).c2
        have l91 := ((B83.out.al (.cells #[.bool c1, .slice xa1 sz1.length xc1, .slice ya1 dz1.length yc1] 24))).c0
        have l92 := ((B83.out.al (.cells #[.bool c1, .slice xa1 sz1.length xc1, .slice ya1 dz1.length yc1] 24))).c1
        have l93 := ((B83.out.al (.cells #[.bool c1, .slice xa1 sz1.length xc1, .slice ya1 dz1.length yc1] 24))).c2
        go_wp2_with fail
        obtain ⟨wo94, hwo94⟩ : ∃ wo94, wo94 = (v6.alloc (.cells #[.bool c1, .slice xa1 sz1.length xc1, .slice ya1 dz1.length yc1] 24)) := ⟨_, rfl⟩
        rw [← hwo94]
        have z95 : v6.heap.size + 1 ≤ wo94.heap.size := by rw [hwo94]; simp only [World.size_alloc]; omega
        have B96 : Hid (Abx wo94 (w.heap.size) (.bool c1) (.slice sa1 sz1.length sc1) (.slice da1 dz1.length dc1)) := by rw [hwo94]; exact (B83.out.al (.cells #[.bool c1, .slice xa1 sz1.length xc1, .slice ya1 dz1.length yc1] 24))
        have B97 : Hid (Abx wo94 (v6.heap.size) (.bool c1) (.slice xa1 sz1.length xc1) (.slice ya1 dz1.length yc1)) := by rw [hwo94]; exact n87
        have L98 : Hid (MidC (wr.heap.size) (v6.heap.size) wo94 (xa1) (sz1) (xc1)) := by rw [hwo94]; exact (L85.out.al (by omega) (.cells #[.bool c1, .slice xa1 sz1.length xc1, .slice ya1 dz1.length yc1] 24))
        have L99 : Hid (MidC (wr.heap.size) (v6.heap.size) wo94 (ya1) (dz1) (yc1)) := by rw [hwo94]; exact (L86.out.al (by omega) (.cells #[.bool c1, .slice xa1 sz1.length xc1, .slice ya1 dz1.length yc1] 24))
        have hb100 : Hid (Below w.heap.size w wo94) := by rw [hwo94]; exact (hb84.out.alloc (by omega) (.cells #[.bool c1, .slice xa1 sz1.length xc1, .slice ya1 dz1.length yc1] 24))
        have zwo94 : w.heap.size ≤ wo94.heap.size := hb100.out.size
        clear hwo94 n87 l88 l89 l90 l91 l92 l93 hb84 B83 L85 L86
        refine (alike_eq c1 xa1 xc1 sz1 ya1 yc1 dz1 sa1 sc1 sz1 da1 dc1 dz1 rfl rfl x11 x12 _ (L98.out.is (by omega)) (L99.out.is (by omega)).1 ((HI1.out.1.below hb100.out).mono hb100.out.size) ((HI1.out.2.1.1.below hb100.out).mono hb100.out.size)).mono ?_
        rintro e v7 ⟨rfl, hB⟩
        have z101 : wo94.heap.size ≤ v7.heap.size := hB.size
        have B102 : Hid (Abx v7 (w.heap.size) (.bool c1) (.slice sa1 sz1.length sc1) (.slice da1 dz1.length dc1)) := B96.out.go hB
        have B103 : Hid (Abx v7 (v6.heap.size) (.bool c1) (.slice xa1 sz1.length xc1) (.slice ya1 dz1.length yc1)) := B97.out.go hB
        have L104 : Hid (MidC (wr.heap.size) (v6.heap.size) v7 (xa1) (sz1) (xc1)) := L98.out.go (by omega) hB
        have L105 : Hid (MidC (wr.heap.size) (v6.heap.size) v7 (ya1) (dz1) (yc1)) := L99.out.go (by omega) hB
        have hb106 : Hid (Below w.heap.size w v7) := hb100.out.trans (hB.mono hb100.out.size)
        clear hB hb100 B96 B97 L98 L99
        clear L104 L105 B103
        have l107 := (B102.out).c0
        have l108 := (B102.out).c1
        have l109 := (B102.out).c2
        go_wp2_with fail
        clear l107 l108 l109
        go_ret
        exact ⟨rfl, hb106.out⟩
      · have hz1' : 0 < sz1.length := List.length_pos_iff.2 hz
        have tz : ((sz1.length : Int) == 0) = false := by simp; intro e; exact hz e
        obtain ⟨l0, t0, HL0⟩ : ∃ l0 t0, Hid (sz1 = l0 :: t0) := by cases hq : sz1 with | nil => exact absurd hq hz | cons l t => exact ⟨l, t, rfl⟩
        clear hz
        have hb0 : 0 < bs.length := by rw [HBY.out.1]; exact hz1'
        rcases own3_cells HBY.out.1 HOW.out with ⟨e0, _⟩ | ⟨g, gc, rfl, hg1, hg2, hg3, hgc, hgz⟩
        · rw [e0] at hb0; simp at hb0
        have HOA : Hid (OWA g v5.heap.size wr bs) := ⟨hg2, hgc, hgz, fun j hj => HAV.out j (by rw [← HBY.out.1]; exact hj)⟩
        have HAS : Hid (IsAs wr.heap.size wr (some ⟨g, 0, none⟩) bs ∧ True) := ⟨HOA.out.is, trivial⟩
        clear hgc hgz HAV HOW
        obtain ⟨sb, scb, db, dcb, hB0⟩ := first_io (by have h := HBY.out.2; rw [HL0.out] at h; exact h)
        obtain ⟨D0, hD0⟩ : ∃ D0, D0 = ioN l0 := ⟨_, rfl⟩
        obtain ⟨RV, hRV⟩ : ∃ RV, RV = rvG 0 [l0] D0 := ⟨_, rfl⟩
        obtain ⟨RA, hRA⟩ : ∃ RA, RA = rvG 0 sz1 dz1 := ⟨_, rfl⟩
        rw [← hD0] at hB0
        have HB0 : Hid (arz bs 0 = (false, (((sb, scb), [l0]), ((db, dcb), D0)))) := hB0
        have HAB : Hid (axE 0 false [l0] D0 = 0 ∧ axE 0 c1 sz1 dz1 = 0 ∧ pkE c1 sz1 dz1 ((false, ([l0], RV)) :: ioL t0) = 0 ∧ pkS ((false, ([l0], RV)) :: ioL t0) = sz1 ∧ pkD sz1 dz1 ((false, ([l0], RV)) :: ioL t0) = RA) := by have h := F1.out; rw [HL0.out] at h; rw [hRA, hRV, hD0, HL0.out]; exact all_back h
        have HT0 : Hid (∀ j, In64 (nth D0 j)) := by have h := (HOA.out.2.2.2 0 hb0).2.2.2.2.2; rw [hB0] at h; exact h
        have HS0 : Hid (∀ j, In64 (nth [l0] j)) := by have h := (HOA.out.2.2.2 0 hb0).2.2.2.2.1; rw [hB0] at h; exact h
        have HL0' : Hid (D0.length ≤ 9223372036854775807) := by have h := (HOA.out.2.2.2 0 hb0).2.1; rw [hB0] at h; exact h
        have HRV : Hid (RV = rvG 0 [l0] D0 ∧ RV.length ≤ 4096 ∧ ∀ j, In64 (nth RV j)) := by have h := rv_facts HAB.out.1 HT0.out; rw [hRV]; exact ⟨rfl, h.2.1, h.2.2⟩
        have HRA : Hid (RA = rvG 0 sz1 dz1 ∧ RA.length ≤ 4096) := by have h := rv_facts HAB.out.2.1 HI1.out.2.2.2; rw [hRA]; exact ⟨rfl, h.2.1⟩
        have HQ0 : Hid (Below wr.heap.size wr wr) := Below.refl _ _
        clear hD0 hRV hRA hB0
        have l110 := (B77.out).c0
        have l111 := (B77.out).c1
        have l112 := (B77.out).c2
        go_wp2_with fail
        clear l110 l111 l112
        refine (at_ok c1 sa1 sc1 sz1 da1 dc1 dz1 (some ⟨g, 0, none⟩) gc bs sz1.length HBY.out.1 _ x11 x12 (by omega) ((HI1.out.1.1.below hb78.out).mono hb78.out.size) ((HI1.out.2.1.1.below hb78.out).mono hb78.out.size) (HAS.out.1) sz1 dz1 HA ⟨by rw [HBY.out.2]; exact all_err F1.out, by rw [HBY.out.2]; exact (all_is F1.out).1, by rw [HBY.out.2]; exact (all_is F1.out).2⟩).mono ?_
        rintro e v8 ⟨xa1, xc1, ya1, yc1, rfl, hX1, hY1, hB⟩
        have z113 : wr.heap.size ≤ v8.heap.size := hB.size
        have B114 : Hid (Abx v8 (w.heap.size) (.bool c1) (.slice sa1 sz1.length sc1) (.slice da1 dz1.length dc1)) := B77.out.go hB
        have hb115 : Hid (Below w.heap.size w v8) := hb78.out.trans (hB.mono hb78.out.size)
        have hc116 : Hid (Below wr.heap.size wr v8) := HQ0.out.trans (hB.mono HQ0.out.size)
        have L117 : Hid (MidC (wr.heap.size) (v8.heap.size) v8 (xa1) (sz1) (xc1)) := hX1.midc
        have L118 : Hid (MidC (wr.heap.size) (v8.heap.size) v8 (ya1) (dz1) (yc1)) := hY1.midc
        clear hB hb78 B77 HQ0 hX1 hY1
        have n119 := Abx.new v8 (.bool c1) (.slice xa1 sz1.length xc1) (.slice ya1 dz1.length yc1)
        have l120 := (n119).c0
        have l121 := (n119).c1
        have l122 := (n119).c2
        have l123 := ((B114.out.al (.cells #[.bool c1, .slice xa1 sz1.length xc1, .slice ya1 dz1.length yc1] 24))).c0
        have l124 := ((B114.out.al (.cells #[.bool c1, .slice xa1 sz1.length xc1, .slice ya1 dz1.length yc1] 24))).c1
        have l125 := ((B114.out.al (.cells #[.bool c1, .slice xa1 sz1.length xc1, .slice ya1 dz1.length yc1] 24))).c2
        go_wp2_with fail
        obtain ⟨wo126, hwo126⟩ : ∃ wo126, wo126 = (v8.alloc (.cells #[.bool c1, .slice xa1 sz1.length xc1, .slice ya1 dz1.length yc1] 24)) := ⟨_, rfl⟩
        rw [← hwo126]
        have z127 : v8.heap.size + 1 ≤ wo126.heap.size := by rw [hwo126]; simp only [World.size_alloc]; omega
        have B128 : Hid (Abx wo126 (w.heap.size) (.bool c1) (.slice sa1 sz1.length sc1) (.slice da1 dz1.length dc1)) := by rw [hwo126]; exact (B114.out.al (.cells #[.bool c1, .slice xa1 sz1.length xc1, .slice ya1 dz1.length yc1] 24))
        have B129 : Hid (Abx wo126 (v8.heap.size) (.bool c1) (.slice xa1 sz1.length xc1) (.slice ya1 dz1.length yc1)) := by rw [hwo126]; exact n119
        have L130 : Hid (MidC (wr.heap.size) (v8.heap.size) wo126 (xa1) (sz1) (xc1)) := by rw [hwo126]; exact (L117.out.al (by omega) (.cells #[.bool c1, .slice xa1 sz1.length xc1, .slice ya1 dz1.length yc1] 24))
        have L131 : Hid (MidC (wr.heap.size) (v8.heap.size) wo126 (ya1) (dz1) (yc1)) := by rw [hwo126]; exact (L118.out.al (by omega) (.cells #[.bool c1, .slice xa1 sz1.length xc1, .slice ya1 dz1.length yc1] 24))
        have hb132 : Hid (Below w.heap.size w wo126) := by rw [hwo126]; exact (hb115.out.alloc (by omega) (.cells #[.bool c1, .slice xa1 sz1.length xc1, .slice ya1 dz1.length yc1] 24))
        have zwo126 : w.heap.size ≤ wo126.heap.size := hb132.out.size
        have hc133 : Hid (Below wr.heap.size wr wo126) := by rw [hwo126]; exact (hc116.out.alloc (by omega) (.cells #[.bool c1, .slice xa1 sz1.length xc1, .slice ya1 dz1.length yc1] 24))
        clear hwo126 n119 l120 l121 l122 l123 l124 l125 hb115 B114 L117 L118 hc116
        refine (alike_eq c1 xa1 xc1 sz1 ya1 yc1 dz1 sa1 sc1 sz1 da1 dc1 dz1 rfl rfl x11 x12 _ (L130.out.is (by omega)) (L131.out.is (by omega)).1 ((HI1.out.1.below hb132.out).mono hb132.out.size) ((HI1.out.2.1.1.below hb132.out).mono hb132.out.size)).mono ?_
        rintro e v9 ⟨rfl, hB⟩
        have z134 : wo126.heap.size ≤ v9.heap.size := hB.size
        have B135 : Hid (Abx v9 (w.heap.size) (.bool c1) (.slice sa1 sz1.length sc1) (.slice da1 dz1.length dc1)) := B128.out.go hB
        have B136 : Hid (Abx v9 (v8.heap.size) (.bool c1) (.slice xa1 sz1.length xc1) (.slice ya1 dz1.length yc1)) := B129.out.go hB
        have L137 : Hid (MidC (wr.heap.size) (v8.heap.size) v9 (xa1) (sz1) (xc1)) := L130.out.go (by omega) hB
        have L138 : Hid (MidC (wr.heap.size) (v8.heap.size) v9 (ya1) (dz1) (yc1)) := L131.out.go (by omega) hB
        have hb139 : Hid (Below w.heap.size w v9) := hb132.out.trans (hB.mono hb132.out.size)
        have hc140 : Hid (Below wr.heap.size wr v9) := hc133.out.trans (hB.mono hc133.out.size)
        clear hB hb132 B128 B129 L130 L131 hc133
        clear L137 L138 B136
        have q0 := HOA.out.go hc140.out
        obtain ⟨qa, qb, qc⟩ := q0.2.1 0 hb0
        rw [HB0.out] at qa qb qc
        unfold ArV.s at qb
        unfold ArV.d at qc
        dsimp only at qa qb qc
        simp only [Nat.zero_mul, Nat.zero_add, List.length_cons, List.length_nil] at qa qb qc
        have l141 := (B135.out).c0
        have l142 := (B135.out).c1
        have l143 := (B135.out).c2
        go_wp2_with fail
        clear l141 l142 l143 q0 qa qb qc
        have hav := ((HOA.out.go hc140.out).2.2.2 0 hb0).is
        rw [HB0.out] at hav
        have HAV0 : Hid (IsAv v9.heap.size v9 (false, (((sb, scb), [l0]), ((db, dcb), D0)))) := hav
        clear hav
        refine (rvb_ok false sb scb [l0] 1 rfl db dcb D0 _ (by decide) HL0'.out HAV0.out.2.2.1 HAV0.out.2.2.2.1.1 HT0.out RV HR 0 (by unfold In64; decide) ⟨HAB.out.1, HRV.out.1.symm⟩).mono ?_
        rintro e v10 ⟨xa2, xc2, ya2, yc2, rfl, hX2, hY2, hB⟩
        have z144 : v9.heap.size ≤ v10.heap.size := hB.size
        have B145 : Hid (Abx v10 (w.heap.size) (.bool c1) (.slice sa1 sz1.length sc1) (.slice da1 dz1.length dc1)) := B135.out.go hB
        have hb146 : Hid (Below w.heap.size w v10) := hb139.out.trans (hB.mono hb139.out.size)
        have hc147 : Hid (Below wr.heap.size wr v10) := hc140.out.trans (hB.mono hc140.out.size)
        have L148 : Hid (MidC (v9.heap.size) (v10.heap.size) v10 (xa2) ([l0]) (xc2)) := hX2.midc
        have L149 : Hid (MidC (v9.heap.size) (v10.heap.size) v10 (ya2) (RV) (yc2)) := hY2.midc
        clear hB hb139 B135 hc140 hX2 hY2
        have n150 := Abx.new v10 (.bool false) (.slice xa2 1 xc2) (.slice ya2 RV.length yc2)
        have l151 := (n150).c0
        have l152 := (n150).c1
        have l153 := (n150).c2
        have q154 : OWA g v5.heap.size (v10.alloc (.cells #[.bool false, .slice xa2 1 xc2, .slice ya2 RV.length yc2] 24)) bs := HOA.out.go (hc147.out.alloc (by omega) (.cells #[.bool false, .slice xa2 1 xc2, .slice ya2 RV.length yc2] 24))
        have q154v : AvO (some g) v5.heap.size (v10.alloc (.cells #[.bool false, .slice xa2 1 xc2, .slice ya2 RV.length yc2] 24)) (false, (((xa2, xc2), [l0]), ((ya2, yc2), RV))) := ⟨by simp, by have := HRV.out.2.1; show RV.length ≤ 9223372036854775807; omega, ⟨SepO.of_mid (L148.out.al (by omega) (.cells #[.bool false, .slice xa2 1 xc2, .slice ya2 RV.length yc2] 24)) (by simp only [World.size_alloc]; omega) (by omega) (by omega), (L148.out.al (by omega) (.cells #[.bool false, .slice xa2 1 xc2, .slice ya2 RV.length yc2] 24)).2⟩, ⟨SepO.of_mid (L149.out.al (by omega) (.cells #[.bool false, .slice xa2 1 xc2, .slice ya2 RV.length yc2] 24)) (by simp only [World.size_alloc]; omega) (by omega) (by omega), (L149.out.al (by omega) (.cells #[.bool false, .slice xa2 1 xc2, .slice ya2 RV.length yc2] 24)).2⟩, HS0.out, HRV.out.2.2⟩
        obtain ⟨q154a, q154b, q154c⟩ := q154.2.1 0 hb0
        have q154f := q154.2.2.1 0
        have q154g := q154.2.2.1 1
        have q154h := q154.2.2.1 2
        simp only [Nat.zero_mul, Nat.zero_add] at q154a q154b q154c
        have l155 := ((abx_o3 (B145.out.al (.cells #[.bool false, .slice xa2 1 xc2, .slice ya2 RV.length yc2] 24)) (B := g) (by omega) (.bool false) (.slice xa2 1 xc2) (.slice ya2 RV.length yc2))).c0
        have l156 := ((abx_o3 (B145.out.al (.cells #[.bool false, .slice xa2 1 xc2, .slice ya2 RV.length yc2] 24)) (B := g) (by omega) (.bool false) (.slice xa2 1 xc2) (.slice ya2 RV.length yc2))).c1
        have l157 := ((abx_o3 (B145.out.al (.cells #[.bool false, .slice xa2 1 xc2, .slice ya2 RV.length yc2] 24)) (B := g) (by omega) (.bool false) (.slice xa2 1 xc2) (.slice ya2 RV.length yc2))).c2
        go_wp2_with fail
        obtain ⟨wo158, hwo158⟩ : ∃ wo158, wo158 = ((((v10.alloc (.cells #[.bool false, .slice xa2 1 xc2, .slice ya2 RV.length yc2] 24)).setCell ⟨g, 0, none⟩ (.bool false)).setCell ⟨g, 1, none⟩ (.slice xa2 1 xc2)).setCell ⟨g, 2, none⟩ (.slice ya2 RV.length yc2)) := ⟨_, rfl⟩
        rw [← hwo158]
        have z159 : v10.heap.size + 1 ≤ wo158.heap.size := by rw [hwo158]; simp only [World.size_alloc, World.size_setCell]; omega
        have B160 : Hid (Abx wo158 (w.heap.size) (.bool c1) (.slice sa1 sz1.length sc1) (.slice da1 dz1.length dc1)) := by rw [hwo158]; exact (abx_o3 (B145.out.al (.cells #[.bool false, .slice xa2 1 xc2, .slice ya2 RV.length yc2] 24)) (B := g) (by omega) (.bool false) (.slice xa2 1 xc2) (.slice ya2 RV.length yc2))
        have B161 : Hid (Abx wo158 (v10.heap.size) (.bool false) (.slice xa2 1 xc2) (.slice ya2 RV.length yc2)) := by rw [hwo158]; exact (abx_o3 n150 (B := g) (by omega) (.bool false) (.slice xa2 1 xc2) (.slice ya2 RV.length yc2))
        have L162 : Hid (MidC (v9.heap.size) (v10.heap.size) wo158 (xa2) ([l0]) (xc2)) := by rw [hwo158]; exact ((L148.out.al (by omega) (.cells #[.bool false, .slice xa2 1 xc2, .slice ya2 RV.length yc2] 24)).s3 (b := g) (by omega) (.bool false) (.slice xa2 1 xc2) (.slice ya2 RV.length yc2))
        have L163 : Hid (MidC (v9.heap.size) (v10.heap.size) wo158 (ya2) (RV) (yc2)) := by rw [hwo158]; exact ((L149.out.al (by omega) (.cells #[.bool false, .slice xa2 1 xc2, .slice ya2 RV.length yc2] 24)).s3 (b := g) (by omega) (.bool false) (.slice xa2 1 xc2) (.slice ya2 RV.length yc2))
        have hb164 : Hid (Below w.heap.size w wo158) := by rw [hwo158]; exact (bel_s3 (hb146.out.alloc (by omega) (.cells #[.bool false, .slice xa2 1 xc2, .slice ya2 RV.length yc2] 24)) (B := g) (by omega) (.bool false) (.slice xa2 1 xc2) (.slice ya2 RV.length yc2))
        have zwo158 : w.heap.size ≤ wo158.heap.size := hb164.out.size
        have HGP : Hid (IsAs wo158.heap.size wo158 (some ⟨g, 0, none⟩) (bs.set 0 (false, (((xa2, xc2), [l0]), ((ya2, yc2), RV))))) := by rw [hwo158]; exact q154.store7 hb0 q154v (.bool false) (.slice xa2 1 xc2) (.slice ya2 RV.length yc2) rfl rfl rfl
        clear hwo158 n150 l151 l152 l153 q154 q154v q154a q154b q154c q154f q154g q154h l155 l156 l157 hb146 B145 L148 L149
        clear L162 L163 B161
        refine (at_ok c1 sa1 sc1 sz1 da1 dc1 dz1 (some ⟨g, 0, none⟩) gc (bs.set 0 (false, (((xa2, xc2), [l0]), ((ya2, yc2), RV)))) sz1.length (by rw [List.length_set]; exact HBY.out.1) _ x11 x12 (by omega) ((HI1.out.1.1.below hb164.out).mono hb164.out.size) ((HI1.out.2.1.1.below hb164.out).mono hb164.out.size) HGP.out sz1 RA HA (by have h := HBY.out.2; rw [HL0.out] at h; rw [bya_set h]; exact HAB.out.2.2)).mono ?_
        rintro e v11 ⟨xa3, xc3, ya3, yc3, rfl, hX3, hY3, hB⟩
        have z165 : wo158.heap.size ≤ v11.heap.size := hB.size
        have B166 : Hid (Abx v11 (w.heap.size) (.bool c1) (.slice sa1 sz1.length sc1) (.slice da1 dz1.length dc1)) := B160.out.go hB
        have hb167 : Hid (Below w.heap.size w v11) := hb164.out.trans (hB.mono hb164.out.size)
        have L168 : Hid (MidC (wo158.heap.size) (v11.heap.size) v11 (xa3) (sz1) (xc3)) := hX3.midc
        have L169 : Hid (MidC (wo158.heap.size) (v11.heap.size) v11 (ya3) (RA) (yc3)) := hY3.midc
        clear hB hb164 B160 hX3 hY3
        clear HGP HOA HAS
        have n170 := Abx.new v11 (.bool c1) (.slice xa3 sz1.length xc3) (.slice ya3 RA.length yc3)
        have l171 := ((B166.out.al (.cells #[.bool c1, .slice xa3 sz1.length xc3, .slice ya3 RA.length yc3] 24))).c0
        have l172 := ((B166.out.al (.cells #[.bool c1, .slice xa3 sz1.length xc3, .slice ya3 RA.length yc3] 24))).c1
        have l173 := ((B166.out.al (.cells #[.bool c1, .slice xa3 sz1.length xc3, .slice ya3 RA.length yc3] 24))).c2
        go_wp2_with fail
        obtain ⟨wo174, hwo174⟩ : ∃ wo174, wo174 = (v11.alloc (.cells #[.bool c1, .slice xa3 sz1.length xc3, .slice ya3 RA.length yc3] 24)) := ⟨_, rfl⟩
        rw [← hwo174]
        have z175 : v11.heap.size + 1 ≤ wo174.heap.size := by rw [hwo174]; simp only [World.size_alloc]; omega
        have B176 : Hid (Abx wo174 (w.heap.size) (.bool c1) (.slice sa1 sz1.length sc1) (.slice da1 dz1.length dc1)) := by rw [hwo174]; exact (B166.out.al (.cells #[.bool c1, .slice xa3 sz1.length xc3, .slice ya3 RA.length yc3] 24))
        have B177 : Hid (Abx wo174 (v11.heap.size) (.bool c1) (.slice xa3 sz1.length xc3) (.slice ya3 RA.length yc3)) := by rw [hwo174]; exact n170
        have L178 : Hid (MidC (wo158.heap.size) (v11.heap.size) wo174 (xa3) (sz1) (xc3)) := by rw [hwo174]; exact (L168.out.al (by omega) (.cells #[.bool c1, .slice xa3 sz1.length xc3, .slice ya3 RA.length yc3] 24))
        have L179 : Hid (MidC (wo158.heap.size) (v11.heap.size) wo174 (ya3) (RA) (yc3)) := by rw [hwo174]; exact (L169.out.al (by omega) (.cells #[.bool c1, .slice xa3 sz1.length xc3, .slice ya3 RA.length yc3] 24))
        have hb180 : Hid (Below w.heap.size w wo174) := by rw [hwo174]; exact (hb167.out.alloc (by omega) (.cells #[.bool c1, .slice xa3 sz1.length xc3, .slice ya3 RA.length yc3] 24))
        have zwo174 : w.heap.size ≤ wo174.heap.size := hb180.out.size
        clear hwo174 n170 l171 l172 l173 hb167 B166 L168 L169
        refine (rvb_ok c1 sa1 sc1 sz1 sz1.length rfl da1 dc1 dz1 _ x11 x12 ((HI1.out.1.below hb180.out).mono hb180.out.size) ((HI1.out.2.1.1.below hb180.out).mono hb180.out.size) HI1.out.2.2.2 RA HR 0 (by unfold In64; decide) ⟨HAB.out.2.1, HRA.out.1.symm⟩).mono ?_
        rintro e v12 ⟨xa4, xc4, ya4, yc4, rfl, hX4, hY4, hB⟩
        have z181 : wo174.heap.size ≤ v12.heap.size := hB.size
        have B182 : Hid (Abx v12 (w.heap.size) (.bool c1) (.slice sa1 sz1.length sc1) (.slice da1 dz1.length dc1)) := B176.out.go hB
        have B183 : Hid (Abx v12 (v11.heap.size) (.bool c1) (.slice xa3 sz1.length xc3) (.slice ya3 RA.length yc3)) := B177.out.go hB
        have L184 : Hid (MidC (wo158.heap.size) (v11.heap.size) v12 (xa3) (sz1) (xc3)) := L178.out.go (by omega) hB
        have L185 : Hid (MidC (wo158.heap.size) (v11.heap.size) v12 (ya3) (RA) (yc3)) := L179.out.go (by omega) hB
        have hb186 : Hid (Below w.heap.size w v12) := hb180.out.trans (hB.mono hb180.out.size)
        have L187 : Hid (MidC (wo174.heap.size) (v12.heap.size) v12 (xa4) (sz1) (xc4)) := hX4.midc
        have L188 : Hid (MidC (wo174.heap.size) (v12.heap.size) v12 (ya4) (RA) (yc4)) := hY4.midc
        clear hB hb180 B176 B177 L178 L179 hX4 hY4
        have n189 := Abx.new v12 (.bool c1) (.slice xa4 sz1.length xc4) (.slice ya4 RA.length yc4)
        have l190 := ((B183.out.al (.cells #[.bool c1, .slice xa4 sz1.length xc4, .slice ya4 RA.length yc4] 24))).c0
        have l191 := ((B183.out.al (.cells #[.bool c1, .slice xa4 sz1.length xc4, .slice ya4 RA.length yc4] 24))).c1
        have l192 := ((B183.out.al (.cells #[.bool c1, .slice xa4 sz1.length xc4, .slice ya4 RA.length yc4] 24))).c2
        have l193 := (n189).c0
        have l194 := (n189).c1
        have l195 := (n189).c2
        go_wp2_with fail
        obtain ⟨wo196, hwo196⟩ : ∃ wo196, wo196 = (v12.alloc (.cells #[.bool c1, .slice xa4 sz1.length xc4, .slice ya4 RA.length yc4] 24)) := ⟨_, rfl⟩
        rw [← hwo196]
        have z197 : v12.heap.size + 1 ≤ wo196.heap.size := by rw [hwo196]; simp only [World.size_alloc]; omega
        have B198 : Hid (Abx wo196 (w.heap.size) (.bool c1) (.slice sa1 sz1.length sc1) (.slice da1 dz1.length dc1)) := by rw [hwo196]; exact (B182.out.al (.cells #[.bool c1, .slice xa4 sz1.length xc4, .slice ya4 RA.length yc4] 24))
        have B199 : Hid (Abx wo196 (v11.heap.size) (.bool c1) (.slice xa3 sz1.length xc3) (.slice ya3 RA.length yc3)) := by rw [hwo196]; exact (B183.out.al (.cells #[.bool c1, .slice xa4 sz1.length xc4, .slice ya4 RA.length yc4] 24))
        have B200 : Hid (Abx wo196 (v12.heap.size) (.bool c1) (.slice xa4 sz1.length xc4) (.slice ya4 RA.length yc4)) := by rw [hwo196]; exact n189
        have L201 : Hid (MidC (wo158.heap.size) (v11.heap.size) wo196 (xa3) (sz1) (xc3)) := by rw [hwo196]; exact (L184.out.al (by omega) (.cells #[.bool c1, .slice xa4 sz1.length xc4, .slice ya4 RA.length yc4] 24))
        have L202 : Hid (MidC (wo158.heap.size) (v11.heap.size) wo196 (ya3) (RA) (yc3)) := by rw [hwo196]; exact (L185.out.al (by omega) (.cells #[.bool c1, .slice xa4 sz1.length xc4, .slice ya4 RA.length yc4] 24))
        have L203 : Hid (MidC (wo174.heap.size) (v12.heap.size) wo196 (xa4) (sz1) (xc4)) := by rw [hwo196]; exact (L187.out.al (by omega) (.cells #[.bool c1, .slice xa4 sz1.length xc4, .slice ya4 RA.length yc4] 24))
        have L204 : Hid (MidC (wo174.heap.size) (v12.heap.size) wo196 (ya4) (RA) (yc4)) := by rw [hwo196]; exact (L188.out.al (by omega) (.cells #[.bool c1, .slice xa4 sz1.length xc4, .slice ya4 RA.length yc4] 24))
        have hb205 : Hid (Below w.heap.size w wo196) := by rw [hwo196]; exact (hb186.out.alloc (by omega) (.cells #[.bool c1, .slice xa4 sz1.length xc4, .slice ya4 RA.length yc4] 24))
        have zwo196 : w.heap.size ≤ wo196.heap.size := hb205.out.size
        clear hwo196 n189 l190 l191 l192 l193 l194 l195 hb186 B182 B183 L184 L185 L187 L188
        refine (alike_eq c1 xa3 xc3 sz1 ya3 yc3 RA xa4 xc4 sz1 ya4 yc4 RA rfl rfl x11 (by have := HRA.out.2; omega) _ (L201.out.is (by omega)) (L202.out.is (by omega)).1 (L203.out.is (by omega)) (L204.out.is (by omega)).1).mono ?_
        rintro e v13 ⟨rfl, hB⟩
        have z206 : wo196.heap.size ≤ v13.heap.size := hB.size
        have B207 : Hid (Abx v13 (w.heap.size) (.bool c1) (.slice sa1 sz1.length sc1) (.slice da1 dz1.length dc1)) := B198.out.go hB
        have B208 : Hid (Abx v13 (v11.heap.size) (.bool c1) (.slice xa3 sz1.length xc3) (.slice ya3 RA.length yc3)) := B199.out.go hB
        have B209 : Hid (Abx v13 (v12.heap.size) (.bool c1) (.slice xa4 sz1.length xc4) (.slice ya4 RA.length yc4)) := B200.out.go hB
        have L210 : Hid (MidC (wo158.heap.size) (v11.heap.size) v13 (xa3) (sz1) (xc3)) := L201.out.go (by omega) hB
        have L211 : Hid (MidC (wo158.heap.size) (v11.heap.size) v13 (ya3) (RA) (yc3)) := L202.out.go (by omega) hB
        have L212 : Hid (MidC (wo174.heap.size) (v12.heap.size) v13 (xa4) (sz1) (xc4)) := L203.out.go (by omega) hB
        have L213 : Hid (MidC (wo174.heap.size) (v12.heap.size) v13 (ya4) (RA) (yc4)) := L204.out.go (by omega) hB
        have hb214 : Hid (Below w.heap.size w v13) := hb205.out.trans (hB.mono hb205.out.size)
        clear hB hb205 B198 B199 B200 L201 L202 L203 L204
        clear L210 L211 L212 L213 B208 B209
        go_wp2_with fail
        go_ret
        exact ⟨rfl, hb214.out⟩
theorem pall_walk (HA : CAt) (HR : CRvB) (c1 : Bool) (sa1 : Option Addr) (sc1 : Nat) (sz1 : List Int) (da1 : Option Addr) (dc1 : Nat) (dz1 : List Int) (w : World) (w8 : IsArrD w sa1 sz1 sc1 da1 dz1 dc1) :
    Calls Try.prog 6 #[.agg #[.bool c1, .slice sa1 sz1.length sc1, .slice da1 dz1.length dc1]] w fun e w' => e = .returned (.bool true) ∧ Below w.heap.size w w' := by
  by_cases h1 : flawE c1 sz1 dz1 = 0
  · exact all_ok HA HR c1 sa1 sc1 sz1 da1 dc1 dz1 w w8 h1
  · exact all_no HA HR c1 sa1 sc1 sz1 da1 dc1 dz1 w w8 h1
end Go.Proofs.Ytlflacoiidhgoaa
