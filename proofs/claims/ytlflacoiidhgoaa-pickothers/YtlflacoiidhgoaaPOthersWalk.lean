/-
  The walk of the statement PickOthers, given what the program tells.
-/
import Derived.Test.YtlflacoiidhgoaaPatx
import Derived.Test.YtlflacoiidhgoaaSarr
import Derived.Test.YtlflacoiidhgoaaVec
import Derived.Deep.QuietTactic
import Derived.BigQuiet
import Derived.WalkSmall
import Derived.Deep.RegionWith
namespace Go.Proofs.Ytlflacoiidhgoaa
open Go.RowKit
set_option linter.unusedVariables false

set_option maxRecDepth 100000 in
set_option maxHeartbeats 8000000 in
theorem others_no (HA : CAt) (HPt : CPt) (c1 : Bool) (sa1 : Option Addr) (sc1 : Nat) (sz1 : List Int) (da1 : Option Addr) (dc1 : Nat) (dz1 : List Int) (ba : Option Addr) (bc : Nat) (bs : List ArV) (hbl : bs.length ≤ 9223372036854775807) (c2 : Bool) (sa2 : Option Addr) (sc2 : Nat) (sz2 : List Int) (da2 : Option Addr) (dc2 : Nat) (dz2 : List Int) (w : World) (w8 : IsArrD w sa1 sz1 sc1 da1 dz1 dc1) (w9 : IsArrD w sa2 sz2 sc2 da2 dz2 dc2) (hbs : IsAs w.heap.size w ba bs) (F1 : Hid (ptE c1 sz1 dz1 (bya bs) c2 sz2 dz2 ≠ 0)) :
    Calls Try.prog 5 #[.agg #[.bool c1, .slice sa1 sz1.length sc1, .slice da1 dz1.length dc1], .slice ba bs.length bc, .agg #[.bool c2, .slice sa2 sz2.length sc2, .slice da2 dz2.length dc2]] w fun e w' => e = .returned (.bool true) ∧ Below w.heap.size w w' := by
  obtain ⟨x11, x12, x3, x4, s64, T⟩ := w8
  have HI1 : Hid (IsC w.heap.size w sa1 sz1 sc1 ∧ IsC w.heap.size w da1 dz1 dc1 ∧ (∀ j, In64 (nth sz1 j)) ∧ ∀ j, In64 (nth dz1 j)) := ⟨x3, x4, s64, T⟩
  clear x3 x4 T s64
  obtain ⟨x21, x22, x3, x4, s64, T⟩ := w9
  have HI2 : Hid (IsC w.heap.size w sa2 sz2 sc2 ∧ IsC w.heap.size w da2 dz2 dc2 ∧ (∀ j, In64 (nth sz2 j)) ∧ ∀ j, In64 (nth dz2 j)) := ⟨x3, x4, s64, T⟩
  clear x3 x4 T s64
  have HM : Hid (IsAs w.heap.size w ba bs) := hbs
  clear hbs
  have n1 := Abx.new w (.bool c1) (.slice sa1 sz1.length sc1) (.slice da1 dz1.length dc1)
  have n2 := Abx.new (w.alloc (.cells #[.bool c1, .slice sa1 sz1.length sc1, .slice da1 dz1.length dc1] 24)) (.bool c2) (.slice sa2 sz2.length sc2) (.slice da2 dz2.length dc2)
  simp only [World.size_alloc] at n2
  have n3 := lit_mid ((w.alloc (.cells #[.bool c1, .slice sa1 sz1.length sc1, .slice da1 dz1.length dc1] 24)).alloc (.cells #[.bool c2, .slice sa2 sz2.length sc2, .slice da2 dz2.length dc2] 24)) 3 [1, 2, 3] 3 rfl
  simp only [World.size_alloc, List.map_cons, List.map_nil] at n3
  go_enter Try.func5, Try.ntmps5
  go_wp2_with fail
  obtain ⟨wo4, hwo4⟩ : ∃ wo4, wo4 = (((w.alloc (.cells #[.bool c1, .slice sa1 sz1.length sc1, .slice da1 dz1.length dc1] 24)).alloc (.cells #[.bool c2, .slice sa2 sz2.length sc2, .slice da2 dz2.length dc2] 24)).alloc (.cells #[.int .i64 1, .int .i64 2, .int .i64 3] 3)) := ⟨_, rfl⟩
  rw [← hwo4]
  have z5 : w.heap.size + 1 + 1 + 1 ≤ wo4.heap.size := by rw [hwo4]; simp only [World.size_alloc]; omega
  have B6 : Hid (Abx wo4 (w.heap.size) (.bool c1) (.slice sa1 sz1.length sc1) (.slice da1 dz1.length dc1)) := by rw [hwo4]; exact ((n1.al (.cells #[.bool c2, .slice sa2 sz2.length sc2, .slice da2 dz2.length dc2] 24)).al (.cells #[.int .i64 1, .int .i64 2, .int .i64 3] 3))
  have B7 : Hid (Abx wo4 (w.heap.size + 1) (.bool c2) (.slice sa2 sz2.length sc2) (.slice da2 dz2.length dc2)) := by rw [hwo4]; exact (n2.al (.cells #[.int .i64 1, .int .i64 2, .int .i64 3] 3))
  have L8 : Hid (MidC (w.heap.size + 1 + 1) (w.heap.size + 1 + 1 + 1) wo4 (some ⟨w.heap.size + 1 + 1, 0, none⟩) ([1, 2, 3]) (3)) := by rw [hwo4]; exact n3
  have hb9 : Hid (Below w.heap.size w wo4) := by rw [hwo4]; exact ((((Below.refl w.heap.size w).alloc (by omega) (.cells #[.bool c1, .slice sa1 sz1.length sc1, .slice da1 dz1.length dc1] 24)).alloc (by simp only [World.size_alloc]; omega) (.cells #[.bool c2, .slice sa2 sz2.length sc2, .slice da2 dz2.length dc2] 24)).alloc (by simp only [World.size_alloc]; omega) (.cells #[.int .i64 1, .int .i64 2, .int .i64 3] 3))
  have zwo4 : w.heap.size ≤ wo4.heap.size := hb9.out.size
  clear hwo4 n1 n2 n3
  refine (vec_c (some ⟨w.heap.size + 1 + 1, 0, none⟩) 3 [1, 2, 3] (by simp) _ (L8.out.is (by omega)).1).mono ?_
  rintro e v1 ⟨vap, vcp, gap, gcp, rfl, hVp, hGp, hB⟩
  have z10 : wo4.heap.size ≤ v1.heap.size := hB.size
  have B11 : Hid (Abx v1 (w.heap.size) (.bool c1) (.slice sa1 sz1.length sc1) (.slice da1 dz1.length dc1)) := B6.out.go hB
  have B12 : Hid (Abx v1 (w.heap.size + 1) (.bool c2) (.slice sa2 sz2.length sc2) (.slice da2 dz2.length dc2)) := B7.out.go hB
  have L13 : Hid (MidC (w.heap.size + 1 + 1) (w.heap.size + 1 + 1 + 1) v1 (some ⟨w.heap.size + 1 + 1, 0, none⟩) ([1, 2, 3]) (3)) := L8.out.go (by omega) hB
  have hb14 : Hid (Below w.heap.size w v1) := hb9.out.trans (hB.mono hb9.out.size)
  have L15 : Hid (MidC (wo4.heap.size) (v1.heap.size) v1 (vap) ([(3 : Int)]) (vcp)) := hVp.midc
  have L16 : Hid (MidC (wo4.heap.size) (v1.heap.size) v1 (gap) ([1, 2, 3]) (gcp)) := hGp.midc
  clear hB hb9 B6 B7 L8 hVp hGp
  clear L13
  have n17 := lit_mid v1 3 [1] 1 rfl
  simp only [List.map_cons, List.map_nil] at n17
  go_wp2_with fail
  obtain ⟨wo18, hwo18⟩ : ∃ wo18, wo18 = (v1.alloc (.cells #[.int .i64 1] 3)) := ⟨_, rfl⟩
  rw [← hwo18]
  have z19 : v1.heap.size + 1 ≤ wo18.heap.size := by rw [hwo18]; simp only [World.size_alloc]; omega
  have B20 : Hid (Abx wo18 (w.heap.size) (.bool c1) (.slice sa1 sz1.length sc1) (.slice da1 dz1.length dc1)) := by rw [hwo18]; exact (B11.out.al (.cells #[.int .i64 1] 3))
  have B21 : Hid (Abx wo18 (w.heap.size + 1) (.bool c2) (.slice sa2 sz2.length sc2) (.slice da2 dz2.length dc2)) := by rw [hwo18]; exact (B12.out.al (.cells #[.int .i64 1] 3))
  have L22 : Hid (MidC (wo4.heap.size) (v1.heap.size) wo18 (vap) ([(3 : Int)]) (vcp)) := by rw [hwo18]; exact (L15.out.al (by omega) (.cells #[.int .i64 1] 3))
  have L23 : Hid (MidC (wo4.heap.size) (v1.heap.size) wo18 (gap) ([1, 2, 3]) (gcp)) := by rw [hwo18]; exact (L16.out.al (by omega) (.cells #[.int .i64 1] 3))
  have L24 : Hid (MidC (v1.heap.size) (v1.heap.size + 1) wo18 (some ⟨v1.heap.size, 0, none⟩) ([1]) (1)) := by rw [hwo18]; exact n17
  have hb25 : Hid (Below w.heap.size w wo18) := by rw [hwo18]; exact (hb14.out.alloc (by omega) (.cells #[.int .i64 1] 3))
  have zwo18 : w.heap.size ≤ wo18.heap.size := hb25.out.size
  clear hwo18 n17 hb14 B11 B12 L15 L16
  refine (vec_c (some ⟨v1.heap.size, 0, none⟩) 1 [1] (by simp) _ (L24.out.is (by omega)).1).mono ?_
  rintro e v2 ⟨vaq, vcq, gaq, gcq, rfl, hVq, hGq, hB⟩
  have z26 : wo18.heap.size ≤ v2.heap.size := hB.size
  have B27 : Hid (Abx v2 (w.heap.size) (.bool c1) (.slice sa1 sz1.length sc1) (.slice da1 dz1.length dc1)) := B20.out.go hB
  have B28 : Hid (Abx v2 (w.heap.size + 1) (.bool c2) (.slice sa2 sz2.length sc2) (.slice da2 dz2.length dc2)) := B21.out.go hB
  have L29 : Hid (MidC (wo4.heap.size) (v1.heap.size) v2 (vap) ([(3 : Int)]) (vcp)) := L22.out.go (by omega) hB
  have L30 : Hid (MidC (wo4.heap.size) (v1.heap.size) v2 (gap) ([1, 2, 3]) (gcp)) := L23.out.go (by omega) hB
  have L31 : Hid (MidC (v1.heap.size) (v1.heap.size + 1) v2 (some ⟨v1.heap.size, 0, none⟩) ([1]) (1)) := L24.out.go (by omega) hB
  have hb32 : Hid (Below w.heap.size w v2) := hb25.out.trans (hB.mono hb25.out.size)
  have L33 : Hid (MidC (wo18.heap.size) (v2.heap.size) v2 (vaq) ([(1 : Int)]) (vcq)) := hVq.midc
  have L34 : Hid (MidC (wo18.heap.size) (v2.heap.size) v2 (gaq) ([1]) (gcq)) := hGq.midc
  clear hB hb25 B20 B21 L22 L23 L24 hVq hGq
  clear L31
  have n35 := Abx.new v2 (.bool false) (.slice vaq 1 vcq) (.slice gaq 1 gcq)
  have n36 := lit_mid (v2.alloc (.cells #[.bool false, .slice vaq 1 vcq, .slice gaq 1 gcq] 24)) 3 [9] 1 rfl
  simp only [World.size_alloc, List.map_cons, List.map_nil] at n36
  go_wp2_with fail
  obtain ⟨wo37, hwo37⟩ : ∃ wo37, wo37 = ((v2.alloc (.cells #[.bool false, .slice vaq 1 vcq, .slice gaq 1 gcq] 24)).alloc (.cells #[.int .i64 9] 3)) := ⟨_, rfl⟩
  rw [← hwo37]
  have z38 : v2.heap.size + 1 + 1 ≤ wo37.heap.size := by rw [hwo37]; simp only [World.size_alloc]; omega
  have B39 : Hid (Abx wo37 (w.heap.size) (.bool c1) (.slice sa1 sz1.length sc1) (.slice da1 dz1.length dc1)) := by rw [hwo37]; exact ((B27.out.al (.cells #[.bool false, .slice vaq 1 vcq, .slice gaq 1 gcq] 24)).al (.cells #[.int .i64 9] 3))
  have B40 : Hid (Abx wo37 (w.heap.size + 1) (.bool c2) (.slice sa2 sz2.length sc2) (.slice da2 dz2.length dc2)) := by rw [hwo37]; exact ((B28.out.al (.cells #[.bool false, .slice vaq 1 vcq, .slice gaq 1 gcq] 24)).al (.cells #[.int .i64 9] 3))
  have B41 : Hid (Abx wo37 (v2.heap.size) (.bool false) (.slice vaq 1 vcq) (.slice gaq 1 gcq)) := by rw [hwo37]; exact (n35.al (.cells #[.int .i64 9] 3))
  have L42 : Hid (MidC (wo4.heap.size) (v1.heap.size) wo37 (vap) ([(3 : Int)]) (vcp)) := by rw [hwo37]; exact ((L29.out.al (by omega) (.cells #[.bool false, .slice vaq 1 vcq, .slice gaq 1 gcq] 24)).al (by simp only [World.size_alloc]; omega) (.cells #[.int .i64 9] 3))
  have L43 : Hid (MidC (wo4.heap.size) (v1.heap.size) wo37 (gap) ([1, 2, 3]) (gcp)) := by rw [hwo37]; exact ((L30.out.al (by omega) (.cells #[.bool false, .slice vaq 1 vcq, .slice gaq 1 gcq] 24)).al (by simp only [World.size_alloc]; omega) (.cells #[.int .i64 9] 3))
  have L44 : Hid (MidC (wo18.heap.size) (v2.heap.size) wo37 (vaq) ([(1 : Int)]) (vcq)) := by rw [hwo37]; exact ((L33.out.al (by omega) (.cells #[.bool false, .slice vaq 1 vcq, .slice gaq 1 gcq] 24)).al (by simp only [World.size_alloc]; omega) (.cells #[.int .i64 9] 3))
  have L45 : Hid (MidC (wo18.heap.size) (v2.heap.size) wo37 (gaq) ([1]) (gcq)) := by rw [hwo37]; exact ((L34.out.al (by omega) (.cells #[.bool false, .slice vaq 1 vcq, .slice gaq 1 gcq] 24)).al (by simp only [World.size_alloc]; omega) (.cells #[.int .i64 9] 3))
  have L46 : Hid (MidC (v2.heap.size + 1) (v2.heap.size + 1 + 1) wo37 (some ⟨v2.heap.size + 1, 0, none⟩) ([9]) (1)) := by rw [hwo37]; exact n36
  have hb47 : Hid (Below w.heap.size w wo37) := by rw [hwo37]; exact ((hb32.out.alloc (by omega) (.cells #[.bool false, .slice vaq 1 vcq, .slice gaq 1 gcq] 24)).alloc (by simp only [World.size_alloc]; omega) (.cells #[.int .i64 9] 3))
  have zwo37 : w.heap.size ≤ wo37.heap.size := hb47.out.size
  clear hwo37 n35 n36 hb32 B27 B28 L29 L30 L33 L34
  refine (pt_ok false vap vcp [(3 : Int)] gap gcp [1, 2, 3] (some ⟨v2.heap.size, 0, none⟩) 1 [(false, (((vaq, vcq), [(1 : Int)]), ((gaq, gcq), [1])))] 1 rfl false none 0 [] (some ⟨v2.heap.size + 1, 0, none⟩) 1 [9] _ (by simp) (by simp) (by decide) (by simp) (by simp) (L42.out.is (by omega)).1 (L43.out.is (by omega)).1 (as_one (c := false) (sa := vaq) (sc := vcq) (sz := [(1 : Int)]) (da := gaq) (dc := gcq) (dz := [1]) B41.out (by simp) (by simp) (L44.out.is (by omega)) (L45.out.is (by omega)) (lit_all (by decide)) (lit_all (by decide))) (.inl rfl) (L46.out.is (by omega)).1 [3] [1, 9, 3] HPt (by show ptE false [(3 : Int)] [1, 2, 3] [(false, ([(1 : Int)], [1]))] false [] [9] = 0 ∧ [(3 : Int)] = [3] ∧ ptV [(3 : Int)] [1, 2, 3] [(false, ([(1 : Int)], [1]))] [] [9] = [1, 9, 3]; decide)).mono ?_
  rintro e v3 ⟨f1, g1, f2, g2, rfl, hX0, hY0, hB⟩
  have z48 : wo37.heap.size ≤ v3.heap.size := hB.size
  have B49 : Hid (Abx v3 (w.heap.size) (.bool c1) (.slice sa1 sz1.length sc1) (.slice da1 dz1.length dc1)) := B39.out.go hB
  have B50 : Hid (Abx v3 (w.heap.size + 1) (.bool c2) (.slice sa2 sz2.length sc2) (.slice da2 dz2.length dc2)) := B40.out.go hB
  have B51 : Hid (Abx v3 (v2.heap.size) (.bool false) (.slice vaq 1 vcq) (.slice gaq 1 gcq)) := B41.out.go hB
  have L52 : Hid (MidC (wo4.heap.size) (v1.heap.size) v3 (vap) ([(3 : Int)]) (vcp)) := L42.out.go (by omega) hB
  have L53 : Hid (MidC (wo4.heap.size) (v1.heap.size) v3 (gap) ([1, 2, 3]) (gcp)) := L43.out.go (by omega) hB
  have L54 : Hid (MidC (wo18.heap.size) (v2.heap.size) v3 (vaq) ([(1 : Int)]) (vcq)) := L44.out.go (by omega) hB
  have L55 : Hid (MidC (wo18.heap.size) (v2.heap.size) v3 (gaq) ([1]) (gcq)) := L45.out.go (by omega) hB
  have L56 : Hid (MidC (v2.heap.size + 1) (v2.heap.size + 1 + 1) v3 (some ⟨v2.heap.size + 1, 0, none⟩) ([9]) (1)) := L46.out.go (by omega) hB
  have hb57 : Hid (Below w.heap.size w v3) := hb47.out.trans (hB.mono hb47.out.size)
  have L58 : Hid (MidC (wo37.heap.size) (v3.heap.size) v3 (f1) ([3]) (g1)) := hX0.midc
  have L59 : Hid (MidC (wo37.heap.size) (v3.heap.size) v3 (f2) ([1, 9, 3]) (g2)) := hY0.midc
  clear hB hb47 B39 B40 B41 L42 L43 L44 L45 L46 hX0 hY0
  clear L52 L53 L54 L55 B51 L56
  have n60 := Abx.new v3 (.bool false) (.slice f1 1 g1) (.slice f2 3 g2)
  have l61 := (n60).c0
  have l62 := (n60).c1
  have l63 := (n60).c2
  have n64 := lit_mid (v3.alloc (.cells #[.bool false, .slice f1 1 g1, .slice f2 3 g2] 24)) 3 [1, 9, 3] 3 rfl
  simp only [World.size_alloc, List.map_cons, List.map_nil] at n64
  go_wp2_with fail
  obtain ⟨wo65, hwo65⟩ : ∃ wo65, wo65 = ((v3.alloc (.cells #[.bool false, .slice f1 1 g1, .slice f2 3 g2] 24)).alloc (.cells #[.int .i64 1, .int .i64 9, .int .i64 3] 3)) := ⟨_, rfl⟩
  rw [← hwo65]
  have z66 : v3.heap.size + 1 + 1 ≤ wo65.heap.size := by rw [hwo65]; simp only [World.size_alloc]; omega
  have B67 : Hid (Abx wo65 (w.heap.size) (.bool c1) (.slice sa1 sz1.length sc1) (.slice da1 dz1.length dc1)) := by rw [hwo65]; exact ((B49.out.al (.cells #[.bool false, .slice f1 1 g1, .slice f2 3 g2] 24)).al (.cells #[.int .i64 1, .int .i64 9, .int .i64 3] 3))
  have B68 : Hid (Abx wo65 (w.heap.size + 1) (.bool c2) (.slice sa2 sz2.length sc2) (.slice da2 dz2.length dc2)) := by rw [hwo65]; exact ((B50.out.al (.cells #[.bool false, .slice f1 1 g1, .slice f2 3 g2] 24)).al (.cells #[.int .i64 1, .int .i64 9, .int .i64 3] 3))
  have B69 : Hid (Abx wo65 (v3.heap.size) (.bool false) (.slice f1 1 g1) (.slice f2 3 g2)) := by rw [hwo65]; exact (n60.al (.cells #[.int .i64 1, .int .i64 9, .int .i64 3] 3))
  have L70 : Hid (MidC (wo37.heap.size) (v3.heap.size) wo65 (f1) ([3]) (g1)) := by rw [hwo65]; exact ((L58.out.al (by omega) (.cells #[.bool false, .slice f1 1 g1, .slice f2 3 g2] 24)).al (by simp only [World.size_alloc]; omega) (.cells #[.int .i64 1, .int .i64 9, .int .i64 3] 3))
  have L71 : Hid (MidC (wo37.heap.size) (v3.heap.size) wo65 (f2) ([1, 9, 3]) (g2)) := by rw [hwo65]; exact ((L59.out.al (by omega) (.cells #[.bool false, .slice f1 1 g1, .slice f2 3 g2] 24)).al (by simp only [World.size_alloc]; omega) (.cells #[.int .i64 1, .int .i64 9, .int .i64 3] 3))
  have L72 : Hid (MidC (v3.heap.size + 1) (v3.heap.size + 1 + 1) wo65 (some ⟨v3.heap.size + 1, 0, none⟩) ([1, 9, 3]) (3)) := by rw [hwo65]; exact n64
  have hb73 : Hid (Below w.heap.size w wo65) := by rw [hwo65]; exact ((hb57.out.alloc (by omega) (.cells #[.bool false, .slice f1 1 g1, .slice f2 3 g2] 24)).alloc (by simp only [World.size_alloc]; omega) (.cells #[.int .i64 1, .int .i64 9, .int .i64 3] 3))
  have zwo65 : w.heap.size ≤ wo65.heap.size := hb73.out.size
  clear hwo65 n60 l61 l62 l63 n64 hb57 B49 B50 L58 L59
  refine (ints_any f2 g2 [1, 9, 3] (some ⟨v3.heap.size + 1, 0, none⟩) 3 [1, 9, 3] (by simp) _ _ (L71.out.is (by omega)).1 (L72.out.is (by omega)).1).mono ?_
  rintro e v4 ⟨rfl, hB⟩
  have z74 : wo65.heap.size ≤ v4.heap.size := hB.size
  have B75 : Hid (Abx v4 (w.heap.size) (.bool c1) (.slice sa1 sz1.length sc1) (.slice da1 dz1.length dc1)) := B67.out.go hB
  have B76 : Hid (Abx v4 (w.heap.size + 1) (.bool c2) (.slice sa2 sz2.length sc2) (.slice da2 dz2.length dc2)) := B68.out.go hB
  have B77 : Hid (Abx v4 (v3.heap.size) (.bool false) (.slice f1 1 g1) (.slice f2 3 g2)) := B69.out.go hB
  have L78 : Hid (MidC (wo37.heap.size) (v3.heap.size) v4 (f1) ([3]) (g1)) := L70.out.go (by omega) hB
  have L79 : Hid (MidC (wo37.heap.size) (v3.heap.size) v4 (f2) ([1, 9, 3]) (g2)) := L71.out.go (by omega) hB
  have L80 : Hid (MidC (v3.heap.size + 1) (v3.heap.size + 1 + 1) v4 (some ⟨v3.heap.size + 1, 0, none⟩) ([1, 9, 3]) (3)) := L72.out.go (by omega) hB
  have hb81 : Hid (Below w.heap.size w v4) := hb73.out.trans (hB.mono hb73.out.size)
  clear hB hb73 B67 B68 B69 L70 L71 L72
  rw [eqB_true rfl]
  clear L78 L79 L80 B77
  have l82 := (B75.out).c0
  have l83 := (B75.out).c1
  have l84 := (B75.out).c2
  have l85 := (B76.out).c0
  have l86 := (B76.out).c1
  have l87 := (B76.out).c2
  go_wp2_with fail
  clear l82 l83 l84 l85 l86 l87
  refine (pt_no c1 sa1 sc1 sz1 da1 dc1 dz1 ba bc bs bs.length rfl c2 sa2 sc2 sz2 da2 dc2 dz2 _ x11 x12 hbl x21 x22 ((HI1.out.1.1.below hb81.out).mono hb81.out.size) ((HI1.out.2.1.1.below hb81.out).mono hb81.out.size) ((HM.out.below hb81.out).mono hb81.out.size) ((HI2.out.1.1.below hb81.out).mono hb81.out.size) ((HI2.out.2.1.1.below hb81.out).mono hb81.out.size) HPt F1.out).mono ?_
  rintro e v5 ⟨xa1, xc1, ya1, yc1, rfl, hB⟩
  have z88 : v4.heap.size ≤ v5.heap.size := hB.size
  have B89 : Hid (Abx v5 (w.heap.size) (.bool c1) (.slice sa1 sz1.length sc1) (.slice da1 dz1.length dc1)) := B75.out.go hB
  have B90 : Hid (Abx v5 (w.heap.size + 1) (.bool c2) (.slice sa2 sz2.length sc2) (.slice da2 dz2.length dc2)) := B76.out.go hB
  have hb91 : Hid (Below w.heap.size w v5) := hb81.out.trans (hB.mono hb81.out.size)
  clear hB hb81 B75 B76
  have n92 := Abx.new v5 (.bool false) (.slice xa1 0 xc1) (.slice ya1 0 yc1)
  go_wp2_with fail
  obtain ⟨wo93, hwo93⟩ : ∃ wo93, wo93 = (v5.alloc (.cells #[.bool false, .slice xa1 0 xc1, .slice ya1 0 yc1] 24)) := ⟨_, rfl⟩
  rw [← hwo93]
  have z94 : v5.heap.size + 1 ≤ wo93.heap.size := by rw [hwo93]; simp only [World.size_alloc]; omega
  have B95 : Hid (Abx wo93 (w.heap.size) (.bool c1) (.slice sa1 sz1.length sc1) (.slice da1 dz1.length dc1)) := by rw [hwo93]; exact (B89.out.al (.cells #[.bool false, .slice xa1 0 xc1, .slice ya1 0 yc1] 24))
  have B96 : Hid (Abx wo93 (w.heap.size + 1) (.bool c2) (.slice sa2 sz2.length sc2) (.slice da2 dz2.length dc2)) := by rw [hwo93]; exact (B90.out.al (.cells #[.bool false, .slice xa1 0 xc1, .slice ya1 0 yc1] 24))
  have B97 : Hid (Abx wo93 (v5.heap.size) (.bool false) (.slice xa1 0 xc1) (.slice ya1 0 yc1)) := by rw [hwo93]; exact n92
  have hb98 : Hid (Below w.heap.size w wo93) := by rw [hwo93]; exact (hb91.out.alloc (by omega) (.cells #[.bool false, .slice xa1 0 xc1, .slice ya1 0 yc1] 24))
  have zwo93 : w.heap.size ≤ wo93.heap.size := hb98.out.size
  clear hwo93 n92 hb91 B89 B90
  go_wp2_with fail
  go_ret
  exact ⟨rfl, hb98.out⟩
set_option maxRecDepth 100000 in
set_option maxHeartbeats 8000000 in
theorem others_ok (HA : CAt) (HPt : CPt) (c1 : Bool) (sa1 : Option Addr) (sc1 : Nat) (sz1 : List Int) (da1 : Option Addr) (dc1 : Nat) (dz1 : List Int) (ba : Option Addr) (bc : Nat) (bs : List ArV) (hbl : bs.length ≤ 9223372036854775807) (c2 : Bool) (sa2 : Option Addr) (sc2 : Nat) (sz2 : List Int) (da2 : Option Addr) (dc2 : Nat) (dz2 : List Int) (w : World) (w8 : IsArrD w sa1 sz1 sc1 da1 dz1 dc1) (w9 : IsArrD w sa2 sz2 sc2 da2 dz2 dc2) (hbs : IsAs w.heap.size w ba bs) (F1 : Hid (ptE c1 sz1 dz1 (bya bs) c2 sz2 dz2 = 0)) :
    Calls Try.prog 5 #[.agg #[.bool c1, .slice sa1 sz1.length sc1, .slice da1 dz1.length dc1], .slice ba bs.length bc, .agg #[.bool c2, .slice sa2 sz2.length sc2, .slice da2 dz2.length dc2]] w fun e w' => e = .returned (.bool true) ∧ Below w.heap.size w w' := by
  obtain ⟨hk0, hv0, hc0, _⟩ := ptE_zero.1 F1.out
  obtain ⟨hf0, hfl0, hbl0, hch0, he0, hix0⟩ := pkE_zero.1 hk0
  subst hc0
  obtain ⟨X, hX⟩ : ∃ X, X = ptV sz1 dz1 (bya bs) sz2 dz2 := ⟨_, rfl⟩
  obtain ⟨I0, hI0⟩ : ∃ I0, I0 = iot dz1.length := ⟨_, rfl⟩
  obtain ⟨S, hS⟩ : ∃ S, S = pkS (bya bs) := ⟨_, rfl⟩
  obtain ⟨PL, hPL⟩ : ∃ PL, PL = pkD sz1 I0 (bya bs) := ⟨_, rfl⟩
  have hd4 : dz1.length ≤ 4096 := (flawE_short hf0).2
  have hs6 : sz1.length ≤ 6 := (flawE_short hf0).1
  have HF : Hid (flawE c1 sz1 dz1 = 0 ∧ errOf sz1 = 0) := ⟨hf0, (flawE_zero hf0).1⟩
  have HX : Hid (X = ptV sz1 dz1 (bya bs) sz2 dz2 ∧ X.length = dz1.length) := ⟨hX, by rw [hX, ptV_length]⟩
  have HI0 : Hid (I0 = iot dz1.length ∧ I0.length = dz1.length ∧ flawE false [(dz1.length : Int)] I0 = 0 ∧ cyc I0 (prod sz1).toNat (fillE false) = I0) := by rw [hI0]; exact ⟨rfl, iot_length _, line_flaw hd4, flat_cyc hf0 _⟩
  have HPL : Hid (pkE false sz1 I0 (bya bs) = 0 ∧ pkS (bya bs) = S ∧ pkD sz1 I0 (bya bs) = PL ∧ S.length ≤ 6 ∧ PL.length ≤ 4096) := by have h := flat_pk hk0; have h2 := pk_len h; rw [hPL, hS, hI0]; exact ⟨h, rfl, rfl, h2.1, h2.2⟩
  have HOR : Hid (∀ i, i < dz1.length → (hasB false PL false (i : Int) = true ∧ hasB c1 dz2 c1 (nth X i) = true) ∨ (hasB false PL false (i : Int) = false ∧ nth X i = nth dz1 i)) := fun i hi => by rw [hPL, hX, hI0]; exact oth_or F1.out hi
  clear hk0 hf0 hfl0 hbl0 hch0 he0 hix0 hX hI0 hS hPL hv0
  obtain ⟨x11, x12, x3, x4, s64, T⟩ := w8
  have HI1 : Hid (IsC w.heap.size w sa1 sz1 sc1 ∧ IsC w.heap.size w da1 dz1 dc1 ∧ (∀ j, In64 (nth sz1 j)) ∧ ∀ j, In64 (nth dz1 j)) := ⟨x3, x4, s64, T⟩
  clear x3 x4 T s64
  obtain ⟨x21, x22, x3, x4, s64, T⟩ := w9
  have HI2 : Hid (IsC w.heap.size w sa2 sz2 sc2 ∧ IsC w.heap.size w da2 dz2 dc2 ∧ (∀ j, In64 (nth sz2 j)) ∧ ∀ j, In64 (nth dz2 j)) := ⟨x3, x4, s64, T⟩
  clear x3 x4 T s64
  have HM : Hid (IsAs w.heap.size w ba bs) := hbs
  clear hbs
  have n1 := Abx.new w (.bool c1) (.slice sa1 sz1.length sc1) (.slice da1 dz1.length dc1)
  have n2 := Abx.new (w.alloc (.cells #[.bool c1, .slice sa1 sz1.length sc1, .slice da1 dz1.length dc1] 24)) (.bool c1) (.slice sa2 sz2.length sc2) (.slice da2 dz2.length dc2)
  simp only [World.size_alloc] at n2
  have n3 := lit_mid ((w.alloc (.cells #[.bool c1, .slice sa1 sz1.length sc1, .slice da1 dz1.length dc1] 24)).alloc (.cells #[.bool c1, .slice sa2 sz2.length sc2, .slice da2 dz2.length dc2] 24)) 3 [1, 2, 3] 3 rfl
  simp only [World.size_alloc, List.map_cons, List.map_nil] at n3
  go_enter Try.func5, Try.ntmps5
  go_wp2_with fail
  obtain ⟨wo4, hwo4⟩ : ∃ wo4, wo4 = (((w.alloc (.cells #[.bool c1, .slice sa1 sz1.length sc1, .slice da1 dz1.length dc1] 24)).alloc (.cells #[.bool c1, .slice sa2 sz2.length sc2, .slice da2 dz2.length dc2] 24)).alloc (.cells #[.int .i64 1, .int .i64 2, .int .i64 3] 3)) := ⟨_, rfl⟩
  rw [← hwo4]
  have z5 : w.heap.size + 1 + 1 + 1 ≤ wo4.heap.size := by rw [hwo4]; simp only [World.size_alloc]; omega
  have B6 : Hid (Abx wo4 (w.heap.size) (.bool c1) (.slice sa1 sz1.length sc1) (.slice da1 dz1.length dc1)) := by rw [hwo4]; exact ((n1.al (.cells #[.bool c1, .slice sa2 sz2.length sc2, .slice da2 dz2.length dc2] 24)).al (.cells #[.int .i64 1, .int .i64 2, .int .i64 3] 3))
  have B7 : Hid (Abx wo4 (w.heap.size + 1) (.bool c1) (.slice sa2 sz2.length sc2) (.slice da2 dz2.length dc2)) := by rw [hwo4]; exact (n2.al (.cells #[.int .i64 1, .int .i64 2, .int .i64 3] 3))
  have L8 : Hid (MidC (w.heap.size + 1 + 1) (w.heap.size + 1 + 1 + 1) wo4 (some ⟨w.heap.size + 1 + 1, 0, none⟩) ([1, 2, 3]) (3)) := by rw [hwo4]; exact n3
  have hb9 : Hid (Below w.heap.size w wo4) := by rw [hwo4]; exact ((((Below.refl w.heap.size w).alloc (by omega) (.cells #[.bool c1, .slice sa1 sz1.length sc1, .slice da1 dz1.length dc1] 24)).alloc (by simp only [World.size_alloc]; omega) (.cells #[.bool c1, .slice sa2 sz2.length sc2, .slice da2 dz2.length dc2] 24)).alloc (by simp only [World.size_alloc]; omega) (.cells #[.int .i64 1, .int .i64 2, .int .i64 3] 3))
  have zwo4 : w.heap.size ≤ wo4.heap.size := hb9.out.size
  clear hwo4 n1 n2 n3
  refine (vec_c (some ⟨w.heap.size + 1 + 1, 0, none⟩) 3 [1, 2, 3] (by simp) _ (L8.out.is (by omega)).1).mono ?_
  rintro e v1 ⟨vap, vcp, gap, gcp, rfl, hVp, hGp, hB⟩
  have z10 : wo4.heap.size ≤ v1.heap.size := hB.size
  have B11 : Hid (Abx v1 (w.heap.size) (.bool c1) (.slice sa1 sz1.length sc1) (.slice da1 dz1.length dc1)) := B6.out.go hB
  have B12 : Hid (Abx v1 (w.heap.size + 1) (.bool c1) (.slice sa2 sz2.length sc2) (.slice da2 dz2.length dc2)) := B7.out.go hB
  have L13 : Hid (MidC (w.heap.size + 1 + 1) (w.heap.size + 1 + 1 + 1) v1 (some ⟨w.heap.size + 1 + 1, 0, none⟩) ([1, 2, 3]) (3)) := L8.out.go (by omega) hB
  have hb14 : Hid (Below w.heap.size w v1) := hb9.out.trans (hB.mono hb9.out.size)
  have L15 : Hid (MidC (wo4.heap.size) (v1.heap.size) v1 (vap) ([(3 : Int)]) (vcp)) := hVp.midc
  have L16 : Hid (MidC (wo4.heap.size) (v1.heap.size) v1 (gap) ([1, 2, 3]) (gcp)) := hGp.midc
  clear hB hb9 B6 B7 L8 hVp hGp
  clear L13
  have n17 := lit_mid v1 3 [1] 1 rfl
  simp only [List.map_cons, List.map_nil] at n17
  go_wp2_with fail
  obtain ⟨wo18, hwo18⟩ : ∃ wo18, wo18 = (v1.alloc (.cells #[.int .i64 1] 3)) := ⟨_, rfl⟩
  rw [← hwo18]
  have z19 : v1.heap.size + 1 ≤ wo18.heap.size := by rw [hwo18]; simp only [World.size_alloc]; omega
  have B20 : Hid (Abx wo18 (w.heap.size) (.bool c1) (.slice sa1 sz1.length sc1) (.slice da1 dz1.length dc1)) := by rw [hwo18]; exact (B11.out.al (.cells #[.int .i64 1] 3))
  have B21 : Hid (Abx wo18 (w.heap.size + 1) (.bool c1) (.slice sa2 sz2.length sc2) (.slice da2 dz2.length dc2)) := by rw [hwo18]; exact (B12.out.al (.cells #[.int .i64 1] 3))
  have L22 : Hid (MidC (wo4.heap.size) (v1.heap.size) wo18 (vap) ([(3 : Int)]) (vcp)) := by rw [hwo18]; exact (L15.out.al (by omega) (.cells #[.int .i64 1] 3))
  have L23 : Hid (MidC (wo4.heap.size) (v1.heap.size) wo18 (gap) ([1, 2, 3]) (gcp)) := by rw [hwo18]; exact (L16.out.al (by omega) (.cells #[.int .i64 1] 3))
  have L24 : Hid (MidC (v1.heap.size) (v1.heap.size + 1) wo18 (some ⟨v1.heap.size, 0, none⟩) ([1]) (1)) := by rw [hwo18]; exact n17
  have hb25 : Hid (Below w.heap.size w wo18) := by rw [hwo18]; exact (hb14.out.alloc (by omega) (.cells #[.int .i64 1] 3))
  have zwo18 : w.heap.size ≤ wo18.heap.size := hb25.out.size
  clear hwo18 n17 hb14 B11 B12 L15 L16
  refine (vec_c (some ⟨v1.heap.size, 0, none⟩) 1 [1] (by simp) _ (L24.out.is (by omega)).1).mono ?_
  rintro e v2 ⟨vaq, vcq, gaq, gcq, rfl, hVq, hGq, hB⟩
  have z26 : wo18.heap.size ≤ v2.heap.size := hB.size
  have B27 : Hid (Abx v2 (w.heap.size) (.bool c1) (.slice sa1 sz1.length sc1) (.slice da1 dz1.length dc1)) := B20.out.go hB
  have B28 : Hid (Abx v2 (w.heap.size + 1) (.bool c1) (.slice sa2 sz2.length sc2) (.slice da2 dz2.length dc2)) := B21.out.go hB
  have L29 : Hid (MidC (wo4.heap.size) (v1.heap.size) v2 (vap) ([(3 : Int)]) (vcp)) := L22.out.go (by omega) hB
  have L30 : Hid (MidC (wo4.heap.size) (v1.heap.size) v2 (gap) ([1, 2, 3]) (gcp)) := L23.out.go (by omega) hB
  have L31 : Hid (MidC (v1.heap.size) (v1.heap.size + 1) v2 (some ⟨v1.heap.size, 0, none⟩) ([1]) (1)) := L24.out.go (by omega) hB
  have hb32 : Hid (Below w.heap.size w v2) := hb25.out.trans (hB.mono hb25.out.size)
  have L33 : Hid (MidC (wo18.heap.size) (v2.heap.size) v2 (vaq) ([(1 : Int)]) (vcq)) := hVq.midc
  have L34 : Hid (MidC (wo18.heap.size) (v2.heap.size) v2 (gaq) ([1]) (gcq)) := hGq.midc
  clear hB hb25 B20 B21 L22 L23 L24 hVq hGq
  clear L31
  have n35 := Abx.new v2 (.bool false) (.slice vaq 1 vcq) (.slice gaq 1 gcq)
  have n36 := lit_mid (v2.alloc (.cells #[.bool false, .slice vaq 1 vcq, .slice gaq 1 gcq] 24)) 3 [9] 1 rfl
  simp only [World.size_alloc, List.map_cons, List.map_nil] at n36
  go_wp2_with fail
  obtain ⟨wo37, hwo37⟩ : ∃ wo37, wo37 = ((v2.alloc (.cells #[.bool false, .slice vaq 1 vcq, .slice gaq 1 gcq] 24)).alloc (.cells #[.int .i64 9] 3)) := ⟨_, rfl⟩
  rw [← hwo37]
  have z38 : v2.heap.size + 1 + 1 ≤ wo37.heap.size := by rw [hwo37]; simp only [World.size_alloc]; omega
  have B39 : Hid (Abx wo37 (w.heap.size) (.bool c1) (.slice sa1 sz1.length sc1) (.slice da1 dz1.length dc1)) := by rw [hwo37]; exact ((B27.out.al (.cells #[.bool false, .slice vaq 1 vcq, .slice gaq 1 gcq] 24)).al (.cells #[.int .i64 9] 3))
  have B40 : Hid (Abx wo37 (w.heap.size + 1) (.bool c1) (.slice sa2 sz2.length sc2) (.slice da2 dz2.length dc2)) := by rw [hwo37]; exact ((B28.out.al (.cells #[.bool false, .slice vaq 1 vcq, .slice gaq 1 gcq] 24)).al (.cells #[.int .i64 9] 3))
  have B41 : Hid (Abx wo37 (v2.heap.size) (.bool false) (.slice vaq 1 vcq) (.slice gaq 1 gcq)) := by rw [hwo37]; exact (n35.al (.cells #[.int .i64 9] 3))
  have L42 : Hid (MidC (wo4.heap.size) (v1.heap.size) wo37 (vap) ([(3 : Int)]) (vcp)) := by rw [hwo37]; exact ((L29.out.al (by omega) (.cells #[.bool false, .slice vaq 1 vcq, .slice gaq 1 gcq] 24)).al (by simp only [World.size_alloc]; omega) (.cells #[.int .i64 9] 3))
  have L43 : Hid (MidC (wo4.heap.size) (v1.heap.size) wo37 (gap) ([1, 2, 3]) (gcp)) := by rw [hwo37]; exact ((L30.out.al (by omega) (.cells #[.bool false, .slice vaq 1 vcq, .slice gaq 1 gcq] 24)).al (by simp only [World.size_alloc]; omega) (.cells #[.int .i64 9] 3))
  have L44 : Hid (MidC (wo18.heap.size) (v2.heap.size) wo37 (vaq) ([(1 : Int)]) (vcq)) := by rw [hwo37]; exact ((L33.out.al (by omega) (.cells #[.bool false, .slice vaq 1 vcq, .slice gaq 1 gcq] 24)).al (by simp only [World.size_alloc]; omega) (.cells #[.int .i64 9] 3))
  have L45 : Hid (MidC (wo18.heap.size) (v2.heap.size) wo37 (gaq) ([1]) (gcq)) := by rw [hwo37]; exact ((L34.out.al (by omega) (.cells #[.bool false, .slice vaq 1 vcq, .slice gaq 1 gcq] 24)).al (by simp only [World.size_alloc]; omega) (.cells #[.int .i64 9] 3))
  have L46 : Hid (MidC (v2.heap.size + 1) (v2.heap.size + 1 + 1) wo37 (some ⟨v2.heap.size + 1, 0, none⟩) ([9]) (1)) := by rw [hwo37]; exact n36
  have hb47 : Hid (Below w.heap.size w wo37) := by rw [hwo37]; exact ((hb32.out.alloc (by omega) (.cells #[.bool false, .slice vaq 1 vcq, .slice gaq 1 gcq] 24)).alloc (by simp only [World.size_alloc]; omega) (.cells #[.int .i64 9] 3))
  have zwo37 : w.heap.size ≤ wo37.heap.size := hb47.out.size
  clear hwo37 n35 n36 hb32 B27 B28 L29 L30 L33 L34
  refine (pt_ok false vap vcp [(3 : Int)] gap gcp [1, 2, 3] (some ⟨v2.heap.size, 0, none⟩) 1 [(false, (((vaq, vcq), [(1 : Int)]), ((gaq, gcq), [1])))] 1 rfl false none 0 [] (some ⟨v2.heap.size + 1, 0, none⟩) 1 [9] _ (by simp) (by simp) (by decide) (by simp) (by simp) (L42.out.is (by omega)).1 (L43.out.is (by omega)).1 (as_one (c := false) (sa := vaq) (sc := vcq) (sz := [(1 : Int)]) (da := gaq) (dc := gcq) (dz := [1]) B41.out (by simp) (by simp) (L44.out.is (by omega)) (L45.out.is (by omega)) (lit_all (by decide)) (lit_all (by decide))) (.inl rfl) (L46.out.is (by omega)).1 [3] [1, 9, 3] HPt (by show ptE false [(3 : Int)] [1, 2, 3] [(false, ([(1 : Int)], [1]))] false [] [9] = 0 ∧ [(3 : Int)] = [3] ∧ ptV [(3 : Int)] [1, 2, 3] [(false, ([(1 : Int)], [1]))] [] [9] = [1, 9, 3]; decide)).mono ?_
  rintro e v3 ⟨f1, g1, f2, g2, rfl, hX0, hY0, hB⟩
  have z48 : wo37.heap.size ≤ v3.heap.size := hB.size
  have B49 : Hid (Abx v3 (w.heap.size) (.bool c1) (.slice sa1 sz1.length sc1) (.slice da1 dz1.length dc1)) := B39.out.go hB
  have B50 : Hid (Abx v3 (w.heap.size + 1) (.bool c1) (.slice sa2 sz2.length sc2) (.slice da2 dz2.length dc2)) := B40.out.go hB
  have B51 : Hid (Abx v3 (v2.heap.size) (.bool false) (.slice vaq 1 vcq) (.slice gaq 1 gcq)) := B41.out.go hB
  have L52 : Hid (MidC (wo4.heap.size) (v1.heap.size) v3 (vap) ([(3 : Int)]) (vcp)) := L42.out.go (by omega) hB
  have L53 : Hid (MidC (wo4.heap.size) (v1.heap.size) v3 (gap) ([1, 2, 3]) (gcp)) := L43.out.go (by omega) hB
  have L54 : Hid (MidC (wo18.heap.size) (v2.heap.size) v3 (vaq) ([(1 : Int)]) (vcq)) := L44.out.go (by omega) hB
  have L55 : Hid (MidC (wo18.heap.size) (v2.heap.size) v3 (gaq) ([1]) (gcq)) := L45.out.go (by omega) hB
  have L56 : Hid (MidC (v2.heap.size + 1) (v2.heap.size + 1 + 1) v3 (some ⟨v2.heap.size + 1, 0, none⟩) ([9]) (1)) := L46.out.go (by omega) hB
  have hb57 : Hid (Below w.heap.size w v3) := hb47.out.trans (hB.mono hb47.out.size)
  have L58 : Hid (MidC (wo37.heap.size) (v3.heap.size) v3 (f1) ([3]) (g1)) := hX0.midc
  have L59 : Hid (MidC (wo37.heap.size) (v3.heap.size) v3 (f2) ([1, 9, 3]) (g2)) := hY0.midc
  clear hB hb47 B39 B40 B41 L42 L43 L44 L45 L46 hX0 hY0
  clear L52 L53 L54 L55 B51 L56
  have n60 := Abx.new v3 (.bool false) (.slice f1 1 g1) (.slice f2 3 g2)
  have l61 := (n60).c0
  have l62 := (n60).c1
  have l63 := (n60).c2
  have n64 := lit_mid (v3.alloc (.cells #[.bool false, .slice f1 1 g1, .slice f2 3 g2] 24)) 3 [1, 9, 3] 3 rfl
  simp only [World.size_alloc, List.map_cons, List.map_nil] at n64
  go_wp2_with fail
  obtain ⟨wo65, hwo65⟩ : ∃ wo65, wo65 = ((v3.alloc (.cells #[.bool false, .slice f1 1 g1, .slice f2 3 g2] 24)).alloc (.cells #[.int .i64 1, .int .i64 9, .int .i64 3] 3)) := ⟨_, rfl⟩
  rw [← hwo65]
  have z66 : v3.heap.size + 1 + 1 ≤ wo65.heap.size := by rw [hwo65]; simp only [World.size_alloc]; omega
  have B67 : Hid (Abx wo65 (w.heap.size) (.bool c1) (.slice sa1 sz1.length sc1) (.slice da1 dz1.length dc1)) := by rw [hwo65]; exact ((B49.out.al (.cells #[.bool false, .slice f1 1 g1, .slice f2 3 g2] 24)).al (.cells #[.int .i64 1, .int .i64 9, .int .i64 3] 3))
  have B68 : Hid (Abx wo65 (w.heap.size + 1) (.bool c1) (.slice sa2 sz2.length sc2) (.slice da2 dz2.length dc2)) := by rw [hwo65]; exact ((B50.out.al (.cells #[.bool false, .slice f1 1 g1, .slice f2 3 g2] 24)).al (.cells #[.int .i64 1, .int .i64 9, .int .i64 3] 3))
  have B69 : Hid (Abx wo65 (v3.heap.size) (.bool false) (.slice f1 1 g1) (.slice f2 3 g2)) := by rw [hwo65]; exact (n60.al (.cells #[.int .i64 1, .int .i64 9, .int .i64 3] 3))
  have L70 : Hid (MidC (wo37.heap.size) (v3.heap.size) wo65 (f1) ([3]) (g1)) := by rw [hwo65]; exact ((L58.out.al (by omega) (.cells #[.bool false, .slice f1 1 g1, .slice f2 3 g2] 24)).al (by simp only [World.size_alloc]; omega) (.cells #[.int .i64 1, .int .i64 9, .int .i64 3] 3))
  have L71 : Hid (MidC (wo37.heap.size) (v3.heap.size) wo65 (f2) ([1, 9, 3]) (g2)) := by rw [hwo65]; exact ((L59.out.al (by omega) (.cells #[.bool false, .slice f1 1 g1, .slice f2 3 g2] 24)).al (by simp only [World.size_alloc]; omega) (.cells #[.int .i64 1, .int .i64 9, .int .i64 3] 3))
  have L72 : Hid (MidC (v3.heap.size + 1) (v3.heap.size + 1 + 1) wo65 (some ⟨v3.heap.size + 1, 0, none⟩) ([1, 9, 3]) (3)) := by rw [hwo65]; exact n64
  have hb73 : Hid (Below w.heap.size w wo65) := by rw [hwo65]; exact ((hb57.out.alloc (by omega) (.cells #[.bool false, .slice f1 1 g1, .slice f2 3 g2] 24)).alloc (by simp only [World.size_alloc]; omega) (.cells #[.int .i64 1, .int .i64 9, .int .i64 3] 3))
  have zwo65 : w.heap.size ≤ wo65.heap.size := hb73.out.size
  clear hwo65 n60 l61 l62 l63 n64 hb57 B49 B50 L58 L59
  refine (ints_any f2 g2 [1, 9, 3] (some ⟨v3.heap.size + 1, 0, none⟩) 3 [1, 9, 3] (by simp) _ _ (L71.out.is (by omega)).1 (L72.out.is (by omega)).1).mono ?_
  rintro e v4 ⟨rfl, hB⟩
  have z74 : wo65.heap.size ≤ v4.heap.size := hB.size
  have B75 : Hid (Abx v4 (w.heap.size) (.bool c1) (.slice sa1 sz1.length sc1) (.slice da1 dz1.length dc1)) := B67.out.go hB
  have B76 : Hid (Abx v4 (w.heap.size + 1) (.bool c1) (.slice sa2 sz2.length sc2) (.slice da2 dz2.length dc2)) := B68.out.go hB
  have B77 : Hid (Abx v4 (v3.heap.size) (.bool false) (.slice f1 1 g1) (.slice f2 3 g2)) := B69.out.go hB
  have L78 : Hid (MidC (wo37.heap.size) (v3.heap.size) v4 (f1) ([3]) (g1)) := L70.out.go (by omega) hB
  have L79 : Hid (MidC (wo37.heap.size) (v3.heap.size) v4 (f2) ([1, 9, 3]) (g2)) := L71.out.go (by omega) hB
  have L80 : Hid (MidC (v3.heap.size + 1) (v3.heap.size + 1 + 1) v4 (some ⟨v3.heap.size + 1, 0, none⟩) ([1, 9, 3]) (3)) := L72.out.go (by omega) hB
  have hb81 : Hid (Below w.heap.size w v4) := hb73.out.trans (hB.mono hb73.out.size)
  clear hB hb73 B67 B68 B69 L70 L71 L72
  rw [eqB_true rfl]
  clear L78 L79 L80 B77
  have l82 := (B75.out).c0
  have l83 := (B75.out).c1
  have l84 := (B75.out).c2
  have l85 := (B76.out).c0
  have l86 := (B76.out).c1
  have l87 := (B76.out).c2
  go_wp2_with fail
  clear l82 l83 l84 l85 l86 l87
  refine (pt_ok c1 sa1 sc1 sz1 da1 dc1 dz1 ba bc bs bs.length rfl c1 sa2 sc2 sz2 da2 dc2 dz2 _ x11 x12 hbl x21 x22 ((HI1.out.1.1.below hb81.out).mono hb81.out.size) ((HI1.out.2.1.1.below hb81.out).mono hb81.out.size) ((HM.out.below hb81.out).mono hb81.out.size) ((HI2.out.1.1.below hb81.out).mono hb81.out.size) ((HI2.out.2.1.1.below hb81.out).mono hb81.out.size) sz1 X HPt ⟨F1.out, rfl, HX.out.1.symm⟩).mono ?_
  rintro e v5 ⟨xaX, xcX, yaX, ycX, rfl, hXX, hYX, hB⟩
  have z88 : v4.heap.size ≤ v5.heap.size := hB.size
  have B89 : Hid (Abx v5 (w.heap.size) (.bool c1) (.slice sa1 sz1.length sc1) (.slice da1 dz1.length dc1)) := B75.out.go hB
  have B90 : Hid (Abx v5 (w.heap.size + 1) (.bool c1) (.slice sa2 sz2.length sc2) (.slice da2 dz2.length dc2)) := B76.out.go hB
  have hb91 : Hid (Below w.heap.size w v5) := hb81.out.trans (hB.mono hb81.out.size)
  have L92 : Hid (MidC (v4.heap.size) (v5.heap.size) v5 (xaX) (sz1) (xcX)) := hXX.midc
  have L93 : Hid (MidC (v4.heap.size) (v5.heap.size) v5 (yaX) (X) (ycX)) := hYX.midc
  clear hB hb81 B75 B76 hXX hYX
  have n94 := Abx.new v5 (.bool c1) (.slice xaX sz1.length xcX) (.slice yaX X.length ycX)
  have l95 := ((B89.out.al (.cells #[.bool c1, .slice xaX sz1.length xcX, .slice yaX X.length ycX] 24))).c0
  have l96 := ((B89.out.al (.cells #[.bool c1, .slice xaX sz1.length xcX, .slice yaX X.length ycX] 24))).c1
  have l97 := ((B89.out.al (.cells #[.bool c1, .slice xaX sz1.length xcX, .slice yaX X.length ycX] 24))).c2
  go_wp2_with fail
  obtain ⟨wo98, hwo98⟩ : ∃ wo98, wo98 = (v5.alloc (.cells #[.bool c1, .slice xaX sz1.length xcX, .slice yaX X.length ycX] 24)) := ⟨_, rfl⟩
  rw [← hwo98]
  have z99 : v5.heap.size + 1 ≤ wo98.heap.size := by rw [hwo98]; simp only [World.size_alloc]; omega
  have B100 : Hid (Abx wo98 (w.heap.size) (.bool c1) (.slice sa1 sz1.length sc1) (.slice da1 dz1.length dc1)) := by rw [hwo98]; exact (B89.out.al (.cells #[.bool c1, .slice xaX sz1.length xcX, .slice yaX X.length ycX] 24))
  have B101 : Hid (Abx wo98 (w.heap.size + 1) (.bool c1) (.slice sa2 sz2.length sc2) (.slice da2 dz2.length dc2)) := by rw [hwo98]; exact (B90.out.al (.cells #[.bool c1, .slice xaX sz1.length xcX, .slice yaX X.length ycX] 24))
  have B102 : Hid (Abx wo98 (v5.heap.size) (.bool c1) (.slice xaX sz1.length xcX) (.slice yaX X.length ycX)) := by rw [hwo98]; exact n94
  have L103 : Hid (MidC (v4.heap.size) (v5.heap.size) wo98 (xaX) (sz1) (xcX)) := by rw [hwo98]; exact (L92.out.al (by omega) (.cells #[.bool c1, .slice xaX sz1.length xcX, .slice yaX X.length ycX] 24))
  have L104 : Hid (MidC (v4.heap.size) (v5.heap.size) wo98 (yaX) (X) (ycX)) := by rw [hwo98]; exact (L93.out.al (by omega) (.cells #[.bool c1, .slice xaX sz1.length xcX, .slice yaX X.length ycX] 24))
  have hb105 : Hid (Below w.heap.size w wo98) := by rw [hwo98]; exact (hb91.out.alloc (by omega) (.cells #[.bool c1, .slice xaX sz1.length xcX, .slice yaX X.length ycX] 24))
  have zwo98 : w.heap.size ≤ wo98.heap.size := hb105.out.size
  clear hwo98 n94 l95 l96 l97 hb91 B89 B90 L92 L93
  refine (io_ok dz1.length hd4 I0 HI0.out.1 _).mono ?_
  rintro e v6 ⟨xaI, xcI, yaI, ycI, rfl, hXI, hYI, hB⟩
  have z106 : wo98.heap.size ≤ v6.heap.size := hB.size
  have B107 : Hid (Abx v6 (w.heap.size) (.bool c1) (.slice sa1 sz1.length sc1) (.slice da1 dz1.length dc1)) := B100.out.go hB
  have B108 : Hid (Abx v6 (w.heap.size + 1) (.bool c1) (.slice sa2 sz2.length sc2) (.slice da2 dz2.length dc2)) := B101.out.go hB
  have B109 : Hid (Abx v6 (v5.heap.size) (.bool c1) (.slice xaX sz1.length xcX) (.slice yaX X.length ycX)) := B102.out.go hB
  have L110 : Hid (MidC (v4.heap.size) (v5.heap.size) v6 (xaX) (sz1) (xcX)) := L103.out.go (by omega) hB
  have L111 : Hid (MidC (v4.heap.size) (v5.heap.size) v6 (yaX) (X) (ycX)) := L104.out.go (by omega) hB
  have hb112 : Hid (Below w.heap.size w v6) := hb105.out.trans (hB.mono hb105.out.size)
  have L113 : Hid (MidC (wo98.heap.size) (v6.heap.size) v6 (xaI) ([(dz1.length : Int)]) (1)) := hXI.midc
  have L114 : Hid (MidC (wo98.heap.size) (v6.heap.size) v6 (yaI) (I0) (I0.length)) := hYI.midc
  clear hB hb105 B100 B101 B102 L103 L104 hXI hYI
  have n115 := Abx.new v6 (.bool false) (.slice xaI 1 xcI) (.slice yaI I0.length ycI)
  have l116 := ((B107.out.al (.cells #[.bool false, .slice xaI 1 xcI, .slice yaI I0.length ycI] 24))).c0
  have l117 := ((B107.out.al (.cells #[.bool false, .slice xaI 1 xcI, .slice yaI I0.length ycI] 24))).c1
  have l118 := ((B107.out.al (.cells #[.bool false, .slice xaI 1 xcI, .slice yaI I0.length ycI] 24))).c2
  have l119 := (n115).c0
  have l120 := (n115).c1
  have l121 := (n115).c2
  go_wp2_with fail
  obtain ⟨wo122, hwo122⟩ : ∃ wo122, wo122 = (v6.alloc (.cells #[.bool false, .slice xaI 1 xcI, .slice yaI I0.length ycI] 24)) := ⟨_, rfl⟩
  rw [← hwo122]
  have z123 : v6.heap.size + 1 ≤ wo122.heap.size := by rw [hwo122]; simp only [World.size_alloc]; omega
  have B124 : Hid (Abx wo122 (w.heap.size) (.bool c1) (.slice sa1 sz1.length sc1) (.slice da1 dz1.length dc1)) := by rw [hwo122]; exact (B107.out.al (.cells #[.bool false, .slice xaI 1 xcI, .slice yaI I0.length ycI] 24))
  have B125 : Hid (Abx wo122 (w.heap.size + 1) (.bool c1) (.slice sa2 sz2.length sc2) (.slice da2 dz2.length dc2)) := by rw [hwo122]; exact (B108.out.al (.cells #[.bool false, .slice xaI 1 xcI, .slice yaI I0.length ycI] 24))
  have B126 : Hid (Abx wo122 (v5.heap.size) (.bool c1) (.slice xaX sz1.length xcX) (.slice yaX X.length ycX)) := by rw [hwo122]; exact (B109.out.al (.cells #[.bool false, .slice xaI 1 xcI, .slice yaI I0.length ycI] 24))
  have B127 : Hid (Abx wo122 (v6.heap.size) (.bool false) (.slice xaI 1 xcI) (.slice yaI I0.length ycI)) := by rw [hwo122]; exact n115
  have L128 : Hid (MidC (v4.heap.size) (v5.heap.size) wo122 (xaX) (sz1) (xcX)) := by rw [hwo122]; exact (L110.out.al (by omega) (.cells #[.bool false, .slice xaI 1 xcI, .slice yaI I0.length ycI] 24))
  have L129 : Hid (MidC (v4.heap.size) (v5.heap.size) wo122 (yaX) (X) (ycX)) := by rw [hwo122]; exact (L111.out.al (by omega) (.cells #[.bool false, .slice xaI 1 xcI, .slice yaI I0.length ycI] 24))
  have L130 : Hid (MidC (wo98.heap.size) (v6.heap.size) wo122 (xaI) ([(dz1.length : Int)]) (1)) := by rw [hwo122]; exact (L113.out.al (by omega) (.cells #[.bool false, .slice xaI 1 xcI, .slice yaI I0.length ycI] 24))
  have L131 : Hid (MidC (wo98.heap.size) (v6.heap.size) wo122 (yaI) (I0) (I0.length)) := by rw [hwo122]; exact (L114.out.al (by omega) (.cells #[.bool false, .slice xaI 1 xcI, .slice yaI I0.length ycI] 24))
  have hb132 : Hid (Below w.heap.size w wo122) := by rw [hwo122]; exact (hb112.out.alloc (by omega) (.cells #[.bool false, .slice xaI 1 xcI, .slice yaI I0.length ycI] 24))
  have zwo122 : w.heap.size ≤ wo122.heap.size := hb132.out.size
  clear hwo122 n115 l116 l117 l118 l119 l120 l121 hb112 B107 B108 B109 L110 L111 L113 L114
  refine (rs_ok sa1 sc1 sz1 false xaI xcI [(dz1.length : Int)] 1 rfl yaI ycI I0 x11 (by decide) (by have := HI0.out.2.1; omega) _ ((HI1.out.1.1.below hb132.out).mono hb132.out.size) (L130.out.is (by omega)).1 (L131.out.is (by omega)).1 I0 HF.out.2 HI0.out.2.2.1 HI0.out.2.2.2).mono ?_
  rintro e v7 ⟨xaR, xcR, yaR, ycR, rfl, hXR, hYR, hB⟩
  have z133 : wo122.heap.size ≤ v7.heap.size := hB.size
  have B134 : Hid (Abx v7 (w.heap.size) (.bool c1) (.slice sa1 sz1.length sc1) (.slice da1 dz1.length dc1)) := B124.out.go hB
  have B135 : Hid (Abx v7 (w.heap.size + 1) (.bool c1) (.slice sa2 sz2.length sc2) (.slice da2 dz2.length dc2)) := B125.out.go hB
  have B136 : Hid (Abx v7 (v5.heap.size) (.bool c1) (.slice xaX sz1.length xcX) (.slice yaX X.length ycX)) := B126.out.go hB
  have B137 : Hid (Abx v7 (v6.heap.size) (.bool false) (.slice xaI 1 xcI) (.slice yaI I0.length ycI)) := B127.out.go hB
  have L138 : Hid (MidC (v4.heap.size) (v5.heap.size) v7 (xaX) (sz1) (xcX)) := L128.out.go (by omega) hB
  have L139 : Hid (MidC (v4.heap.size) (v5.heap.size) v7 (yaX) (X) (ycX)) := L129.out.go (by omega) hB
  have L140 : Hid (MidC (wo98.heap.size) (v6.heap.size) v7 (xaI) ([(dz1.length : Int)]) (1)) := L130.out.go (by omega) hB
  have L141 : Hid (MidC (wo98.heap.size) (v6.heap.size) v7 (yaI) (I0) (I0.length)) := L131.out.go (by omega) hB
  have hb142 : Hid (Below w.heap.size w v7) := hb132.out.trans (hB.mono hb132.out.size)
  have L143 : Hid (MidC (wo122.heap.size) (v7.heap.size) v7 (xaR) (sz1) (sz1.length)) := hXR.midc
  have L144 : Hid (MidC (wo122.heap.size) (v7.heap.size) v7 (yaR) (I0) (I0.length)) := hYR.midc
  clear hB hb132 B124 B125 B126 B127 L128 L129 L130 L131 hXR hYR
  clear L140 L141
  have l145 := (B137.out).fr 0
  have l146 := (B137.out).c0
  have l147 := (B137.out).fr 1
  have l148 := (B137.out).c1
  have l149 := (B137.out).fr 2
  have l150 := (B137.out).c2
  have l151 := ((B137.out.set3 (.bool false) (.slice xaR sz1.length xcR) (.slice yaR I0.length ycR))).c0
  have l152 := ((B137.out.set3 (.bool false) (.slice xaR sz1.length xcR) (.slice yaR I0.length ycR))).c1
  have l153 := ((B137.out.set3 (.bool false) (.slice xaR sz1.length xcR) (.slice yaR I0.length ycR))).c2
  go_wp2_with fail
  obtain ⟨wo154, hwo154⟩ : ∃ wo154, wo154 = (((v7.setCell ⟨v6.heap.size, 0, none⟩ (.bool false)).setCell ⟨v6.heap.size, 1, none⟩ (.slice xaR sz1.length xcR)).setCell ⟨v6.heap.size, 2, none⟩ (.slice yaR I0.length ycR)) := ⟨_, rfl⟩
  rw [← hwo154]
  have z155 : v7.heap.size ≤ wo154.heap.size := by rw [hwo154]; simp only [World.size_setCell]; omega
  have B156 : Hid (Abx wo154 (w.heap.size) (.bool c1) (.slice sa1 sz1.length sc1) (.slice da1 dz1.length dc1)) := by rw [hwo154]; exact (abx_o3 B134.out (B := v6.heap.size) (by omega) (.bool false) (.slice xaR sz1.length xcR) (.slice yaR I0.length ycR))
  have B157 : Hid (Abx wo154 (w.heap.size + 1) (.bool c1) (.slice sa2 sz2.length sc2) (.slice da2 dz2.length dc2)) := by rw [hwo154]; exact (abx_o3 B135.out (B := v6.heap.size) (by omega) (.bool false) (.slice xaR sz1.length xcR) (.slice yaR I0.length ycR))
  have B158 : Hid (Abx wo154 (v5.heap.size) (.bool c1) (.slice xaX sz1.length xcX) (.slice yaX X.length ycX)) := by rw [hwo154]; exact (abx_o3 B136.out (B := v6.heap.size) (by omega) (.bool false) (.slice xaR sz1.length xcR) (.slice yaR I0.length ycR))
  have B159 : Hid (Abx wo154 (v6.heap.size) (.bool false) (.slice xaR sz1.length xcR) (.slice yaR I0.length ycR)) := by rw [hwo154]; exact (B137.out.set3 (.bool false) (.slice xaR sz1.length xcR) (.slice yaR I0.length ycR))
  have L160 : Hid (MidC (v4.heap.size) (v5.heap.size) wo154 (xaX) (sz1) (xcX)) := by rw [hwo154]; exact (L138.out.s3 (b := v6.heap.size) (by omega) (.bool false) (.slice xaR sz1.length xcR) (.slice yaR I0.length ycR))
  have L161 : Hid (MidC (v4.heap.size) (v5.heap.size) wo154 (yaX) (X) (ycX)) := by rw [hwo154]; exact (L139.out.s3 (b := v6.heap.size) (by omega) (.bool false) (.slice xaR sz1.length xcR) (.slice yaR I0.length ycR))
  have L162 : Hid (MidC (wo122.heap.size) (v7.heap.size) wo154 (xaR) (sz1) (sz1.length)) := by rw [hwo154]; exact (L143.out.s3 (b := v6.heap.size) (by omega) (.bool false) (.slice xaR sz1.length xcR) (.slice yaR I0.length ycR))
  have L163 : Hid (MidC (wo122.heap.size) (v7.heap.size) wo154 (yaR) (I0) (I0.length)) := by rw [hwo154]; exact (L144.out.s3 (b := v6.heap.size) (by omega) (.bool false) (.slice xaR sz1.length xcR) (.slice yaR I0.length ycR))
  have hb164 : Hid (Below w.heap.size w wo154) := by rw [hwo154]; exact (bel_s3 hb142.out (B := v6.heap.size) (by omega) (.bool false) (.slice xaR sz1.length xcR) (.slice yaR I0.length ycR))
  have zwo154 : w.heap.size ≤ wo154.heap.size := hb164.out.size
  clear hwo154 l145 l146 l147 l148 l149 l150 l151 l152 l153 hb142 B134 B135 B136 B137 L138 L139 L143 L144
  refine (at_ok false xaR xcR sz1 yaR ycR I0 ba bc bs bs.length rfl _ x11 (by have := HI0.out.2.1; omega) hbl (L162.out.is (by omega)).1 (L163.out.is (by omega)).1 ((HM.out.below hb164.out).mono hb164.out.size) S PL HA ⟨HPL.out.1, HPL.out.2.1, HPL.out.2.2.1⟩).mono ?_
  rintro e v8 ⟨xaA, xcA, yaA, ycA, rfl, hXA, hYA, hB⟩
  have z165 : wo154.heap.size ≤ v8.heap.size := hB.size
  have B166 : Hid (Abx v8 (w.heap.size) (.bool c1) (.slice sa1 sz1.length sc1) (.slice da1 dz1.length dc1)) := B156.out.go hB
  have B167 : Hid (Abx v8 (w.heap.size + 1) (.bool c1) (.slice sa2 sz2.length sc2) (.slice da2 dz2.length dc2)) := B157.out.go hB
  have B168 : Hid (Abx v8 (v5.heap.size) (.bool c1) (.slice xaX sz1.length xcX) (.slice yaX X.length ycX)) := B158.out.go hB
  have B169 : Hid (Abx v8 (v6.heap.size) (.bool false) (.slice xaR sz1.length xcR) (.slice yaR I0.length ycR)) := B159.out.go hB
  have L170 : Hid (MidC (v4.heap.size) (v5.heap.size) v8 (xaX) (sz1) (xcX)) := L160.out.go (by omega) hB
  have L171 : Hid (MidC (v4.heap.size) (v5.heap.size) v8 (yaX) (X) (ycX)) := L161.out.go (by omega) hB
  have L172 : Hid (MidC (wo122.heap.size) (v7.heap.size) v8 (xaR) (sz1) (sz1.length)) := L162.out.go (by omega) hB
  have L173 : Hid (MidC (wo122.heap.size) (v7.heap.size) v8 (yaR) (I0) (I0.length)) := L163.out.go (by omega) hB
  have hb174 : Hid (Below w.heap.size w v8) := hb164.out.trans (hB.mono hb164.out.size)
  have L175 : Hid (MidC (wo154.heap.size) (v8.heap.size) v8 (xaA) (S) (xcA)) := hXA.midc
  have L176 : Hid (MidC (wo154.heap.size) (v8.heap.size) v8 (yaA) (PL) (ycA)) := hYA.midc
  clear hB hb164 B156 B157 B158 B159 L160 L161 L162 L163 hXA hYA
  clear L172 L173 B169
  have n177 := Abx.new v8 (.bool false) (.slice xaA S.length xcA) (.slice yaA PL.length ycA)
  have l178 := ((B168.out.al (.cells #[.bool false, .slice xaA S.length xcA, .slice yaA PL.length ycA] 24))).c0
  have l179 := ((B168.out.al (.cells #[.bool false, .slice xaA S.length xcA, .slice yaA PL.length ycA] 24))).c1
  have l180 := ((B168.out.al (.cells #[.bool false, .slice xaA S.length xcA, .slice yaA PL.length ycA] 24))).c2
  have l181 := ((B166.out.al (.cells #[.bool false, .slice xaA S.length xcA, .slice yaA PL.length ycA] 24))).c0
  have l182 := ((B166.out.al (.cells #[.bool false, .slice xaA S.length xcA, .slice yaA PL.length ycA] 24))).c1
  have l183 := ((B166.out.al (.cells #[.bool false, .slice xaA S.length xcA, .slice yaA PL.length ycA] 24))).c2
  go_wp2_with fail
  obtain ⟨wo184, hwo184⟩ : ∃ wo184, wo184 = (v8.alloc (.cells #[.bool false, .slice xaA S.length xcA, .slice yaA PL.length ycA] 24)) := ⟨_, rfl⟩
  rw [← hwo184]
  have z185 : v8.heap.size + 1 ≤ wo184.heap.size := by rw [hwo184]; simp only [World.size_alloc]; omega
  have B186 : Hid (Abx wo184 (w.heap.size) (.bool c1) (.slice sa1 sz1.length sc1) (.slice da1 dz1.length dc1)) := by rw [hwo184]; exact (B166.out.al (.cells #[.bool false, .slice xaA S.length xcA, .slice yaA PL.length ycA] 24))
  have B187 : Hid (Abx wo184 (w.heap.size + 1) (.bool c1) (.slice sa2 sz2.length sc2) (.slice da2 dz2.length dc2)) := by rw [hwo184]; exact (B167.out.al (.cells #[.bool false, .slice xaA S.length xcA, .slice yaA PL.length ycA] 24))
  have B188 : Hid (Abx wo184 (v5.heap.size) (.bool c1) (.slice xaX sz1.length xcX) (.slice yaX X.length ycX)) := by rw [hwo184]; exact (B168.out.al (.cells #[.bool false, .slice xaA S.length xcA, .slice yaA PL.length ycA] 24))
  have B189 : Hid (Abx wo184 (v8.heap.size) (.bool false) (.slice xaA S.length xcA) (.slice yaA PL.length ycA)) := by rw [hwo184]; exact n177
  have L190 : Hid (MidC (v4.heap.size) (v5.heap.size) wo184 (xaX) (sz1) (xcX)) := by rw [hwo184]; exact (L170.out.al (by omega) (.cells #[.bool false, .slice xaA S.length xcA, .slice yaA PL.length ycA] 24))
  have L191 : Hid (MidC (v4.heap.size) (v5.heap.size) wo184 (yaX) (X) (ycX)) := by rw [hwo184]; exact (L171.out.al (by omega) (.cells #[.bool false, .slice xaA S.length xcA, .slice yaA PL.length ycA] 24))
  have L192 : Hid (MidC (wo154.heap.size) (v8.heap.size) wo184 (xaA) (S) (xcA)) := by rw [hwo184]; exact (L175.out.al (by omega) (.cells #[.bool false, .slice xaA S.length xcA, .slice yaA PL.length ycA] 24))
  have L193 : Hid (MidC (wo154.heap.size) (v8.heap.size) wo184 (yaA) (PL) (ycA)) := by rw [hwo184]; exact (L176.out.al (by omega) (.cells #[.bool false, .slice xaA S.length xcA, .slice yaA PL.length ycA] 24))
  have hb194 : Hid (Below w.heap.size w wo184) := by rw [hwo184]; exact (hb174.out.alloc (by omega) (.cells #[.bool false, .slice xaA S.length xcA, .slice yaA PL.length ycA] 24))
  have zwo184 : w.heap.size ≤ wo184.heap.size := hb194.out.size
  clear hwo184 n177 l178 l179 l180 l181 l182 l183 hb174 B166 B167 B168 L170 L171 L175 L176
  refine (ints_any xaX xcX sz1 sa1 sc1 sz1 x11 _ _ (L190.out.is (by omega)).1 ((HI1.out.1.1.below hb194.out).mono hb194.out.size)).mono ?_
  rintro e v9 ⟨rfl, hB⟩
  have z195 : wo184.heap.size ≤ v9.heap.size := hB.size
  have B196 : Hid (Abx v9 (w.heap.size) (.bool c1) (.slice sa1 sz1.length sc1) (.slice da1 dz1.length dc1)) := B186.out.go hB
  have B197 : Hid (Abx v9 (w.heap.size + 1) (.bool c1) (.slice sa2 sz2.length sc2) (.slice da2 dz2.length dc2)) := B187.out.go hB
  have B198 : Hid (Abx v9 (v5.heap.size) (.bool c1) (.slice xaX sz1.length xcX) (.slice yaX X.length ycX)) := B188.out.go hB
  have B199 : Hid (Abx v9 (v8.heap.size) (.bool false) (.slice xaA S.length xcA) (.slice yaA PL.length ycA)) := B189.out.go hB
  have L200 : Hid (MidC (v4.heap.size) (v5.heap.size) v9 (xaX) (sz1) (xcX)) := L190.out.go (by omega) hB
  have L201 : Hid (MidC (v4.heap.size) (v5.heap.size) v9 (yaX) (X) (ycX)) := L191.out.go (by omega) hB
  have L202 : Hid (MidC (wo154.heap.size) (v8.heap.size) v9 (xaA) (S) (xcA)) := L192.out.go (by omega) hB
  have L203 : Hid (MidC (wo154.heap.size) (v8.heap.size) v9 (yaA) (PL) (ycA)) := L193.out.go (by omega) hB
  have hb204 : Hid (Below w.heap.size w v9) := hb194.out.trans (hB.mono hb194.out.size)
  clear hB hb194 B186 B187 B188 B189 L190 L191 L192 L193
  rw [eqB_true rfl]
  have tl : ((X.length : Int) != (dz1.length : Int)) = false := by rw [HX.out.2]; simp
  have tc : (c1 == c1) = true := by simp
  have l205 := (B198.out).c0
  have l206 := (B198.out).c1
  have l207 := (B198.out).c2
  have l208 := (B196.out).c0
  have l209 := (B196.out).c1
  have l210 := (B196.out).c2
  go_wp2_with fail
  clear l205 l206 l207 l208 l209 l210 tl tc
  go_loopw [18] (fun i wr => ∃ k : Nat, k ≤ dz1.length ∧ i = .int .i64 k ∧ Below v9.heap.size v9 wr) (fun i _ => dz1.length - (intOf i).toNat)
  case atStart => exact ⟨0, Nat.zero_le _, rfl, Below.refl _ _⟩
  case round =>
    obtain ⟨k, hk, rfl, hBv⟩ := hrel
    have HBv : Hid (Below v9.heap.size v9 wr) := hBv
    have z211 : v9.heap.size ≤ wr.heap.size := hBv.size
    have B212 : Hid (Abx wr (w.heap.size) (.bool c1) (.slice sa1 sz1.length sc1) (.slice da1 dz1.length dc1)) := B196.out.go hBv
    have B213 : Hid (Abx wr (w.heap.size + 1) (.bool c1) (.slice sa2 sz2.length sc2) (.slice da2 dz2.length dc2)) := B197.out.go hBv
    have B214 : Hid (Abx wr (v5.heap.size) (.bool c1) (.slice xaX sz1.length xcX) (.slice yaX X.length ycX)) := B198.out.go hBv
    have B215 : Hid (Abx wr (v8.heap.size) (.bool false) (.slice xaA S.length xcA) (.slice yaA PL.length ycA)) := B199.out.go hBv
    have L216 : Hid (MidC (v4.heap.size) (v5.heap.size) wr (xaX) (sz1) (xcX)) := L200.out.go (by omega) hBv
    have L217 : Hid (MidC (v4.heap.size) (v5.heap.size) wr (yaX) (X) (ycX)) := L201.out.go (by omega) hBv
    have L218 : Hid (MidC (wo154.heap.size) (v8.heap.size) wr (xaA) (S) (xcA)) := L202.out.go (by omega) hBv
    have L219 : Hid (MidC (wo154.heap.size) (v8.heap.size) wr (yaA) (PL) (ycA)) := L203.out.go (by omega) hBv
    have hb220 : Hid (Below w.heap.size w wr) := hb204.out.trans (hBv.mono hb204.out.size)
    clear hBv hb204 B196 B197 B198 B199 L200 L201 L202 L203
    by_cases hlt : k < dz1.length
    · have hkX : k < X.length := by rw [HX.out.2]; exact hlt
      rcases HOR.out k hlt with ⟨hn, hp⟩ | ⟨hn, hp⟩
      · have HN : Hid (hasB false PL false (k : Int) = true) := hn
        have HP : Hid (hasB c1 dz2 c1 (nth X k) = true) := hp
        clear hn hp
        have l221 := (B212.out).c0
        have l222 := (B212.out).c1
        have l223 := (B212.out).c2
        have l224 := (B215.out).c0
        have l225 := (B215.out).c1
        have l226 := (B215.out).c2
        go_wp2_with fail
        clear l221 l222 l223 l224 l225 l226
        have h := has_any false xaA xcA S yaA ycA PL false (k : Int) (by have := HPL.out.2.2.2.2; omega) wr (L219.out.is (by omega)).1
        rw [HN.out] at h
        refine h.mono ?_
        clear h
        rintro e y9 ⟨rfl, hB9⟩
        have HB9 : Hid (Below wr.heap.size wr y9) := hB9
        have z227 : wr.heap.size ≤ y9.heap.size := hB9.size
        have B228 : Hid (Abx y9 (w.heap.size) (.bool c1) (.slice sa1 sz1.length sc1) (.slice da1 dz1.length dc1)) := B212.out.go hB9
        have B229 : Hid (Abx y9 (w.heap.size + 1) (.bool c1) (.slice sa2 sz2.length sc2) (.slice da2 dz2.length dc2)) := B213.out.go hB9
        have B230 : Hid (Abx y9 (v5.heap.size) (.bool c1) (.slice xaX sz1.length xcX) (.slice yaX X.length ycX)) := B214.out.go hB9
        have B231 : Hid (Abx y9 (v8.heap.size) (.bool false) (.slice xaA S.length xcA) (.slice yaA PL.length ycA)) := B215.out.go hB9
        have L232 : Hid (MidC (v4.heap.size) (v5.heap.size) y9 (xaX) (sz1) (xcX)) := L216.out.go (by omega) hB9
        have L233 : Hid (MidC (v4.heap.size) (v5.heap.size) y9 (yaX) (X) (ycX)) := L217.out.go (by omega) hB9
        have L234 : Hid (MidC (wo154.heap.size) (v8.heap.size) y9 (xaA) (S) (xcA)) := L218.out.go (by omega) hB9
        have L235 : Hid (MidC (wo154.heap.size) (v8.heap.size) y9 (yaA) (PL) (ycA)) := L219.out.go (by omega) hB9
        have hb236 : Hid (Below w.heap.size w y9) := hb220.out.trans (hB9.mono hb220.out.size)
        clear hB9 hb220 B212 B213 B214 B215 L216 L217 L218 L219
        have v0 := B229.out.c0
        have v1 := B229.out.c1
        have v2 := B229.out.c2
        have a0 := B228.out.c0
        have x2 := B230.out.c2
        obtain ⟨bX, oX, rfl, _, hcX⟩ := (L233.out.is (by omega)).1.at hkX
        have cX := hcX k hkX
        clear hcX
        go_wp2_with fail
        refine anyT_begin 9 (fun w' => w'.cell? ⟨w.heap.size + 1, 0, none⟩ = some (.bool c1) ∧ w'.cell? ⟨w.heap.size + 1, 1, none⟩ = some (.slice sa2 sz2.length sc2) ∧ w'.cell? ⟨w.heap.size + 1, 2, none⟩ = some (.slice da2 dz2.length dc2) ∧ w'.cell? ⟨w.heap.size, 0, none⟩ = some (.bool c1) ∧ w'.cell? ⟨v5.heap.size, 2, none⟩ = some (.slice (some ⟨bX, oX, none⟩) X.length ycX) ∧ w'.cell? ⟨bX, oX + k, none⟩ = some (.int .i64 (nth X k))) 10 #[false, false, false, false, false, false, false, false, false, false] (by kernel_rfl) rfl rfl ?_
        refine anyT_take 0 116 ?rv0 #[true, false, false, false, false, false, false, false, false, false] rfl rfl rfl (by kernel_rfl) (by kernel_rfl) (by kernel_rfl) (fun _ _ _ h => h) (by kernel_rfl) (by decide) (by kernel_rfl) ?ry0 (⟨v0, v1, v2, a0, x2, cX⟩) ?rm0
        case ry0 => first | exact Or.inl ⟨by rfl, by intro w' hw'; (try dsimp only at hw'); go_simp; first | done | rfl⟩
        case rm0 =>
        simp only [Act.put, List.setIfInBounds_toArray, List.set_cons_zero, List.set_cons_succ]
        refine anyT_put 1 117 ?rv1 #[true, true, false, false, false, false, false, false, false, false] rfl rfl rfl (by kernel_rfl) (by kernel_rfl) (by kernel_rfl) (fun _ _ _ h => h) (by decide) ?ry1 (fun _ => ⟨v0, v1, v2, a0, x2, cX⟩) ?rm1
        case ry1 => first | exact Or.inl ⟨by rfl, by intro w'; go_simp; first | done | rfl⟩
        case rm1 =>
        simp only [Act.put, List.setIfInBounds_toArray, List.set_cons_zero, List.set_cons_succ]
        refine anyT_take 2 118 ?rv2 #[true, true, true, false, false, false, false, false, false, false] rfl rfl rfl (by kernel_rfl) (by kernel_rfl) (by kernel_rfl) (fun _ _ _ h => h) (by kernel_rfl) (by decide) (by kernel_rfl) ?ry2 (⟨v0, v1, v2, a0, x2, cX⟩) ?rm2
        case ry2 => first | exact Or.inl ⟨by rfl, by intro w' hw'; (try dsimp only at hw'); go_simp; first | done | rfl⟩
        case rm2 =>
        simp only [Act.put, List.setIfInBounds_toArray, List.set_cons_zero, List.set_cons_succ]
        refine anyT_put 3 119 ?rv3 #[true, true, true, true, false, false, false, false, false, false] rfl rfl rfl (by kernel_rfl) (by kernel_rfl) (by kernel_rfl) (fun _ _ _ h => h) (by decide) ?ry3 (fun _ => ⟨v0, v1, v2, a0, x2, cX⟩) ?rm3
        case ry3 => first | exact Or.inl ⟨by rfl, by intro w'; go_simp; first | done | rfl⟩
        case rm3 =>
        simp only [Act.put, List.setIfInBounds_toArray, List.set_cons_zero, List.set_cons_succ]
        refine anyT_take 4 120 ?rv4 #[true, true, true, true, true, false, false, false, false, false] rfl rfl rfl (by kernel_rfl) (by kernel_rfl) (by kernel_rfl) (fun _ _ _ h => h) (by kernel_rfl) (by decide) (by kernel_rfl) ?ry4 (⟨v0, v1, v2, a0, x2, cX⟩) ?rm4
        case ry4 => first | exact Or.inl ⟨by rfl, by intro w' hw'; (try dsimp only at hw'); go_simp; first | done | rfl⟩
        case rm4 =>
        simp only [Act.put, List.setIfInBounds_toArray, List.set_cons_zero, List.set_cons_succ]
        refine anyT_put 5 121 ?rv5 #[true, true, true, true, true, true, false, false, false, false] rfl rfl rfl (by kernel_rfl) (by kernel_rfl) (by kernel_rfl) (fun _ _ _ h => h) (by decide) ?ry5 (fun _ => ⟨v0, v1, v2, a0, x2, cX⟩) ?rm5
        case ry5 => first | exact Or.inl ⟨by rfl, by intro w'; go_simp; first | done | rfl⟩
        case rm5 =>
        simp only [Act.put, List.setIfInBounds_toArray, List.set_cons_zero, List.set_cons_succ]
        refine anyT_put 6 122 ?rv6 #[true, true, true, true, true, true, true, false, false, false] rfl rfl rfl (by kernel_rfl) (by kernel_rfl) (by kernel_rfl) (fun _ _ _ h => h) (by decide) ?ry6 (fun _ => ⟨v0, v1, v2, a0, x2, cX⟩) ?rm6
        case ry6 => first | exact Or.inl ⟨by rfl, by intro w'; go_simp; first | done | rfl⟩
        case rm6 =>
        simp only [Act.put, List.setIfInBounds_toArray, List.set_cons_zero, List.set_cons_succ]
        refine anyT_take 7 123 ?rv7 #[true, true, true, true, true, true, true, true, false, false] rfl rfl rfl (by kernel_rfl) (by kernel_rfl) (by kernel_rfl) (fun _ _ _ h => h) (by kernel_rfl) (by decide) (by kernel_rfl) ?ry7 (⟨v0, v1, v2, a0, x2, cX⟩) ?rm7
        case ry7 => first | exact Or.inl ⟨by rfl, by intro w' hw'; (try dsimp only at hw'); go_simp; first | done | rfl⟩
        case rm7 =>
        simp only [Act.put, List.setIfInBounds_toArray, List.set_cons_zero, List.set_cons_succ]
        refine anyT_one 8 #[true, true, true, true, true, true, true, true, true, false] (by kernel_rfl) rfl rfl (fun K hK => ?_)
        go_simp
        have hh := has_any c1 sa2 sc2 sz2 da2 dc2 dz2 c1 (nth X k) x22 y9.drew ((HI2.out.2.1.1.below hb236.out).mono hb236.out.size)
        rw [HP.out] at hh
        go_wp2_with (go_at_call 14; refine hh.mono ?_; rintro e w2 ⟨rfl, hB2⟩)
        clear hh
        have hB2' : Below y9.heap.size y9 w2 := (Below.refl y9.heap.size y9).drew.trans hB2
        have E1 := B229.out.go hB2'
        have E2 := B228.out.go hB2'
        have E3 := B230.out.go hB2'
        have E4 : w2.cell? ⟨bX, oX + k, none⟩ = some (.int .i64 (nth X k)) := (hB2'.cell (p := ⟨bX, oX + k, none⟩) (by show bX < y9.heap.size; assumption)).trans cX
        refine hK.out _ _ (fun _ => ⟨E1.c0, E1.c1, E1.c2, E2.c0, E3.c2, E4⟩) ?_
        clear hK K
        refine anyT_one 9 #[true, true, true, true, true, true, true, true, true, true] (by kernel_rfl) rfl rfl (fun K hK => ?_)
        go_simp
        refine hK.out _ _ (fun h => absurd h (by decide)) ?_
        clear hK K
        refine anyT_done (by kernel_rfl) ?_
        have HE : Hid (Below y9.heap.size y9 w2) := hB2'
        have s2 := E2.c2
        have s3 := E3.c2
        clear hB2 hB2' E1 E2 v0 v1 v2 a0 x2 cX
        go_wp2_with fail
        go_quiet (fail)
        go_wp2_with fail
        refine ⟨⟨k + 1, by omega, by go_num, bel_drewN ((HBv.out.trans (HB9.out.mono HBv.out.size)).trans (HE.out.mono (HBv.out.trans (HB9.out.mono HBv.out.size)).size)) _⟩, by simp [intOf]; omega⟩
      · have HN : Hid (hasB false PL false (k : Int) = false) := hn
        have HP : Hid (nth X k = nth dz1 k) := hp
        obtain ⟨pv, hpv⟩ : ∃ pv, pv = hasB c1 dz2 c1 (nth X k) := ⟨_, rfl⟩
        have HPV : Hid (hasB c1 dz2 c1 (nth X k) = pv) := hpv.symm
        clear hpv
        clear hn hp
        have l237 := (B212.out).c0
        have l238 := (B212.out).c1
        have l239 := (B212.out).c2
        have l240 := (B215.out).c0
        have l241 := (B215.out).c1
        have l242 := (B215.out).c2
        go_wp2_with fail
        clear l237 l238 l239 l240 l241 l242
        have h := has_any false xaA xcA S yaA ycA PL false (k : Int) (by have := HPL.out.2.2.2.2; omega) wr (L219.out.is (by omega)).1
        rw [HN.out] at h
        refine h.mono ?_
        clear h
        rintro e y9 ⟨rfl, hB9⟩
        have HB9 : Hid (Below wr.heap.size wr y9) := hB9
        have z243 : wr.heap.size ≤ y9.heap.size := hB9.size
        have B244 : Hid (Abx y9 (w.heap.size) (.bool c1) (.slice sa1 sz1.length sc1) (.slice da1 dz1.length dc1)) := B212.out.go hB9
        have B245 : Hid (Abx y9 (w.heap.size + 1) (.bool c1) (.slice sa2 sz2.length sc2) (.slice da2 dz2.length dc2)) := B213.out.go hB9
        have B246 : Hid (Abx y9 (v5.heap.size) (.bool c1) (.slice xaX sz1.length xcX) (.slice yaX X.length ycX)) := B214.out.go hB9
        have B247 : Hid (Abx y9 (v8.heap.size) (.bool false) (.slice xaA S.length xcA) (.slice yaA PL.length ycA)) := B215.out.go hB9
        have L248 : Hid (MidC (v4.heap.size) (v5.heap.size) y9 (xaX) (sz1) (xcX)) := L216.out.go (by omega) hB9
        have L249 : Hid (MidC (v4.heap.size) (v5.heap.size) y9 (yaX) (X) (ycX)) := L217.out.go (by omega) hB9
        have L250 : Hid (MidC (wo154.heap.size) (v8.heap.size) y9 (xaA) (S) (xcA)) := L218.out.go (by omega) hB9
        have L251 : Hid (MidC (wo154.heap.size) (v8.heap.size) y9 (yaA) (PL) (ycA)) := L219.out.go (by omega) hB9
        have hb252 : Hid (Below w.heap.size w y9) := hb220.out.trans (hB9.mono hb220.out.size)
        clear hB9 hb220 B212 B213 B214 B215 L216 L217 L218 L219
        have v0 := B245.out.c0
        have v1 := B245.out.c1
        have v2 := B245.out.c2
        have a0 := B244.out.c0
        have x2 := B246.out.c2
        obtain ⟨bX, oX, rfl, _, hcX⟩ := (L249.out.is (by omega)).1.at hkX
        have cX := hcX k hkX
        clear hcX
        go_wp2_with fail
        refine anyT_begin 9 (fun w' => w'.cell? ⟨w.heap.size + 1, 0, none⟩ = some (.bool c1) ∧ w'.cell? ⟨w.heap.size + 1, 1, none⟩ = some (.slice sa2 sz2.length sc2) ∧ w'.cell? ⟨w.heap.size + 1, 2, none⟩ = some (.slice da2 dz2.length dc2) ∧ w'.cell? ⟨w.heap.size, 0, none⟩ = some (.bool c1) ∧ w'.cell? ⟨v5.heap.size, 2, none⟩ = some (.slice (some ⟨bX, oX, none⟩) X.length ycX) ∧ w'.cell? ⟨bX, oX + k, none⟩ = some (.int .i64 (nth X k))) 10 #[false, false, false, false, false, false, false, false, false, false] (by kernel_rfl) rfl rfl ?_
        refine anyT_take 0 116 ?rv10 #[true, false, false, false, false, false, false, false, false, false] rfl rfl rfl (by kernel_rfl) (by kernel_rfl) (by kernel_rfl) (fun _ _ _ h => h) (by kernel_rfl) (by decide) (by kernel_rfl) ?ry10 (⟨v0, v1, v2, a0, x2, cX⟩) ?rm10
        case ry10 => first | exact Or.inl ⟨by rfl, by intro w' hw'; (try dsimp only at hw'); go_simp; first | done | rfl⟩
        case rm10 =>
        simp only [Act.put, List.setIfInBounds_toArray, List.set_cons_zero, List.set_cons_succ]
        refine anyT_put 1 117 ?rv11 #[true, true, false, false, false, false, false, false, false, false] rfl rfl rfl (by kernel_rfl) (by kernel_rfl) (by kernel_rfl) (fun _ _ _ h => h) (by decide) ?ry11 (fun _ => ⟨v0, v1, v2, a0, x2, cX⟩) ?rm11
        case ry11 => first | exact Or.inl ⟨by rfl, by intro w'; go_simp; first | done | rfl⟩
        case rm11 =>
        simp only [Act.put, List.setIfInBounds_toArray, List.set_cons_zero, List.set_cons_succ]
        refine anyT_take 2 118 ?rv12 #[true, true, true, false, false, false, false, false, false, false] rfl rfl rfl (by kernel_rfl) (by kernel_rfl) (by kernel_rfl) (fun _ _ _ h => h) (by kernel_rfl) (by decide) (by kernel_rfl) ?ry12 (⟨v0, v1, v2, a0, x2, cX⟩) ?rm12
        case ry12 => first | exact Or.inl ⟨by rfl, by intro w' hw'; (try dsimp only at hw'); go_simp; first | done | rfl⟩
        case rm12 =>
        simp only [Act.put, List.setIfInBounds_toArray, List.set_cons_zero, List.set_cons_succ]
        refine anyT_put 3 119 ?rv13 #[true, true, true, true, false, false, false, false, false, false] rfl rfl rfl (by kernel_rfl) (by kernel_rfl) (by kernel_rfl) (fun _ _ _ h => h) (by decide) ?ry13 (fun _ => ⟨v0, v1, v2, a0, x2, cX⟩) ?rm13
        case ry13 => first | exact Or.inl ⟨by rfl, by intro w'; go_simp; first | done | rfl⟩
        case rm13 =>
        simp only [Act.put, List.setIfInBounds_toArray, List.set_cons_zero, List.set_cons_succ]
        refine anyT_take 4 120 ?rv14 #[true, true, true, true, true, false, false, false, false, false] rfl rfl rfl (by kernel_rfl) (by kernel_rfl) (by kernel_rfl) (fun _ _ _ h => h) (by kernel_rfl) (by decide) (by kernel_rfl) ?ry14 (⟨v0, v1, v2, a0, x2, cX⟩) ?rm14
        case ry14 => first | exact Or.inl ⟨by rfl, by intro w' hw'; (try dsimp only at hw'); go_simp; first | done | rfl⟩
        case rm14 =>
        simp only [Act.put, List.setIfInBounds_toArray, List.set_cons_zero, List.set_cons_succ]
        refine anyT_put 5 121 ?rv15 #[true, true, true, true, true, true, false, false, false, false] rfl rfl rfl (by kernel_rfl) (by kernel_rfl) (by kernel_rfl) (fun _ _ _ h => h) (by decide) ?ry15 (fun _ => ⟨v0, v1, v2, a0, x2, cX⟩) ?rm15
        case ry15 => first | exact Or.inl ⟨by rfl, by intro w'; go_simp; first | done | rfl⟩
        case rm15 =>
        simp only [Act.put, List.setIfInBounds_toArray, List.set_cons_zero, List.set_cons_succ]
        refine anyT_put 6 122 ?rv16 #[true, true, true, true, true, true, true, false, false, false] rfl rfl rfl (by kernel_rfl) (by kernel_rfl) (by kernel_rfl) (fun _ _ _ h => h) (by decide) ?ry16 (fun _ => ⟨v0, v1, v2, a0, x2, cX⟩) ?rm16
        case ry16 => first | exact Or.inl ⟨by rfl, by intro w'; go_simp; first | done | rfl⟩
        case rm16 =>
        simp only [Act.put, List.setIfInBounds_toArray, List.set_cons_zero, List.set_cons_succ]
        refine anyT_take 7 123 ?rv17 #[true, true, true, true, true, true, true, true, false, false] rfl rfl rfl (by kernel_rfl) (by kernel_rfl) (by kernel_rfl) (fun _ _ _ h => h) (by kernel_rfl) (by decide) (by kernel_rfl) ?ry17 (⟨v0, v1, v2, a0, x2, cX⟩) ?rm17
        case ry17 => first | exact Or.inl ⟨by rfl, by intro w' hw'; (try dsimp only at hw'); go_simp; first | done | rfl⟩
        case rm17 =>
        simp only [Act.put, List.setIfInBounds_toArray, List.set_cons_zero, List.set_cons_succ]
        refine anyT_one 8 #[true, true, true, true, true, true, true, true, true, false] (by kernel_rfl) rfl rfl (fun K hK => ?_)
        go_simp
        have hh := has_any c1 sa2 sc2 sz2 da2 dc2 dz2 c1 (nth X k) x22 y9.drew ((HI2.out.2.1.1.below hb252.out).mono hb252.out.size)
        rw [HPV.out] at hh
        go_wp2_with (go_at_call 14; refine hh.mono ?_; rintro e w2 ⟨rfl, hB2⟩)
        clear hh
        have hB2' : Below y9.heap.size y9 w2 := (Below.refl y9.heap.size y9).drew.trans hB2
        have E1 := B245.out.go hB2'
        have E2 := B244.out.go hB2'
        have E3 := B246.out.go hB2'
        have E4 : w2.cell? ⟨bX, oX + k, none⟩ = some (.int .i64 (nth X k)) := (hB2'.cell (p := ⟨bX, oX + k, none⟩) (by show bX < y9.heap.size; assumption)).trans cX
        refine hK.out _ _ (fun _ => ⟨E1.c0, E1.c1, E1.c2, E2.c0, E3.c2, E4⟩) ?_
        clear hK K
        refine anyT_one 9 #[true, true, true, true, true, true, true, true, true, true] (by kernel_rfl) rfl rfl (fun K hK => ?_)
        go_simp
        refine hK.out _ _ (fun h => absurd h (by decide)) ?_
        clear hK K
        refine anyT_done (by kernel_rfl) ?_
        have HE : Hid (Below y9.heap.size y9 w2) := hB2'
        have s2 := E2.c2
        have s3 := E3.c2
        clear hB2 hB2' E1 E2 v0 v1 v2 a0 x2 cX
        rw [HP.out] at E4
        obtain ⟨bd, od, rfl, hbd, hcD⟩ := (HI1.out.2.1.1.below (hb252.out.trans (HE.out.mono hb252.out.size))).at hlt
        have cd := hcD k hlt
        have te : (nth dz1 k != nth dz1 k) = false := by simp
        clear hcD
        go_wp2_with fail
        go_quiet (fail)
        go_wp2_with fail
        refine ⟨⟨k + 1, by omega, by go_num, bel_drewN ((HBv.out.trans (HB9.out.mono HBv.out.size)).trans (HE.out.mono (HBv.out.trans (HB9.out.mono HBv.out.size)).size)) _⟩, by simp [intOf]; omega⟩
    · obtain rfl : k = dz1.length := by omega
      have l253 := (B212.out).c0
      have l254 := (B212.out).c1
      have l255 := (B212.out).c2
      go_wp2_with fail
      clear l253 l254 l255
      go_ret
      exact ⟨rfl, hb220.out⟩
theorem pothers_walk (HA : CAt) (HPt : CPt) (c1 : Bool) (sa1 : Option Addr) (sc1 : Nat) (sz1 : List Int) (da1 : Option Addr) (dc1 : Nat) (dz1 : List Int) (ba : Option Addr) (bc : Nat) (bs : List ArV) (hbl : bs.length ≤ 9223372036854775807) (c2 : Bool) (sa2 : Option Addr) (sc2 : Nat) (sz2 : List Int) (da2 : Option Addr) (dc2 : Nat) (dz2 : List Int) (w : World) (w8 : IsArrD w sa1 sz1 sc1 da1 dz1 dc1) (w9 : IsArrD w sa2 sz2 sc2 da2 dz2 dc2) (hbs : IsAs w.heap.size w ba bs) :
    Calls Try.prog 5 #[.agg #[.bool c1, .slice sa1 sz1.length sc1, .slice da1 dz1.length dc1], .slice ba bs.length bc, .agg #[.bool c2, .slice sa2 sz2.length sc2, .slice da2 dz2.length dc2]] w fun e w' => e = .returned (.bool true) ∧ Below w.heap.size w w' := by
  by_cases h1 : ptE c1 sz1 dz1 (bya bs) c2 sz2 dz2 = 0
  · exact others_ok HA HPt c1 sa1 sc1 sz1 da1 dc1 dz1 ba bc bs hbl c2 sa2 sc2 sz2 da2 dc2 dz2 w w8 w9 hbs h1
  · exact others_no HA HPt c1 sa1 sc1 sz1 da1 dc1 dz1 ba bc bs hbl c2 sa2 sc2 sz2 da2 dc2 dz2 w w8 w9 hbs h1
end Go.Proofs.Ytlflacoiidhgoaa
