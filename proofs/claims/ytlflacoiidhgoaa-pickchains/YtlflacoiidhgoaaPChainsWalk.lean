/-
  The walk of the statement PickChains, given what the program tells.
-/
import Derived.Test.YtlflacoiidhgoaaPatw
import Derived.Test.YtlflacoiidhgoaaSarr
import Derived.Test.YtlflacoiidhgoaaVec
namespace Go.Proofs.Ytlflacoiidhgoaa
open Go.RowKit
set_option linter.unusedVariables false

theorem emp_no (bys : List Ar) : pkE false [] [] bys ≠ 0 := fun h => absurd (pkE_zero.1 h).1 (by decide)
set_option maxRecDepth 100000 in
set_option maxHeartbeats 8000000 in
theorem chains_no1 (HA : CAt) (c1 : Bool) (sa1 : Option Addr) (sc1 : Nat) (sz1 : List Int) (da1 : Option Addr) (dc1 : Nat) (dz1 : List Int) (c2 : Bool) (sa2 : Option Addr) (sc2 : Nat) (sz2 : List Int) (da2 : Option Addr) (dc2 : Nat) (dz2 : List Int) (ba : Option Addr) (bc : Nat) (bs : List ArV) (hbl : bs.length ≤ 9223372036854775807) (w : World) (w8 : IsArrD w sa1 sz1 sc1 da1 dz1 dc1) (w9 : IsArrD w sa2 sz2 sc2 da2 dz2 dc2) (hbs : IsAs w.heap.size w ba bs) (F1 : Hid (pkE c1 sz1 dz1 [(c2, (sz2, dz2))] ≠ 0)) :
    Calls Try.prog 4 #[.agg #[.bool c1, .slice sa1 sz1.length sc1, .slice da1 dz1.length dc1], .agg #[.bool c2, .slice sa2 sz2.length sc2, .slice da2 dz2.length dc2], .slice ba bs.length bc] w fun e w' => e = .returned (.bool true) ∧ Below w.heap.size w w' := by
  obtain ⟨x11, x12, x3, x4, s64, T⟩ := w8
  have HI1 : Hid (IsC w.heap.size w sa1 sz1 sc1 ∧ IsC w.heap.size w da1 dz1 dc1 ∧ (∀ j, In64 (nth sz1 j)) ∧ ∀ j, In64 (nth dz1 j)) := ⟨x3, x4, s64, T⟩
  clear x3 x4 T s64
  obtain ⟨x21, x22, x3, x4, s64, T⟩ := w9
  have HI2 : Hid (IsC w.heap.size w sa2 sz2 sc2 ∧ IsC w.heap.size w da2 dz2 dc2 ∧ (∀ j, In64 (nth sz2 j)) ∧ ∀ j, In64 (nth dz2 j)) := ⟨x3, x4, s64, T⟩
  clear x3 x4 T s64
  have HM : Hid (IsAs w.heap.size w ba bs) := hbs
  clear hbs
  have n1 := Abx.new w (.bool c1) (.slice sa1 sz1.length sc1) (.slice da1 dz1.length dc1)
  have n2 := Abx.new (w.alloc (.cells #[.bool c1, .slice sa1 sz1.length sc1, .slice da1 dz1.length dc1] 24)) (.bool c2) (.slice sa2 sz2.length sc2) (.slice da2 dz2.length dc2)
  simp only [World.size_alloc] at n2
  have n3 := lit_mid ((w.alloc (.cells #[.bool c1, .slice sa1 sz1.length sc1, .slice da1 dz1.length dc1] 24)).alloc (.cells #[.bool c2, .slice sa2 sz2.length sc2, .slice da2 dz2.length dc2] 24)) 3 [4, 5, 6] 3 rfl
  simp only [World.size_alloc, List.map_cons, List.map_nil] at n3
  go_enter Try.func4, Try.ntmps4
  go_wp2_with fail
  obtain ⟨wo4, hwo4⟩ : ∃ wo4, wo4 = (((w.alloc (.cells #[.bool c1, .slice sa1 sz1.length sc1, .slice da1 dz1.length dc1] 24)).alloc (.cells #[.bool c2, .slice sa2 sz2.length sc2, .slice da2 dz2.length dc2] 24)).alloc (.cells #[.int .i64 4, .int .i64 5, .int .i64 6] 3)) := ⟨_, rfl⟩
  rw [← hwo4]
  have z5 : w.heap.size + 1 + 1 + 1 ≤ wo4.heap.size := by rw [hwo4]; simp only [World.size_alloc]; omega
  have B6 : Hid (Abx wo4 (w.heap.size) (.bool c1) (.slice sa1 sz1.length sc1) (.slice da1 dz1.length dc1)) := by rw [hwo4]; exact ((n1.al (.cells #[.bool c2, .slice sa2 sz2.length sc2, .slice da2 dz2.length dc2] 24)).al (.cells #[.int .i64 4, .int .i64 5, .int .i64 6] 3))
  have B7 : Hid (Abx wo4 (w.heap.size + 1) (.bool c2) (.slice sa2 sz2.length sc2) (.slice da2 dz2.length dc2)) := by rw [hwo4]; exact (n2.al (.cells #[.int .i64 4, .int .i64 5, .int .i64 6] 3))
  have L8 : Hid (MidC (w.heap.size + 1 + 1) (w.heap.size + 1 + 1 + 1) wo4 (some ⟨w.heap.size + 1 + 1, 0, none⟩) ([4, 5, 6]) (3)) := by rw [hwo4]; exact n3
  have hb9 : Hid (Below w.heap.size w wo4) := by rw [hwo4]; exact ((((Below.refl w.heap.size w).alloc (by omega) (.cells #[.bool c1, .slice sa1 sz1.length sc1, .slice da1 dz1.length dc1] 24)).alloc (by simp only [World.size_alloc]; omega) (.cells #[.bool c2, .slice sa2 sz2.length sc2, .slice da2 dz2.length dc2] 24)).alloc (by simp only [World.size_alloc]; omega) (.cells #[.int .i64 4, .int .i64 5, .int .i64 6] 3))
  have zwo4 : w.heap.size ≤ wo4.heap.size := hb9.out.size
  clear hwo4 n1 n2 n3
  refine (vec_c (some ⟨w.heap.size + 1 + 1, 0, none⟩) 3 [4, 5, 6] (by simp) _ (L8.out.is (by omega)).1).mono ?_
  rintro e v1 ⟨vap, vcp, gap, gcp, rfl, hVp, hGp, hB⟩
  have z10 : wo4.heap.size ≤ v1.heap.size := hB.size
  have B11 : Hid (Abx v1 (w.heap.size) (.bool c1) (.slice sa1 sz1.length sc1) (.slice da1 dz1.length dc1)) := B6.out.go hB
  have B12 : Hid (Abx v1 (w.heap.size + 1) (.bool c2) (.slice sa2 sz2.length sc2) (.slice da2 dz2.length dc2)) := B7.out.go hB
  have L13 : Hid (MidC (w.heap.size + 1 + 1) (w.heap.size + 1 + 1 + 1) v1 (some ⟨w.heap.size + 1 + 1, 0, none⟩) ([4, 5, 6]) (3)) := L8.out.go (by omega) hB
  have hb14 : Hid (Below w.heap.size w v1) := hb9.out.trans (hB.mono hb9.out.size)
  have L15 : Hid (MidC (wo4.heap.size) (v1.heap.size) v1 (vap) ([(3 : Int)]) (vcp)) := hVp.midc
  have L16 : Hid (MidC (wo4.heap.size) (v1.heap.size) v1 (gap) ([4, 5, 6]) (gcp)) := hGp.midc
  clear hB hb9 B6 B7 L8 hVp hGp
  clear L13
  have n17 := lit_mid v1 3 [2, 0] 2 rfl
  simp only [List.map_cons, List.map_nil] at n17
  go_wp2_with fail
  obtain ⟨wo18, hwo18⟩ : ∃ wo18, wo18 = (v1.alloc (.cells #[.int .i64 2, .int .i64 0] 3)) := ⟨_, rfl⟩
  rw [← hwo18]
  have z19 : v1.heap.size + 1 ≤ wo18.heap.size := by rw [hwo18]; simp only [World.size_alloc]; omega
  have B20 : Hid (Abx wo18 (w.heap.size) (.bool c1) (.slice sa1 sz1.length sc1) (.slice da1 dz1.length dc1)) := by rw [hwo18]; exact (B11.out.al (.cells #[.int .i64 2, .int .i64 0] 3))
  have B21 : Hid (Abx wo18 (w.heap.size + 1) (.bool c2) (.slice sa2 sz2.length sc2) (.slice da2 dz2.length dc2)) := by rw [hwo18]; exact (B12.out.al (.cells #[.int .i64 2, .int .i64 0] 3))
  have L22 : Hid (MidC (wo4.heap.size) (v1.heap.size) wo18 (vap) ([(3 : Int)]) (vcp)) := by rw [hwo18]; exact (L15.out.al (by omega) (.cells #[.int .i64 2, .int .i64 0] 3))
  have L23 : Hid (MidC (wo4.heap.size) (v1.heap.size) wo18 (gap) ([4, 5, 6]) (gcp)) := by rw [hwo18]; exact (L16.out.al (by omega) (.cells #[.int .i64 2, .int .i64 0] 3))
  have L24 : Hid (MidC (v1.heap.size) (v1.heap.size + 1) wo18 (some ⟨v1.heap.size, 0, none⟩) ([2, 0]) (2)) := by rw [hwo18]; exact n17
  have hb25 : Hid (Below w.heap.size w wo18) := by rw [hwo18]; exact (hb14.out.alloc (by omega) (.cells #[.int .i64 2, .int .i64 0] 3))
  have zwo18 : w.heap.size ≤ wo18.heap.size := hb25.out.size
  clear hwo18 n17 hb14 B11 B12 L15 L16
  refine (vec_c (some ⟨v1.heap.size, 0, none⟩) 2 [2, 0] (by simp) _ (L24.out.is (by omega)).1).mono ?_
  rintro e v2 ⟨vaq, vcq, gaq, gcq, rfl, hVq, hGq, hB⟩
  have z26 : wo18.heap.size ≤ v2.heap.size := hB.size
  have B27 : Hid (Abx v2 (w.heap.size) (.bool c1) (.slice sa1 sz1.length sc1) (.slice da1 dz1.length dc1)) := B20.out.go hB
  have B28 : Hid (Abx v2 (w.heap.size + 1) (.bool c2) (.slice sa2 sz2.length sc2) (.slice da2 dz2.length dc2)) := B21.out.go hB
  have L29 : Hid (MidC (wo4.heap.size) (v1.heap.size) v2 (vap) ([(3 : Int)]) (vcp)) := L22.out.go (by omega) hB
  have L30 : Hid (MidC (wo4.heap.size) (v1.heap.size) v2 (gap) ([4, 5, 6]) (gcp)) := L23.out.go (by omega) hB
  have L31 : Hid (MidC (v1.heap.size) (v1.heap.size + 1) v2 (some ⟨v1.heap.size, 0, none⟩) ([2, 0]) (2)) := L24.out.go (by omega) hB
  have hb32 : Hid (Below w.heap.size w v2) := hb25.out.trans (hB.mono hb25.out.size)
  have L33 : Hid (MidC (wo18.heap.size) (v2.heap.size) v2 (vaq) ([(2 : Int)]) (vcq)) := hVq.midc
  have L34 : Hid (MidC (wo18.heap.size) (v2.heap.size) v2 (gaq) ([2, 0]) (gcq)) := hGq.midc
  clear hB hb25 B20 B21 L22 L23 L24 hVq hGq
  clear L31
  have n35 := Abx.new v2 (.bool false) (.slice vaq 1 vcq) (.slice gaq 2 gcq)
  go_wp2_with fail
  obtain ⟨wo36, hwo36⟩ : ∃ wo36, wo36 = (v2.alloc (.cells #[.bool false, .slice vaq 1 vcq, .slice gaq 2 gcq] 24)) := ⟨_, rfl⟩
  rw [← hwo36]
  have z37 : v2.heap.size + 1 ≤ wo36.heap.size := by rw [hwo36]; simp only [World.size_alloc]; omega
  have B38 : Hid (Abx wo36 (w.heap.size) (.bool c1) (.slice sa1 sz1.length sc1) (.slice da1 dz1.length dc1)) := by rw [hwo36]; exact (B27.out.al (.cells #[.bool false, .slice vaq 1 vcq, .slice gaq 2 gcq] 24))
  have B39 : Hid (Abx wo36 (w.heap.size + 1) (.bool c2) (.slice sa2 sz2.length sc2) (.slice da2 dz2.length dc2)) := by rw [hwo36]; exact (B28.out.al (.cells #[.bool false, .slice vaq 1 vcq, .slice gaq 2 gcq] 24))
  have B40 : Hid (Abx wo36 (v2.heap.size) (.bool false) (.slice vaq 1 vcq) (.slice gaq 2 gcq)) := by rw [hwo36]; exact n35
  have L41 : Hid (MidC (wo4.heap.size) (v1.heap.size) wo36 (vap) ([(3 : Int)]) (vcp)) := by rw [hwo36]; exact (L29.out.al (by omega) (.cells #[.bool false, .slice vaq 1 vcq, .slice gaq 2 gcq] 24))
  have L42 : Hid (MidC (wo4.heap.size) (v1.heap.size) wo36 (gap) ([4, 5, 6]) (gcp)) := by rw [hwo36]; exact (L30.out.al (by omega) (.cells #[.bool false, .slice vaq 1 vcq, .slice gaq 2 gcq] 24))
  have L43 : Hid (MidC (wo18.heap.size) (v2.heap.size) wo36 (vaq) ([(2 : Int)]) (vcq)) := by rw [hwo36]; exact (L33.out.al (by omega) (.cells #[.bool false, .slice vaq 1 vcq, .slice gaq 2 gcq] 24))
  have L44 : Hid (MidC (wo18.heap.size) (v2.heap.size) wo36 (gaq) ([2, 0]) (gcq)) := by rw [hwo36]; exact (L34.out.al (by omega) (.cells #[.bool false, .slice vaq 1 vcq, .slice gaq 2 gcq] 24))
  have hb45 : Hid (Below w.heap.size w wo36) := by rw [hwo36]; exact (hb32.out.alloc (by omega) (.cells #[.bool false, .slice vaq 1 vcq, .slice gaq 2 gcq] 24))
  have zwo36 : w.heap.size ≤ wo36.heap.size := hb45.out.size
  clear hwo36 n35 hb32 B27 B28 L29 L30 L33 L34
  refine (at_ok false vap vcp [(3 : Int)] gap gcp [4, 5, 6] (some ⟨v2.heap.size, 0, none⟩) 1 [(false, (((vaq, vcq), [(2 : Int)]), ((gaq, gcq), [2, 0])))] 1 rfl _ (by simp) (by simp) (by decide) (L41.out.is (by omega)) (L42.out.is (by omega)) (as_one (c := false) (sa := vaq) (sc := vcq) (sz := [(2 : Int)]) (da := gaq) (dc := gcq) (dz := [2, 0]) B40.out (by simp) (by simp) (L43.out.is (by omega)) (L44.out.is (by omega)) (lit_all (by decide)) (lit_all (by decide))) [2] [6, 4] HA (by show pkE false [(3 : Int)] [4, 5, 6] [(false, ([(2 : Int)], [2, 0]))] = 0 ∧ pkS [(false, ([(2 : Int)], [2, 0]))] = [2] ∧ pkD [(3 : Int)] [4, 5, 6] [(false, ([(2 : Int)], [2, 0]))] = [6, 4]; decide)).mono ?_
  rintro e v3 ⟨f1, g1, f2, g2, rfl, hX0, hY0, hB⟩
  have z46 : wo36.heap.size ≤ v3.heap.size := hB.size
  have B47 : Hid (Abx v3 (w.heap.size) (.bool c1) (.slice sa1 sz1.length sc1) (.slice da1 dz1.length dc1)) := B38.out.go hB
  have B48 : Hid (Abx v3 (w.heap.size + 1) (.bool c2) (.slice sa2 sz2.length sc2) (.slice da2 dz2.length dc2)) := B39.out.go hB
  have B49 : Hid (Abx v3 (v2.heap.size) (.bool false) (.slice vaq 1 vcq) (.slice gaq 2 gcq)) := B40.out.go hB
  have L50 : Hid (MidC (wo4.heap.size) (v1.heap.size) v3 (vap) ([(3 : Int)]) (vcp)) := L41.out.go (by omega) hB
  have L51 : Hid (MidC (wo4.heap.size) (v1.heap.size) v3 (gap) ([4, 5, 6]) (gcp)) := L42.out.go (by omega) hB
  have L52 : Hid (MidC (wo18.heap.size) (v2.heap.size) v3 (vaq) ([(2 : Int)]) (vcq)) := L43.out.go (by omega) hB
  have L53 : Hid (MidC (wo18.heap.size) (v2.heap.size) v3 (gaq) ([2, 0]) (gcq)) := L44.out.go (by omega) hB
  have hb54 : Hid (Below w.heap.size w v3) := hb45.out.trans (hB.mono hb45.out.size)
  have L55 : Hid (MidC (wo36.heap.size) (v3.heap.size) v3 (f1) ([2]) (g1)) := hX0.midc
  have L56 : Hid (MidC (wo36.heap.size) (v3.heap.size) v3 (f2) ([6, 4]) (g2)) := hY0.midc
  clear hB hb45 B38 B39 B40 L41 L42 L43 L44 hX0 hY0
  clear L50 L51 L52 L53 B49
  have n57 := Abx.new v3 (.bool false) (.slice f1 1 g1) (.slice f2 2 g2)
  have l58 := (n57).c0
  have l59 := (n57).c1
  have l60 := (n57).c2
  have n61 := lit_mid (v3.alloc (.cells #[.bool false, .slice f1 1 g1, .slice f2 2 g2] 24)) 3 [6, 4] 2 rfl
  simp only [World.size_alloc, List.map_cons, List.map_nil] at n61
  go_wp2_with fail
  obtain ⟨wo62, hwo62⟩ : ∃ wo62, wo62 = ((v3.alloc (.cells #[.bool false, .slice f1 1 g1, .slice f2 2 g2] 24)).alloc (.cells #[.int .i64 6, .int .i64 4] 3)) := ⟨_, rfl⟩
  rw [← hwo62]
  have z63 : v3.heap.size + 1 + 1 ≤ wo62.heap.size := by rw [hwo62]; simp only [World.size_alloc]; omega
  have B64 : Hid (Abx wo62 (w.heap.size) (.bool c1) (.slice sa1 sz1.length sc1) (.slice da1 dz1.length dc1)) := by rw [hwo62]; exact ((B47.out.al (.cells #[.bool false, .slice f1 1 g1, .slice f2 2 g2] 24)).al (.cells #[.int .i64 6, .int .i64 4] 3))
  have B65 : Hid (Abx wo62 (w.heap.size + 1) (.bool c2) (.slice sa2 sz2.length sc2) (.slice da2 dz2.length dc2)) := by rw [hwo62]; exact ((B48.out.al (.cells #[.bool false, .slice f1 1 g1, .slice f2 2 g2] 24)).al (.cells #[.int .i64 6, .int .i64 4] 3))
  have B66 : Hid (Abx wo62 (v3.heap.size) (.bool false) (.slice f1 1 g1) (.slice f2 2 g2)) := by rw [hwo62]; exact (n57.al (.cells #[.int .i64 6, .int .i64 4] 3))
  have L67 : Hid (MidC (wo36.heap.size) (v3.heap.size) wo62 (f1) ([2]) (g1)) := by rw [hwo62]; exact ((L55.out.al (by omega) (.cells #[.bool false, .slice f1 1 g1, .slice f2 2 g2] 24)).al (by simp only [World.size_alloc]; omega) (.cells #[.int .i64 6, .int .i64 4] 3))
  have L68 : Hid (MidC (wo36.heap.size) (v3.heap.size) wo62 (f2) ([6, 4]) (g2)) := by rw [hwo62]; exact ((L56.out.al (by omega) (.cells #[.bool false, .slice f1 1 g1, .slice f2 2 g2] 24)).al (by simp only [World.size_alloc]; omega) (.cells #[.int .i64 6, .int .i64 4] 3))
  have L69 : Hid (MidC (v3.heap.size + 1) (v3.heap.size + 1 + 1) wo62 (some ⟨v3.heap.size + 1, 0, none⟩) ([6, 4]) (2)) := by rw [hwo62]; exact n61
  have hb70 : Hid (Below w.heap.size w wo62) := by rw [hwo62]; exact ((hb54.out.alloc (by omega) (.cells #[.bool false, .slice f1 1 g1, .slice f2 2 g2] 24)).alloc (by simp only [World.size_alloc]; omega) (.cells #[.int .i64 6, .int .i64 4] 3))
  have zwo62 : w.heap.size ≤ wo62.heap.size := hb70.out.size
  clear hwo62 n57 l58 l59 l60 n61 hb54 B47 B48 L55 L56
  refine (ints_any f2 g2 [6, 4] (some ⟨v3.heap.size + 1, 0, none⟩) 2 [6, 4] (by simp) _ _ (L68.out.is (by omega)).1 (L69.out.is (by omega)).1).mono ?_
  rintro e v4 ⟨rfl, hB⟩
  have z71 : wo62.heap.size ≤ v4.heap.size := hB.size
  have B72 : Hid (Abx v4 (w.heap.size) (.bool c1) (.slice sa1 sz1.length sc1) (.slice da1 dz1.length dc1)) := B64.out.go hB
  have B73 : Hid (Abx v4 (w.heap.size + 1) (.bool c2) (.slice sa2 sz2.length sc2) (.slice da2 dz2.length dc2)) := B65.out.go hB
  have B74 : Hid (Abx v4 (v3.heap.size) (.bool false) (.slice f1 1 g1) (.slice f2 2 g2)) := B66.out.go hB
  have L75 : Hid (MidC (wo36.heap.size) (v3.heap.size) v4 (f1) ([2]) (g1)) := L67.out.go (by omega) hB
  have L76 : Hid (MidC (wo36.heap.size) (v3.heap.size) v4 (f2) ([6, 4]) (g2)) := L68.out.go (by omega) hB
  have L77 : Hid (MidC (v3.heap.size + 1) (v3.heap.size + 1 + 1) v4 (some ⟨v3.heap.size + 1, 0, none⟩) ([6, 4]) (2)) := L69.out.go (by omega) hB
  have hb78 : Hid (Below w.heap.size w v4) := hb70.out.trans (hB.mono hb70.out.size)
  clear hB hb70 B64 B65 B66 L67 L68 L69
  rw [eqB_true rfl]
  clear L75 L76 L77 B74
  have l79 := (B72.out).c0
  have l80 := (B72.out).c1
  have l81 := (B72.out).c2
  have l82 := (B73.out).c0
  have l83 := (B73.out).c1
  have l84 := (B73.out).c2
  have n85 := Abx.new v4 (.bool c2) (.slice sa2 sz2.length sc2) (.slice da2 dz2.length dc2)
  go_wp2_with fail
  obtain ⟨wo86, hwo86⟩ : ∃ wo86, wo86 = (v4.alloc (.cells #[.bool c2, .slice sa2 sz2.length sc2, .slice da2 dz2.length dc2] 24)) := ⟨_, rfl⟩
  rw [← hwo86]
  have z87 : v4.heap.size + 1 ≤ wo86.heap.size := by rw [hwo86]; simp only [World.size_alloc]; omega
  have B88 : Hid (Abx wo86 (w.heap.size) (.bool c1) (.slice sa1 sz1.length sc1) (.slice da1 dz1.length dc1)) := by rw [hwo86]; exact (B72.out.al (.cells #[.bool c2, .slice sa2 sz2.length sc2, .slice da2 dz2.length dc2] 24))
  have B89 : Hid (Abx wo86 (w.heap.size + 1) (.bool c2) (.slice sa2 sz2.length sc2) (.slice da2 dz2.length dc2)) := by rw [hwo86]; exact (B73.out.al (.cells #[.bool c2, .slice sa2 sz2.length sc2, .slice da2 dz2.length dc2] 24))
  have B90 : Hid (Abx wo86 (v4.heap.size) (.bool c2) (.slice sa2 sz2.length sc2) (.slice da2 dz2.length dc2)) := by rw [hwo86]; exact n85
  have hb91 : Hid (Below w.heap.size w wo86) := by rw [hwo86]; exact (hb78.out.alloc (by omega) (.cells #[.bool c2, .slice sa2 sz2.length sc2, .slice da2 dz2.length dc2] 24))
  have zwo86 : w.heap.size ≤ wo86.heap.size := hb91.out.size
  clear hwo86 l79 l80 l81 l82 l83 l84 n85 hb78 B72 B73
  refine (at_no c1 sa1 sc1 sz1 da1 dc1 dz1 (some ⟨v4.heap.size, 0, none⟩) 1 [(c2, (((sa2, sc2), sz2), ((da2, dc2), dz2)))] 1 rfl _ x11 x12 (by decide) ((HI1.out.1.below hb91.out).mono hb91.out.size) ((HI1.out.2.1.below hb91.out).mono hb91.out.size) (as_one (c := c2) (sa := sa2) (sc := sc2) (sz := sz2) (da := da2) (dc := dc2) (dz := dz2) B90.out x21 x22 ((HI2.out.1.below hb91.out).mono hb91.out.size) ((HI2.out.2.1.below hb91.out).mono hb91.out.size) HI2.out.2.2.1 HI2.out.2.2.2) HA F1.out).mono ?_
  rintro e v5 ⟨xa1, xc1, ya1, yc1, rfl, hB⟩
  have z92 : wo86.heap.size ≤ v5.heap.size := hB.size
  have B93 : Hid (Abx v5 (w.heap.size) (.bool c1) (.slice sa1 sz1.length sc1) (.slice da1 dz1.length dc1)) := B88.out.go hB
  have B94 : Hid (Abx v5 (w.heap.size + 1) (.bool c2) (.slice sa2 sz2.length sc2) (.slice da2 dz2.length dc2)) := B89.out.go hB
  have B95 : Hid (Abx v5 (v4.heap.size) (.bool c2) (.slice sa2 sz2.length sc2) (.slice da2 dz2.length dc2)) := B90.out.go hB
  have hb96 : Hid (Below w.heap.size w v5) := hb91.out.trans (hB.mono hb91.out.size)
  clear hB hb91 B88 B89 B90
  clear B95
  have n97 := Abx.new v5 (.bool false) (.slice xa1 0 xc1) (.slice ya1 0 yc1)
  have l98 := (n97).c0
  have l99 := (n97).c1
  have l100 := (n97).c2
  go_wp2_with fail
  obtain ⟨wo101, hwo101⟩ : ∃ wo101, wo101 = (v5.alloc (.cells #[.bool false, .slice xa1 0 xc1, .slice ya1 0 yc1] 24)) := ⟨_, rfl⟩
  rw [← hwo101]
  have z102 : v5.heap.size + 1 ≤ wo101.heap.size := by rw [hwo101]; simp only [World.size_alloc]; omega
  have B103 : Hid (Abx wo101 (w.heap.size) (.bool c1) (.slice sa1 sz1.length sc1) (.slice da1 dz1.length dc1)) := by rw [hwo101]; exact (B93.out.al (.cells #[.bool false, .slice xa1 0 xc1, .slice ya1 0 yc1] 24))
  have B104 : Hid (Abx wo101 (w.heap.size + 1) (.bool c2) (.slice sa2 sz2.length sc2) (.slice da2 dz2.length dc2)) := by rw [hwo101]; exact (B94.out.al (.cells #[.bool false, .slice xa1 0 xc1, .slice ya1 0 yc1] 24))
  have B105 : Hid (Abx wo101 (v5.heap.size) (.bool false) (.slice xa1 0 xc1) (.slice ya1 0 yc1)) := by rw [hwo101]; exact n97
  have hb106 : Hid (Below w.heap.size w wo101) := by rw [hwo101]; exact (hb96.out.alloc (by omega) (.cells #[.bool false, .slice xa1 0 xc1, .slice ya1 0 yc1] 24))
  have zwo101 : w.heap.size ≤ wo101.heap.size := hb106.out.size
  clear hwo101 n97 l98 l99 l100 hb96 B93 B94
  refine (at_no false xa1 xc1 [] ya1 yc1 [] ba bc bs bs.length rfl _ (by simp) (by simp) hbl ⟨.inl rfl, Nat.zero_le _⟩ ⟨.inl rfl, Nat.zero_le _⟩ ((HM.out.below hb106.out).mono hb106.out.size) HA (emp_no _)).mono ?_
  rintro e v6 ⟨xa2, xc2, ya2, yc2, rfl, hB⟩
  have z107 : wo101.heap.size ≤ v6.heap.size := hB.size
  have B108 : Hid (Abx v6 (w.heap.size) (.bool c1) (.slice sa1 sz1.length sc1) (.slice da1 dz1.length dc1)) := B103.out.go hB
  have B109 : Hid (Abx v6 (w.heap.size + 1) (.bool c2) (.slice sa2 sz2.length sc2) (.slice da2 dz2.length dc2)) := B104.out.go hB
  have B110 : Hid (Abx v6 (v5.heap.size) (.bool false) (.slice xa1 0 xc1) (.slice ya1 0 yc1)) := B105.out.go hB
  have hb111 : Hid (Below w.heap.size w v6) := hb106.out.trans (hB.mono hb106.out.size)
  clear hB hb106 B103 B104 B105
  have n112 := Abx.new v6 (.bool false) (.slice xa2 0 xc2) (.slice ya2 0 yc2)
  go_wp2_with fail
  obtain ⟨wo113, hwo113⟩ : ∃ wo113, wo113 = (v6.alloc (.cells #[.bool false, .slice xa2 0 xc2, .slice ya2 0 yc2] 24)) := ⟨_, rfl⟩
  rw [← hwo113]
  have z114 : v6.heap.size + 1 ≤ wo113.heap.size := by rw [hwo113]; simp only [World.size_alloc]; omega
  have B115 : Hid (Abx wo113 (w.heap.size) (.bool c1) (.slice sa1 sz1.length sc1) (.slice da1 dz1.length dc1)) := by rw [hwo113]; exact (B108.out.al (.cells #[.bool false, .slice xa2 0 xc2, .slice ya2 0 yc2] 24))
  have B116 : Hid (Abx wo113 (w.heap.size + 1) (.bool c2) (.slice sa2 sz2.length sc2) (.slice da2 dz2.length dc2)) := by rw [hwo113]; exact (B109.out.al (.cells #[.bool false, .slice xa2 0 xc2, .slice ya2 0 yc2] 24))
  have B117 : Hid (Abx wo113 (v5.heap.size) (.bool false) (.slice xa1 0 xc1) (.slice ya1 0 yc1)) := by rw [hwo113]; exact (B110.out.al (.cells #[.bool false, .slice xa2 0 xc2, .slice ya2 0 yc2] 24))
  have B118 : Hid (Abx wo113 (v6.heap.size) (.bool false) (.slice xa2 0 xc2) (.slice ya2 0 yc2)) := by rw [hwo113]; exact n112
  have hb119 : Hid (Below w.heap.size w wo113) := by rw [hwo113]; exact (hb111.out.alloc (by omega) (.cells #[.bool false, .slice xa2 0 xc2, .slice ya2 0 yc2] 24))
  have zwo113 : w.heap.size ≤ wo113.heap.size := hb119.out.size
  clear hwo113 n112 hb111 B108 B109 B110
  go_wp2_with fail
  go_ret
  exact ⟨rfl, hb119.out⟩
set_option maxRecDepth 100000 in
set_option maxHeartbeats 8000000 in
theorem chains_no2 (HA : CAt) (c1 : Bool) (sa1 : Option Addr) (sc1 : Nat) (sz1 : List Int) (da1 : Option Addr) (dc1 : Nat) (dz1 : List Int) (c2 : Bool) (sa2 : Option Addr) (sc2 : Nat) (sz2 : List Int) (da2 : Option Addr) (dc2 : Nat) (dz2 : List Int) (ba : Option Addr) (bc : Nat) (bs : List ArV) (hbl : bs.length ≤ 9223372036854775807) (w : World) (w8 : IsArrD w sa1 sz1 sc1 da1 dz1 dc1) (w9 : IsArrD w sa2 sz2 sc2 da2 dz2 dc2) (hbs : IsAs w.heap.size w ba bs) (F1 : Hid (pkE c1 sz1 dz1 [(c2, (sz2, dz2))] = 0)) (F2 : Hid (pkE c1 (pkS [(c2, (sz2, dz2))]) (pkD sz1 dz1 [(c2, (sz2, dz2))]) (bya bs) ≠ 0)) :
    Calls Try.prog 4 #[.agg #[.bool c1, .slice sa1 sz1.length sc1, .slice da1 dz1.length dc1], .agg #[.bool c2, .slice sa2 sz2.length sc2, .slice da2 dz2.length dc2], .slice ba bs.length bc] w fun e w' => e = .returned (.bool true) ∧ Below w.heap.size w w' := by
  obtain ⟨S1, hS1⟩ : ∃ S, S = pkS [(c2, (sz2, dz2))] := ⟨_, rfl⟩
  obtain ⟨D1, hD1⟩ : ∃ D, D = pkD sz1 dz1 [(c2, (sz2, dz2))] := ⟨_, rfl⟩
  have HS1 : Hid (S1 = pkS [(c2, (sz2, dz2))] ∧ D1 = pkD sz1 dz1 [(c2, (sz2, dz2))]) := ⟨hS1, hD1⟩
  have HL1 : Hid (S1.length ≤ 6 ∧ D1.length ≤ 4096) := by rw [hS1, hD1]; exact pk_len F1.out
  clear hS1 hD1
  obtain ⟨x11, x12, x3, x4, s64, T⟩ := w8
  have HI1 : Hid (IsC w.heap.size w sa1 sz1 sc1 ∧ IsC w.heap.size w da1 dz1 dc1 ∧ (∀ j, In64 (nth sz1 j)) ∧ ∀ j, In64 (nth dz1 j)) := ⟨x3, x4, s64, T⟩
  clear x3 x4 T s64
  obtain ⟨x21, x22, x3, x4, s64, T⟩ := w9
  have HI2 : Hid (IsC w.heap.size w sa2 sz2 sc2 ∧ IsC w.heap.size w da2 dz2 dc2 ∧ (∀ j, In64 (nth sz2 j)) ∧ ∀ j, In64 (nth dz2 j)) := ⟨x3, x4, s64, T⟩
  clear x3 x4 T s64
  have HM : Hid (IsAs w.heap.size w ba bs) := hbs
  clear hbs
  have n1 := Abx.new w (.bool c1) (.slice sa1 sz1.length sc1) (.slice da1 dz1.length dc1)
  have n2 := Abx.new (w.alloc (.cells #[.bool c1, .slice sa1 sz1.length sc1, .slice da1 dz1.length dc1] 24)) (.bool c2) (.slice sa2 sz2.length sc2) (.slice da2 dz2.length dc2)
  simp only [World.size_alloc] at n2
  have n3 := lit_mid ((w.alloc (.cells #[.bool c1, .slice sa1 sz1.length sc1, .slice da1 dz1.length dc1] 24)).alloc (.cells #[.bool c2, .slice sa2 sz2.length sc2, .slice da2 dz2.length dc2] 24)) 3 [4, 5, 6] 3 rfl
  simp only [World.size_alloc, List.map_cons, List.map_nil] at n3
  go_enter Try.func4, Try.ntmps4
  go_wp2_with fail
  obtain ⟨wo4, hwo4⟩ : ∃ wo4, wo4 = (((w.alloc (.cells #[.bool c1, .slice sa1 sz1.length sc1, .slice da1 dz1.length dc1] 24)).alloc (.cells #[.bool c2, .slice sa2 sz2.length sc2, .slice da2 dz2.length dc2] 24)).alloc (.cells #[.int .i64 4, .int .i64 5, .int .i64 6] 3)) := ⟨_, rfl⟩
  rw [← hwo4]
  have z5 : w.heap.size + 1 + 1 + 1 ≤ wo4.heap.size := by rw [hwo4]; simp only [World.size_alloc]; omega
  have B6 : Hid (Abx wo4 (w.heap.size) (.bool c1) (.slice sa1 sz1.length sc1) (.slice da1 dz1.length dc1)) := by rw [hwo4]; exact ((n1.al (.cells #[.bool c2, .slice sa2 sz2.length sc2, .slice da2 dz2.length dc2] 24)).al (.cells #[.int .i64 4, .int .i64 5, .int .i64 6] 3))
  have B7 : Hid (Abx wo4 (w.heap.size + 1) (.bool c2) (.slice sa2 sz2.length sc2) (.slice da2 dz2.length dc2)) := by rw [hwo4]; exact (n2.al (.cells #[.int .i64 4, .int .i64 5, .int .i64 6] 3))
  have L8 : Hid (MidC (w.heap.size + 1 + 1) (w.heap.size + 1 + 1 + 1) wo4 (some ⟨w.heap.size + 1 + 1, 0, none⟩) ([4, 5, 6]) (3)) := by rw [hwo4]; exact n3
  have hb9 : Hid (Below w.heap.size w wo4) := by rw [hwo4]; exact ((((Below.refl w.heap.size w).alloc (by omega) (.cells #[.bool c1, .slice sa1 sz1.length sc1, .slice da1 dz1.length dc1] 24)).alloc (by simp only [World.size_alloc]; omega) (.cells #[.bool c2, .slice sa2 sz2.length sc2, .slice da2 dz2.length dc2] 24)).alloc (by simp only [World.size_alloc]; omega) (.cells #[.int .i64 4, .int .i64 5, .int .i64 6] 3))
  have zwo4 : w.heap.size ≤ wo4.heap.size := hb9.out.size
  clear hwo4 n1 n2 n3
  refine (vec_c (some ⟨w.heap.size + 1 + 1, 0, none⟩) 3 [4, 5, 6] (by simp) _ (L8.out.is (by omega)).1).mono ?_
  rintro e v1 ⟨vap, vcp, gap, gcp, rfl, hVp, hGp, hB⟩
  have z10 : wo4.heap.size ≤ v1.heap.size := hB.size
  have B11 : Hid (Abx v1 (w.heap.size) (.bool c1) (.slice sa1 sz1.length sc1) (.slice da1 dz1.length dc1)) := B6.out.go hB
  have B12 : Hid (Abx v1 (w.heap.size + 1) (.bool c2) (.slice sa2 sz2.length sc2) (.slice da2 dz2.length dc2)) := B7.out.go hB
  have L13 : Hid (MidC (w.heap.size + 1 + 1) (w.heap.size + 1 + 1 + 1) v1 (some ⟨w.heap.size + 1 + 1, 0, none⟩) ([4, 5, 6]) (3)) := L8.out.go (by omega) hB
  have hb14 : Hid (Below w.heap.size w v1) := hb9.out.trans (hB.mono hb9.out.size)
  have L15 : Hid (MidC (wo4.heap.size) (v1.heap.size) v1 (vap) ([(3 : Int)]) (vcp)) := hVp.midc
  have L16 : Hid (MidC (wo4.heap.size) (v1.heap.size) v1 (gap) ([4, 5, 6]) (gcp)) := hGp.midc
  clear hB hb9 B6 B7 L8 hVp hGp
  clear L13
  have n17 := lit_mid v1 3 [2, 0] 2 rfl
  simp only [List.map_cons, List.map_nil] at n17
  go_wp2_with fail
  obtain ⟨wo18, hwo18⟩ : ∃ wo18, wo18 = (v1.alloc (.cells #[.int .i64 2, .int .i64 0] 3)) := ⟨_, rfl⟩
  rw [← hwo18]
  have z19 : v1.heap.size + 1 ≤ wo18.heap.size := by rw [hwo18]; simp only [World.size_alloc]; omega
  have B20 : Hid (Abx wo18 (w.heap.size) (.bool c1) (.slice sa1 sz1.length sc1) (.slice da1 dz1.length dc1)) := by rw [hwo18]; exact (B11.out.al (.cells #[.int .i64 2, .int .i64 0] 3))
  have B21 : Hid (Abx wo18 (w.heap.size + 1) (.bool c2) (.slice sa2 sz2.length sc2) (.slice da2 dz2.length dc2)) := by rw [hwo18]; exact (B12.out.al (.cells #[.int .i64 2, .int .i64 0] 3))
  have L22 : Hid (MidC (wo4.heap.size) (v1.heap.size) wo18 (vap) ([(3 : Int)]) (vcp)) := by rw [hwo18]; exact (L15.out.al (by omega) (.cells #[.int .i64 2, .int .i64 0] 3))
  have L23 : Hid (MidC (wo4.heap.size) (v1.heap.size) wo18 (gap) ([4, 5, 6]) (gcp)) := by rw [hwo18]; exact (L16.out.al (by omega) (.cells #[.int .i64 2, .int .i64 0] 3))
  have L24 : Hid (MidC (v1.heap.size) (v1.heap.size + 1) wo18 (some ⟨v1.heap.size, 0, none⟩) ([2, 0]) (2)) := by rw [hwo18]; exact n17
  have hb25 : Hid (Below w.heap.size w wo18) := by rw [hwo18]; exact (hb14.out.alloc (by omega) (.cells #[.int .i64 2, .int .i64 0] 3))
  have zwo18 : w.heap.size ≤ wo18.heap.size := hb25.out.size
  clear hwo18 n17 hb14 B11 B12 L15 L16
  refine (vec_c (some ⟨v1.heap.size, 0, none⟩) 2 [2, 0] (by simp) _ (L24.out.is (by omega)).1).mono ?_
  rintro e v2 ⟨vaq, vcq, gaq, gcq, rfl, hVq, hGq, hB⟩
  have z26 : wo18.heap.size ≤ v2.heap.size := hB.size
  have B27 : Hid (Abx v2 (w.heap.size) (.bool c1) (.slice sa1 sz1.length sc1) (.slice da1 dz1.length dc1)) := B20.out.go hB
  have B28 : Hid (Abx v2 (w.heap.size + 1) (.bool c2) (.slice sa2 sz2.length sc2) (.slice da2 dz2.length dc2)) := B21.out.go hB
  have L29 : Hid (MidC (wo4.heap.size) (v1.heap.size) v2 (vap) ([(3 : Int)]) (vcp)) := L22.out.go (by omega) hB
  have L30 : Hid (MidC (wo4.heap.size) (v1.heap.size) v2 (gap) ([4, 5, 6]) (gcp)) := L23.out.go (by omega) hB
  have L31 : Hid (MidC (v1.heap.size) (v1.heap.size + 1) v2 (some ⟨v1.heap.size, 0, none⟩) ([2, 0]) (2)) := L24.out.go (by omega) hB
  have hb32 : Hid (Below w.heap.size w v2) := hb25.out.trans (hB.mono hb25.out.size)
  have L33 : Hid (MidC (wo18.heap.size) (v2.heap.size) v2 (vaq) ([(2 : Int)]) (vcq)) := hVq.midc
  have L34 : Hid (MidC (wo18.heap.size) (v2.heap.size) v2 (gaq) ([2, 0]) (gcq)) := hGq.midc
  clear hB hb25 B20 B21 L22 L23 L24 hVq hGq
  clear L31
  have n35 := Abx.new v2 (.bool false) (.slice vaq 1 vcq) (.slice gaq 2 gcq)
  go_wp2_with fail
  obtain ⟨wo36, hwo36⟩ : ∃ wo36, wo36 = (v2.alloc (.cells #[.bool false, .slice vaq 1 vcq, .slice gaq 2 gcq] 24)) := ⟨_, rfl⟩
  rw [← hwo36]
  have z37 : v2.heap.size + 1 ≤ wo36.heap.size := by rw [hwo36]; simp only [World.size_alloc]; omega
  have B38 : Hid (Abx wo36 (w.heap.size) (.bool c1) (.slice sa1 sz1.length sc1) (.slice da1 dz1.length dc1)) := by rw [hwo36]; exact (B27.out.al (.cells #[.bool false, .slice vaq 1 vcq, .slice gaq 2 gcq] 24))
  have B39 : Hid (Abx wo36 (w.heap.size + 1) (.bool c2) (.slice sa2 sz2.length sc2) (.slice da2 dz2.length dc2)) := by rw [hwo36]; exact (B28.out.al (.cells #[.bool false, .slice vaq 1 vcq, .slice gaq 2 gcq] 24))
  have B40 : Hid (Abx wo36 (v2.heap.size) (.bool false) (.slice vaq 1 vcq) (.slice gaq 2 gcq)) := by rw [hwo36]; exact n35
  have L41 : Hid (MidC (wo4.heap.size) (v1.heap.size) wo36 (vap) ([(3 : Int)]) (vcp)) := by rw [hwo36]; exact (L29.out.al (by omega) (.cells #[.bool false, .slice vaq 1 vcq, .slice gaq 2 gcq] 24))
  have L42 : Hid (MidC (wo4.heap.size) (v1.heap.size) wo36 (gap) ([4, 5, 6]) (gcp)) := by rw [hwo36]; exact (L30.out.al (by omega) (.cells #[.bool false, .slice vaq 1 vcq, .slice gaq 2 gcq] 24))
  have L43 : Hid (MidC (wo18.heap.size) (v2.heap.size) wo36 (vaq) ([(2 : Int)]) (vcq)) := by rw [hwo36]; exact (L33.out.al (by omega) (.cells #[.bool false, .slice vaq 1 vcq, .slice gaq 2 gcq] 24))
  have L44 : Hid (MidC (wo18.heap.size) (v2.heap.size) wo36 (gaq) ([2, 0]) (gcq)) := by rw [hwo36]; exact (L34.out.al (by omega) (.cells #[.bool false, .slice vaq 1 vcq, .slice gaq 2 gcq] 24))
  have hb45 : Hid (Below w.heap.size w wo36) := by rw [hwo36]; exact (hb32.out.alloc (by omega) (.cells #[.bool false, .slice vaq 1 vcq, .slice gaq 2 gcq] 24))
  have zwo36 : w.heap.size ≤ wo36.heap.size := hb45.out.size
  clear hwo36 n35 hb32 B27 B28 L29 L30 L33 L34
  refine (at_ok false vap vcp [(3 : Int)] gap gcp [4, 5, 6] (some ⟨v2.heap.size, 0, none⟩) 1 [(false, (((vaq, vcq), [(2 : Int)]), ((gaq, gcq), [2, 0])))] 1 rfl _ (by simp) (by simp) (by decide) (L41.out.is (by omega)) (L42.out.is (by omega)) (as_one (c := false) (sa := vaq) (sc := vcq) (sz := [(2 : Int)]) (da := gaq) (dc := gcq) (dz := [2, 0]) B40.out (by simp) (by simp) (L43.out.is (by omega)) (L44.out.is (by omega)) (lit_all (by decide)) (lit_all (by decide))) [2] [6, 4] HA (by show pkE false [(3 : Int)] [4, 5, 6] [(false, ([(2 : Int)], [2, 0]))] = 0 ∧ pkS [(false, ([(2 : Int)], [2, 0]))] = [2] ∧ pkD [(3 : Int)] [4, 5, 6] [(false, ([(2 : Int)], [2, 0]))] = [6, 4]; decide)).mono ?_
  rintro e v3 ⟨f1, g1, f2, g2, rfl, hX0, hY0, hB⟩
  have z46 : wo36.heap.size ≤ v3.heap.size := hB.size
  have B47 : Hid (Abx v3 (w.heap.size) (.bool c1) (.slice sa1 sz1.length sc1) (.slice da1 dz1.length dc1)) := B38.out.go hB
  have B48 : Hid (Abx v3 (w.heap.size + 1) (.bool c2) (.slice sa2 sz2.length sc2) (.slice da2 dz2.length dc2)) := B39.out.go hB
  have B49 : Hid (Abx v3 (v2.heap.size) (.bool false) (.slice vaq 1 vcq) (.slice gaq 2 gcq)) := B40.out.go hB
  have L50 : Hid (MidC (wo4.heap.size) (v1.heap.size) v3 (vap) ([(3 : Int)]) (vcp)) := L41.out.go (by omega) hB
  have L51 : Hid (MidC (wo4.heap.size) (v1.heap.size) v3 (gap) ([4, 5, 6]) (gcp)) := L42.out.go (by omega) hB
  have L52 : Hid (MidC (wo18.heap.size) (v2.heap.size) v3 (vaq) ([(2 : Int)]) (vcq)) := L43.out.go (by omega) hB
  have L53 : Hid (MidC (wo18.heap.size) (v2.heap.size) v3 (gaq) ([2, 0]) (gcq)) := L44.out.go (by omega) hB
  have hb54 : Hid (Below w.heap.size w v3) := hb45.out.trans (hB.mono hb45.out.size)
  have L55 : Hid (MidC (wo36.heap.size) (v3.heap.size) v3 (f1) ([2]) (g1)) := hX0.midc
  have L56 : Hid (MidC (wo36.heap.size) (v3.heap.size) v3 (f2) ([6, 4]) (g2)) := hY0.midc
  clear hB hb45 B38 B39 B40 L41 L42 L43 L44 hX0 hY0
  clear L50 L51 L52 L53 B49
  have n57 := Abx.new v3 (.bool false) (.slice f1 1 g1) (.slice f2 2 g2)
  have l58 := (n57).c0
  have l59 := (n57).c1
  have l60 := (n57).c2
  have n61 := lit_mid (v3.alloc (.cells #[.bool false, .slice f1 1 g1, .slice f2 2 g2] 24)) 3 [6, 4] 2 rfl
  simp only [World.size_alloc, List.map_cons, List.map_nil] at n61
  go_wp2_with fail
  obtain ⟨wo62, hwo62⟩ : ∃ wo62, wo62 = ((v3.alloc (.cells #[.bool false, .slice f1 1 g1, .slice f2 2 g2] 24)).alloc (.cells #[.int .i64 6, .int .i64 4] 3)) := ⟨_, rfl⟩
  rw [← hwo62]
  have z63 : v3.heap.size + 1 + 1 ≤ wo62.heap.size := by rw [hwo62]; simp only [World.size_alloc]; omega
  have B64 : Hid (Abx wo62 (w.heap.size) (.bool c1) (.slice sa1 sz1.length sc1) (.slice da1 dz1.length dc1)) := by rw [hwo62]; exact ((B47.out.al (.cells #[.bool false, .slice f1 1 g1, .slice f2 2 g2] 24)).al (.cells #[.int .i64 6, .int .i64 4] 3))
  have B65 : Hid (Abx wo62 (w.heap.size + 1) (.bool c2) (.slice sa2 sz2.length sc2) (.slice da2 dz2.length dc2)) := by rw [hwo62]; exact ((B48.out.al (.cells #[.bool false, .slice f1 1 g1, .slice f2 2 g2] 24)).al (.cells #[.int .i64 6, .int .i64 4] 3))
  have B66 : Hid (Abx wo62 (v3.heap.size) (.bool false) (.slice f1 1 g1) (.slice f2 2 g2)) := by rw [hwo62]; exact (n57.al (.cells #[.int .i64 6, .int .i64 4] 3))
  have L67 : Hid (MidC (wo36.heap.size) (v3.heap.size) wo62 (f1) ([2]) (g1)) := by rw [hwo62]; exact ((L55.out.al (by omega) (.cells #[.bool false, .slice f1 1 g1, .slice f2 2 g2] 24)).al (by simp only [World.size_alloc]; omega) (.cells #[.int .i64 6, .int .i64 4] 3))
  have L68 : Hid (MidC (wo36.heap.size) (v3.heap.size) wo62 (f2) ([6, 4]) (g2)) := by rw [hwo62]; exact ((L56.out.al (by omega) (.cells #[.bool false, .slice f1 1 g1, .slice f2 2 g2] 24)).al (by simp only [World.size_alloc]; omega) (.cells #[.int .i64 6, .int .i64 4] 3))
  have L69 : Hid (MidC (v3.heap.size + 1) (v3.heap.size + 1 + 1) wo62 (some ⟨v3.heap.size + 1, 0, none⟩) ([6, 4]) (2)) := by rw [hwo62]; exact n61
  have hb70 : Hid (Below w.heap.size w wo62) := by rw [hwo62]; exact ((hb54.out.alloc (by omega) (.cells #[.bool false, .slice f1 1 g1, .slice f2 2 g2] 24)).alloc (by simp only [World.size_alloc]; omega) (.cells #[.int .i64 6, .int .i64 4] 3))
  have zwo62 : w.heap.size ≤ wo62.heap.size := hb70.out.size
  clear hwo62 n57 l58 l59 l60 n61 hb54 B47 B48 L55 L56
  refine (ints_any f2 g2 [6, 4] (some ⟨v3.heap.size + 1, 0, none⟩) 2 [6, 4] (by simp) _ _ (L68.out.is (by omega)).1 (L69.out.is (by omega)).1).mono ?_
  rintro e v4 ⟨rfl, hB⟩
  have z71 : wo62.heap.size ≤ v4.heap.size := hB.size
  have B72 : Hid (Abx v4 (w.heap.size) (.bool c1) (.slice sa1 sz1.length sc1) (.slice da1 dz1.length dc1)) := B64.out.go hB
  have B73 : Hid (Abx v4 (w.heap.size + 1) (.bool c2) (.slice sa2 sz2.length sc2) (.slice da2 dz2.length dc2)) := B65.out.go hB
  have B74 : Hid (Abx v4 (v3.heap.size) (.bool false) (.slice f1 1 g1) (.slice f2 2 g2)) := B66.out.go hB
  have L75 : Hid (MidC (wo36.heap.size) (v3.heap.size) v4 (f1) ([2]) (g1)) := L67.out.go (by omega) hB
  have L76 : Hid (MidC (wo36.heap.size) (v3.heap.size) v4 (f2) ([6, 4]) (g2)) := L68.out.go (by omega) hB
  have L77 : Hid (MidC (v3.heap.size + 1) (v3.heap.size + 1 + 1) v4 (some ⟨v3.heap.size + 1, 0, none⟩) ([6, 4]) (2)) := L69.out.go (by omega) hB
  have hb78 : Hid (Below w.heap.size w v4) := hb70.out.trans (hB.mono hb70.out.size)
  clear hB hb70 B64 B65 B66 L67 L68 L69
  rw [eqB_true rfl]
  clear L75 L76 L77 B74
  have l79 := (B72.out).c0
  have l80 := (B72.out).c1
  have l81 := (B72.out).c2
  have l82 := (B73.out).c0
  have l83 := (B73.out).c1
  have l84 := (B73.out).c2
  have n85 := Abx.new v4 (.bool c2) (.slice sa2 sz2.length sc2) (.slice da2 dz2.length dc2)
  go_wp2_with fail
  obtain ⟨wo86, hwo86⟩ : ∃ wo86, wo86 = (v4.alloc (.cells #[.bool c2, .slice sa2 sz2.length sc2, .slice da2 dz2.length dc2] 24)) := ⟨_, rfl⟩
  rw [← hwo86]
  have z87 : v4.heap.size + 1 ≤ wo86.heap.size := by rw [hwo86]; simp only [World.size_alloc]; omega
  have B88 : Hid (Abx wo86 (w.heap.size) (.bool c1) (.slice sa1 sz1.length sc1) (.slice da1 dz1.length dc1)) := by rw [hwo86]; exact (B72.out.al (.cells #[.bool c2, .slice sa2 sz2.length sc2, .slice da2 dz2.length dc2] 24))
  have B89 : Hid (Abx wo86 (w.heap.size + 1) (.bool c2) (.slice sa2 sz2.length sc2) (.slice da2 dz2.length dc2)) := by rw [hwo86]; exact (B73.out.al (.cells #[.bool c2, .slice sa2 sz2.length sc2, .slice da2 dz2.length dc2] 24))
  have B90 : Hid (Abx wo86 (v4.heap.size) (.bool c2) (.slice sa2 sz2.length sc2) (.slice da2 dz2.length dc2)) := by rw [hwo86]; exact n85
  have hb91 : Hid (Below w.heap.size w wo86) := by rw [hwo86]; exact (hb78.out.alloc (by omega) (.cells #[.bool c2, .slice sa2 sz2.length sc2, .slice da2 dz2.length dc2] 24))
  have zwo86 : w.heap.size ≤ wo86.heap.size := hb91.out.size
  clear hwo86 l79 l80 l81 l82 l83 l84 n85 hb78 B72 B73
  refine (at_ok c1 sa1 sc1 sz1 da1 dc1 dz1 (some ⟨v4.heap.size, 0, none⟩) 1 [(c2, (((sa2, sc2), sz2), ((da2, dc2), dz2)))] 1 rfl _ x11 x12 (by decide) ((HI1.out.1.below hb91.out).mono hb91.out.size) ((HI1.out.2.1.below hb91.out).mono hb91.out.size) (as_one (c := c2) (sa := sa2) (sc := sc2) (sz := sz2) (da := da2) (dc := dc2) (dz := dz2) B90.out x21 x22 ((HI2.out.1.below hb91.out).mono hb91.out.size) ((HI2.out.2.1.below hb91.out).mono hb91.out.size) HI2.out.2.2.1 HI2.out.2.2.2) S1 D1 HA ⟨F1.out, HS1.out.1.symm, HS1.out.2.symm⟩).mono ?_
  rintro e v5 ⟨xa1, xc1, ya1, yc1, rfl, hX1, hY1, hB⟩
  have z92 : wo86.heap.size ≤ v5.heap.size := hB.size
  have B93 : Hid (Abx v5 (w.heap.size) (.bool c1) (.slice sa1 sz1.length sc1) (.slice da1 dz1.length dc1)) := B88.out.go hB
  have B94 : Hid (Abx v5 (w.heap.size + 1) (.bool c2) (.slice sa2 sz2.length sc2) (.slice da2 dz2.length dc2)) := B89.out.go hB
  have B95 : Hid (Abx v5 (v4.heap.size) (.bool c2) (.slice sa2 sz2.length sc2) (.slice da2 dz2.length dc2)) := B90.out.go hB
  have hb96 : Hid (Below w.heap.size w v5) := hb91.out.trans (hB.mono hb91.out.size)
  have L97 : Hid (MidC (wo86.heap.size) (v5.heap.size) v5 (xa1) (S1) (xc1)) := hX1.midc
  have L98 : Hid (MidC (wo86.heap.size) (v5.heap.size) v5 (ya1) (D1) (yc1)) := hY1.midc
  clear hB hb91 B88 B89 B90 hX1 hY1
  clear B95
  have n99 := Abx.new v5 (.bool c1) (.slice xa1 S1.length xc1) (.slice ya1 D1.length yc1)
  have l100 := (n99).c0
  have l101 := (n99).c1
  have l102 := (n99).c2
  go_wp2_with fail
  obtain ⟨wo103, hwo103⟩ : ∃ wo103, wo103 = (v5.alloc (.cells #[.bool c1, .slice xa1 S1.length xc1, .slice ya1 D1.length yc1] 24)) := ⟨_, rfl⟩
  rw [← hwo103]
  have z104 : v5.heap.size + 1 ≤ wo103.heap.size := by rw [hwo103]; simp only [World.size_alloc]; omega
  have B105 : Hid (Abx wo103 (w.heap.size) (.bool c1) (.slice sa1 sz1.length sc1) (.slice da1 dz1.length dc1)) := by rw [hwo103]; exact (B93.out.al (.cells #[.bool c1, .slice xa1 S1.length xc1, .slice ya1 D1.length yc1] 24))
  have B106 : Hid (Abx wo103 (w.heap.size + 1) (.bool c2) (.slice sa2 sz2.length sc2) (.slice da2 dz2.length dc2)) := by rw [hwo103]; exact (B94.out.al (.cells #[.bool c1, .slice xa1 S1.length xc1, .slice ya1 D1.length yc1] 24))
  have B107 : Hid (Abx wo103 (v5.heap.size) (.bool c1) (.slice xa1 S1.length xc1) (.slice ya1 D1.length yc1)) := by rw [hwo103]; exact n99
  have L108 : Hid (MidC (wo86.heap.size) (v5.heap.size) wo103 (xa1) (S1) (xc1)) := by rw [hwo103]; exact (L97.out.al (by omega) (.cells #[.bool c1, .slice xa1 S1.length xc1, .slice ya1 D1.length yc1] 24))
  have L109 : Hid (MidC (wo86.heap.size) (v5.heap.size) wo103 (ya1) (D1) (yc1)) := by rw [hwo103]; exact (L98.out.al (by omega) (.cells #[.bool c1, .slice xa1 S1.length xc1, .slice ya1 D1.length yc1] 24))
  have hb110 : Hid (Below w.heap.size w wo103) := by rw [hwo103]; exact (hb96.out.alloc (by omega) (.cells #[.bool c1, .slice xa1 S1.length xc1, .slice ya1 D1.length yc1] 24))
  have zwo103 : w.heap.size ≤ wo103.heap.size := hb110.out.size
  clear hwo103 n99 l100 l101 l102 hb96 B93 B94 L97 L98
  refine (at_no c1 xa1 xc1 S1 ya1 yc1 D1 ba bc bs bs.length rfl _ (by have := HL1.out.1; omega) (by have := HL1.out.2; omega) hbl (L108.out.is (by omega)) (L109.out.is (by omega)) ((HM.out.below hb110.out).mono hb110.out.size) HA (by rw [HS1.out.1, HS1.out.2]; exact F2.out)).mono ?_
  rintro e v6 ⟨xa2, xc2, ya2, yc2, rfl, hB⟩
  have z111 : wo103.heap.size ≤ v6.heap.size := hB.size
  have B112 : Hid (Abx v6 (w.heap.size) (.bool c1) (.slice sa1 sz1.length sc1) (.slice da1 dz1.length dc1)) := B105.out.go hB
  have B113 : Hid (Abx v6 (w.heap.size + 1) (.bool c2) (.slice sa2 sz2.length sc2) (.slice da2 dz2.length dc2)) := B106.out.go hB
  have B114 : Hid (Abx v6 (v5.heap.size) (.bool c1) (.slice xa1 S1.length xc1) (.slice ya1 D1.length yc1)) := B107.out.go hB
  have L115 : Hid (MidC (wo86.heap.size) (v5.heap.size) v6 (xa1) (S1) (xc1)) := L108.out.go (by omega) hB
  have L116 : Hid (MidC (wo86.heap.size) (v5.heap.size) v6 (ya1) (D1) (yc1)) := L109.out.go (by omega) hB
  have hb117 : Hid (Below w.heap.size w v6) := hb110.out.trans (hB.mono hb110.out.size)
  clear hB hb110 B105 B106 B107 L108 L109
  have n118 := Abx.new v6 (.bool false) (.slice xa2 0 xc2) (.slice ya2 0 yc2)
  go_wp2_with fail
  obtain ⟨wo119, hwo119⟩ : ∃ wo119, wo119 = (v6.alloc (.cells #[.bool false, .slice xa2 0 xc2, .slice ya2 0 yc2] 24)) := ⟨_, rfl⟩
  rw [← hwo119]
  have z120 : v6.heap.size + 1 ≤ wo119.heap.size := by rw [hwo119]; simp only [World.size_alloc]; omega
  have B121 : Hid (Abx wo119 (w.heap.size) (.bool c1) (.slice sa1 sz1.length sc1) (.slice da1 dz1.length dc1)) := by rw [hwo119]; exact (B112.out.al (.cells #[.bool false, .slice xa2 0 xc2, .slice ya2 0 yc2] 24))
  have B122 : Hid (Abx wo119 (w.heap.size + 1) (.bool c2) (.slice sa2 sz2.length sc2) (.slice da2 dz2.length dc2)) := by rw [hwo119]; exact (B113.out.al (.cells #[.bool false, .slice xa2 0 xc2, .slice ya2 0 yc2] 24))
  have B123 : Hid (Abx wo119 (v5.heap.size) (.bool c1) (.slice xa1 S1.length xc1) (.slice ya1 D1.length yc1)) := by rw [hwo119]; exact (B114.out.al (.cells #[.bool false, .slice xa2 0 xc2, .slice ya2 0 yc2] 24))
  have B124 : Hid (Abx wo119 (v6.heap.size) (.bool false) (.slice xa2 0 xc2) (.slice ya2 0 yc2)) := by rw [hwo119]; exact n118
  have L125 : Hid (MidC (wo86.heap.size) (v5.heap.size) wo119 (xa1) (S1) (xc1)) := by rw [hwo119]; exact (L115.out.al (by omega) (.cells #[.bool false, .slice xa2 0 xc2, .slice ya2 0 yc2] 24))
  have L126 : Hid (MidC (wo86.heap.size) (v5.heap.size) wo119 (ya1) (D1) (yc1)) := by rw [hwo119]; exact (L116.out.al (by omega) (.cells #[.bool false, .slice xa2 0 xc2, .slice ya2 0 yc2] 24))
  have hb127 : Hid (Below w.heap.size w wo119) := by rw [hwo119]; exact (hb117.out.alloc (by omega) (.cells #[.bool false, .slice xa2 0 xc2, .slice ya2 0 yc2] 24))
  have zwo119 : w.heap.size ≤ wo119.heap.size := hb127.out.size
  clear hwo119 n118 hb117 B112 B113 B114 L115 L116
  go_wp2_with fail
  go_ret
  exact ⟨rfl, hb127.out⟩
set_option maxRecDepth 100000 in
set_option maxHeartbeats 8000000 in
theorem chains_ok (HA : CAt) (c1 : Bool) (sa1 : Option Addr) (sc1 : Nat) (sz1 : List Int) (da1 : Option Addr) (dc1 : Nat) (dz1 : List Int) (c2 : Bool) (sa2 : Option Addr) (sc2 : Nat) (sz2 : List Int) (da2 : Option Addr) (dc2 : Nat) (dz2 : List Int) (ba : Option Addr) (bc : Nat) (bs : List ArV) (hbl : bs.length ≤ 9223372036854775807) (w : World) (w8 : IsArrD w sa1 sz1 sc1 da1 dz1 dc1) (w9 : IsArrD w sa2 sz2 sc2 da2 dz2 dc2) (hbs : IsAs w.heap.size w ba bs) (T2 : ∀ j, In64 (nth dz2 j)) (F1 : Hid (pkE c1 sz1 dz1 [(c2, (sz2, dz2))] = 0)) (F2 : Hid (pkE c1 (pkS [(c2, (sz2, dz2))]) (pkD sz1 dz1 [(c2, (sz2, dz2))]) (bya bs) = 0)) :
    Calls Try.prog 4 #[.agg #[.bool c1, .slice sa1 sz1.length sc1, .slice da1 dz1.length dc1], .agg #[.bool c2, .slice sa2 sz2.length sc2, .slice da2 dz2.length dc2], .slice ba bs.length bc] w fun e w' => e = .returned (.bool true) ∧ Below w.heap.size w w' := by
  obtain ⟨S1, hS1⟩ : ∃ S, S = pkS [(c2, (sz2, dz2))] := ⟨_, rfl⟩
  obtain ⟨D1, hD1⟩ : ∃ D, D = pkD sz1 dz1 [(c2, (sz2, dz2))] := ⟨_, rfl⟩
  have HS1 : Hid (S1 = pkS [(c2, (sz2, dz2))] ∧ D1 = pkD sz1 dz1 [(c2, (sz2, dz2))]) := ⟨hS1, hD1⟩
  have HL1 : Hid (S1.length ≤ 6 ∧ D1.length ≤ 4096) := by rw [hS1, hD1]; exact pk_len F1.out
  clear hS1 hD1
  obtain ⟨S2, hS2⟩ : ∃ S, S = pkS (bya bs) := ⟨_, rfl⟩
  obtain ⟨D2, hD2⟩ : ∃ D, D = pkD S1 D1 (bya bs) := ⟨_, rfl⟩
  obtain ⟨D3, hD3⟩ : ∃ D, D = pkD sz2 dz2 (bya bs) := ⟨_, rfl⟩
  have HC : Hid (pkE c2 sz2 dz2 (bya bs) = 0 ∧ pkE c1 sz1 dz1 [(c2, (S2, D3))] = 0 ∧ pkS [(c2, (S2, D3))] = S2 ∧ pkD sz1 dz1 [(c2, (S2, D3))] = D2) := by rw [hS2, hD3, hD2, HS1.out.1, HS1.out.2]; exact chains F1.out F2.out
  have HS2 : Hid (S2 = pkS (bya bs) ∧ D2 = pkD S1 D1 (bya bs) ∧ D3 = pkD sz2 dz2 (bya bs)) := ⟨hS2, hD2, hD3⟩
  have HL2 : Hid (S2.length ≤ 6 ∧ D2.length ≤ 4096 ∧ D3.length ≤ 4096) := by have h := pk_len F2.out; have h2 := pk_len HC.out.1; rw [hS2, hD2, hD3, HS1.out.1, HS1.out.2]; exact ⟨h.1, h.2, h2.2⟩
  have HT2 : Hid ((∀ j, In64 (nth S2 j)) ∧ ∀ j, In64 (nth D3 j)) := by rw [hS2, hD3]; exact ⟨in64_err (pkE_zero.1 HC.out.1).2.2.2.2.1, pk_64 HC.out.1 (by exact T2)⟩
  clear hS2 hD2 hD3
  obtain ⟨x11, x12, x3, x4, s64, T⟩ := w8
  have HI1 : Hid (IsC w.heap.size w sa1 sz1 sc1 ∧ IsC w.heap.size w da1 dz1 dc1 ∧ (∀ j, In64 (nth sz1 j)) ∧ ∀ j, In64 (nth dz1 j)) := ⟨x3, x4, s64, T⟩
  clear x3 x4 T s64
  obtain ⟨x21, x22, x3, x4, s64, T⟩ := w9
  have HI2 : Hid (IsC w.heap.size w sa2 sz2 sc2 ∧ IsC w.heap.size w da2 dz2 dc2 ∧ (∀ j, In64 (nth sz2 j)) ∧ ∀ j, In64 (nth dz2 j)) := ⟨x3, x4, s64, T⟩
  clear x3 x4 T s64
  have HM : Hid (IsAs w.heap.size w ba bs) := hbs
  clear hbs
  have n1 := Abx.new w (.bool c1) (.slice sa1 sz1.length sc1) (.slice da1 dz1.length dc1)
  have n2 := Abx.new (w.alloc (.cells #[.bool c1, .slice sa1 sz1.length sc1, .slice da1 dz1.length dc1] 24)) (.bool c2) (.slice sa2 sz2.length sc2) (.slice da2 dz2.length dc2)
  simp only [World.size_alloc] at n2
  have n3 := lit_mid ((w.alloc (.cells #[.bool c1, .slice sa1 sz1.length sc1, .slice da1 dz1.length dc1] 24)).alloc (.cells #[.bool c2, .slice sa2 sz2.length sc2, .slice da2 dz2.length dc2] 24)) 3 [4, 5, 6] 3 rfl
  simp only [World.size_alloc, List.map_cons, List.map_nil] at n3
  go_enter Try.func4, Try.ntmps4
  go_wp2_with fail
  obtain ⟨wo4, hwo4⟩ : ∃ wo4, wo4 = (((w.alloc (.cells #[.bool c1, .slice sa1 sz1.length sc1, .slice da1 dz1.length dc1] 24)).alloc (.cells #[.bool c2, .slice sa2 sz2.length sc2, .slice da2 dz2.length dc2] 24)).alloc (.cells #[.int .i64 4, .int .i64 5, .int .i64 6] 3)) := ⟨_, rfl⟩
  rw [← hwo4]
  have z5 : w.heap.size + 1 + 1 + 1 ≤ wo4.heap.size := by rw [hwo4]; simp only [World.size_alloc]; omega
  have B6 : Hid (Abx wo4 (w.heap.size) (.bool c1) (.slice sa1 sz1.length sc1) (.slice da1 dz1.length dc1)) := by rw [hwo4]; exact ((n1.al (.cells #[.bool c2, .slice sa2 sz2.length sc2, .slice da2 dz2.length dc2] 24)).al (.cells #[.int .i64 4, .int .i64 5, .int .i64 6] 3))
  have B7 : Hid (Abx wo4 (w.heap.size + 1) (.bool c2) (.slice sa2 sz2.length sc2) (.slice da2 dz2.length dc2)) := by rw [hwo4]; exact (n2.al (.cells #[.int .i64 4, .int .i64 5, .int .i64 6] 3))
  have L8 : Hid (MidC (w.heap.size + 1 + 1) (w.heap.size + 1 + 1 + 1) wo4 (some ⟨w.heap.size + 1 + 1, 0, none⟩) ([4, 5, 6]) (3)) := by rw [hwo4]; exact n3
  have hb9 : Hid (Below w.heap.size w wo4) := by rw [hwo4]; exact ((((Below.refl w.heap.size w).alloc (by omega) (.cells #[.bool c1, .slice sa1 sz1.length sc1, .slice da1 dz1.length dc1] 24)).alloc (by simp only [World.size_alloc]; omega) (.cells #[.bool c2, .slice sa2 sz2.length sc2, .slice da2 dz2.length dc2] 24)).alloc (by simp only [World.size_alloc]; omega) (.cells #[.int .i64 4, .int .i64 5, .int .i64 6] 3))
  have zwo4 : w.heap.size ≤ wo4.heap.size := hb9.out.size
  clear hwo4 n1 n2 n3
  refine (vec_c (some ⟨w.heap.size + 1 + 1, 0, none⟩) 3 [4, 5, 6] (by simp) _ (L8.out.is (by omega)).1).mono ?_
  rintro e v1 ⟨vap, vcp, gap, gcp, rfl, hVp, hGp, hB⟩
  have z10 : wo4.heap.size ≤ v1.heap.size := hB.size
  have B11 : Hid (Abx v1 (w.heap.size) (.bool c1) (.slice sa1 sz1.length sc1) (.slice da1 dz1.length dc1)) := B6.out.go hB
  have B12 : Hid (Abx v1 (w.heap.size + 1) (.bool c2) (.slice sa2 sz2.length sc2) (.slice da2 dz2.length dc2)) := B7.out.go hB
  have L13 : Hid (MidC (w.heap.size + 1 + 1) (w.heap.size + 1 + 1 + 1) v1 (some ⟨w.heap.size + 1 + 1, 0, none⟩) ([4, 5, 6]) (3)) := L8.out.go (by omega) hB
  have hb14 : Hid (Below w.heap.size w v1) := hb9.out.trans (hB.mono hb9.out.size)
  have L15 : Hid (MidC (wo4.heap.size) (v1.heap.size) v1 (vap) ([(3 : Int)]) (vcp)) := hVp.midc
  have L16 : Hid (MidC (wo4.heap.size) (v1.heap.size) v1 (gap) ([4, 5, 6]) (gcp)) := hGp.midc
  clear hB hb9 B6 B7 L8 hVp hGp
  clear L13
  have n17 := lit_mid v1 3 [2, 0] 2 rfl
  simp only [List.map_cons, List.map_nil] at n17
  go_wp2_with fail
  obtain ⟨wo18, hwo18⟩ : ∃ wo18, wo18 = (v1.alloc (.cells #[.int .i64 2, .int .i64 0] 3)) := ⟨_, rfl⟩
  rw [← hwo18]
  have z19 : v1.heap.size + 1 ≤ wo18.heap.size := by rw [hwo18]; simp only [World.size_alloc]; omega
  have B20 : Hid (Abx wo18 (w.heap.size) (.bool c1) (.slice sa1 sz1.length sc1) (.slice da1 dz1.length dc1)) := by rw [hwo18]; exact (B11.out.al (.cells #[.int .i64 2, .int .i64 0] 3))
  have B21 : Hid (Abx wo18 (w.heap.size + 1) (.bool c2) (.slice sa2 sz2.length sc2) (.slice da2 dz2.length dc2)) := by rw [hwo18]; exact (B12.out.al (.cells #[.int .i64 2, .int .i64 0] 3))
  have L22 : Hid (MidC (wo4.heap.size) (v1.heap.size) wo18 (vap) ([(3 : Int)]) (vcp)) := by rw [hwo18]; exact (L15.out.al (by omega) (.cells #[.int .i64 2, .int .i64 0] 3))
  have L23 : Hid (MidC (wo4.heap.size) (v1.heap.size) wo18 (gap) ([4, 5, 6]) (gcp)) := by rw [hwo18]; exact (L16.out.al (by omega) (.cells #[.int .i64 2, .int .i64 0] 3))
  have L24 : Hid (MidC (v1.heap.size) (v1.heap.size + 1) wo18 (some ⟨v1.heap.size, 0, none⟩) ([2, 0]) (2)) := by rw [hwo18]; exact n17
  have hb25 : Hid (Below w.heap.size w wo18) := by rw [hwo18]; exact (hb14.out.alloc (by omega) (.cells #[.int .i64 2, .int .i64 0] 3))
  have zwo18 : w.heap.size ≤ wo18.heap.size := hb25.out.size
  clear hwo18 n17 hb14 B11 B12 L15 L16
  refine (vec_c (some ⟨v1.heap.size, 0, none⟩) 2 [2, 0] (by simp) _ (L24.out.is (by omega)).1).mono ?_
  rintro e v2 ⟨vaq, vcq, gaq, gcq, rfl, hVq, hGq, hB⟩
  have z26 : wo18.heap.size ≤ v2.heap.size := hB.size
  have B27 : Hid (Abx v2 (w.heap.size) (.bool c1) (.slice sa1 sz1.length sc1) (.slice da1 dz1.length dc1)) := B20.out.go hB
  have B28 : Hid (Abx v2 (w.heap.size + 1) (.bool c2) (.slice sa2 sz2.length sc2) (.slice da2 dz2.length dc2)) := B21.out.go hB
  have L29 : Hid (MidC (wo4.heap.size) (v1.heap.size) v2 (vap) ([(3 : Int)]) (vcp)) := L22.out.go (by omega) hB
  have L30 : Hid (MidC (wo4.heap.size) (v1.heap.size) v2 (gap) ([4, 5, 6]) (gcp)) := L23.out.go (by omega) hB
  have L31 : Hid (MidC (v1.heap.size) (v1.heap.size + 1) v2 (some ⟨v1.heap.size, 0, none⟩) ([2, 0]) (2)) := L24.out.go (by omega) hB
  have hb32 : Hid (Below w.heap.size w v2) := hb25.out.trans (hB.mono hb25.out.size)
  have L33 : Hid (MidC (wo18.heap.size) (v2.heap.size) v2 (vaq) ([(2 : Int)]) (vcq)) := hVq.midc
  have L34 : Hid (MidC (wo18.heap.size) (v2.heap.size) v2 (gaq) ([2, 0]) (gcq)) := hGq.midc
  clear hB hb25 B20 B21 L22 L23 L24 hVq hGq
  clear L31
  have n35 := Abx.new v2 (.bool false) (.slice vaq 1 vcq) (.slice gaq 2 gcq)
  go_wp2_with fail
  obtain ⟨wo36, hwo36⟩ : ∃ wo36, wo36 = (v2.alloc (.cells #[.bool false, .slice vaq 1 vcq, .slice gaq 2 gcq] 24)) := ⟨_, rfl⟩
  rw [← hwo36]
  have z37 : v2.heap.size + 1 ≤ wo36.heap.size := by rw [hwo36]; simp only [World.size_alloc]; omega
  have B38 : Hid (Abx wo36 (w.heap.size) (.bool c1) (.slice sa1 sz1.length sc1) (.slice da1 dz1.length dc1)) := by rw [hwo36]; exact (B27.out.al (.cells #[.bool false, .slice vaq 1 vcq, .slice gaq 2 gcq] 24))
  have B39 : Hid (Abx wo36 (w.heap.size + 1) (.bool c2) (.slice sa2 sz2.length sc2) (.slice da2 dz2.length dc2)) := by rw [hwo36]; exact (B28.out.al (.cells #[.bool false, .slice vaq 1 vcq, .slice gaq 2 gcq] 24))
  have B40 : Hid (Abx wo36 (v2.heap.size) (.bool false) (.slice vaq 1 vcq) (.slice gaq 2 gcq)) := by rw [hwo36]; exact n35
  have L41 : Hid (MidC (wo4.heap.size) (v1.heap.size) wo36 (vap) ([(3 : Int)]) (vcp)) := by rw [hwo36]; exact (L29.out.al (by omega) (.cells #[.bool false, .slice vaq 1 vcq, .slice gaq 2 gcq] 24))
  have L42 : Hid (MidC (wo4.heap.size) (v1.heap.size) wo36 (gap) ([4, 5, 6]) (gcp)) := by rw [hwo36]; exact (L30.out.al (by omega) (.cells #[.bool false, .slice vaq 1 vcq, .slice gaq 2 gcq] 24))
  have L43 : Hid (MidC (wo18.heap.size) (v2.heap.size) wo36 (vaq) ([(2 : Int)]) (vcq)) := by rw [hwo36]; exact (L33.out.al (by omega) (.cells #[.bool false, .slice vaq 1 vcq, .slice gaq 2 gcq] 24))
  have L44 : Hid (MidC (wo18.heap.size) (v2.heap.size) wo36 (gaq) ([2, 0]) (gcq)) := by rw [hwo36]; exact (L34.out.al (by omega) (.cells #[.bool false, .slice vaq 1 vcq, .slice gaq 2 gcq] 24))
  have hb45 : Hid (Below w.heap.size w wo36) := by rw [hwo36]; exact (hb32.out.alloc (by omega) (.cells #[.bool false, .slice vaq 1 vcq, .slice gaq 2 gcq] 24))
  have zwo36 : w.heap.size ≤ wo36.heap.size := hb45.out.size
  clear hwo36 n35 hb32 B27 B28 L29 L30 L33 L34
  refine (at_ok false vap vcp [(3 : Int)] gap gcp [4, 5, 6] (some ⟨v2.heap.size, 0, none⟩) 1 [(false, (((vaq, vcq), [(2 : Int)]), ((gaq, gcq), [2, 0])))] 1 rfl _ (by simp) (by simp) (by decide) (L41.out.is (by omega)) (L42.out.is (by omega)) (as_one (c := false) (sa := vaq) (sc := vcq) (sz := [(2 : Int)]) (da := gaq) (dc := gcq) (dz := [2, 0]) B40.out (by simp) (by simp) (L43.out.is (by omega)) (L44.out.is (by omega)) (lit_all (by decide)) (lit_all (by decide))) [2] [6, 4] HA (by show pkE false [(3 : Int)] [4, 5, 6] [(false, ([(2 : Int)], [2, 0]))] = 0 ∧ pkS [(false, ([(2 : Int)], [2, 0]))] = [2] ∧ pkD [(3 : Int)] [4, 5, 6] [(false, ([(2 : Int)], [2, 0]))] = [6, 4]; decide)).mono ?_
  rintro e v3 ⟨f1, g1, f2, g2, rfl, hX0, hY0, hB⟩
  have z46 : wo36.heap.size ≤ v3.heap.size := hB.size
  have B47 : Hid (Abx v3 (w.heap.size) (.bool c1) (.slice sa1 sz1.length sc1) (.slice da1 dz1.length dc1)) := B38.out.go hB
  have B48 : Hid (Abx v3 (w.heap.size + 1) (.bool c2) (.slice sa2 sz2.length sc2) (.slice da2 dz2.length dc2)) := B39.out.go hB
  have B49 : Hid (Abx v3 (v2.heap.size) (.bool false) (.slice vaq 1 vcq) (.slice gaq 2 gcq)) := B40.out.go hB
  have L50 : Hid (MidC (wo4.heap.size) (v1.heap.size) v3 (vap) ([(3 : Int)]) (vcp)) := L41.out.go (by omega) hB
  have L51 : Hid (MidC (wo4.heap.size) (v1.heap.size) v3 (gap) ([4, 5, 6]) (gcp)) := L42.out.go (by omega) hB
  have L52 : Hid (MidC (wo18.heap.size) (v2.heap.size) v3 (vaq) ([(2 : Int)]) (vcq)) := L43.out.go (by omega) hB
  have L53 : Hid (MidC (wo18.heap.size) (v2.heap.size) v3 (gaq) ([2, 0]) (gcq)) := L44.out.go (by omega) hB
  have hb54 : Hid (Below w.heap.size w v3) := hb45.out.trans (hB.mono hb45.out.size)
  have L55 : Hid (MidC (wo36.heap.size) (v3.heap.size) v3 (f1) ([2]) (g1)) := hX0.midc
  have L56 : Hid (MidC (wo36.heap.size) (v3.heap.size) v3 (f2) ([6, 4]) (g2)) := hY0.midc
  clear hB hb45 B38 B39 B40 L41 L42 L43 L44 hX0 hY0
  clear L50 L51 L52 L53 B49
  have n57 := Abx.new v3 (.bool false) (.slice f1 1 g1) (.slice f2 2 g2)
  have l58 := (n57).c0
  have l59 := (n57).c1
  have l60 := (n57).c2
  have n61 := lit_mid (v3.alloc (.cells #[.bool false, .slice f1 1 g1, .slice f2 2 g2] 24)) 3 [6, 4] 2 rfl
  simp only [World.size_alloc, List.map_cons, List.map_nil] at n61
  go_wp2_with fail
  obtain ⟨wo62, hwo62⟩ : ∃ wo62, wo62 = ((v3.alloc (.cells #[.bool false, .slice f1 1 g1, .slice f2 2 g2] 24)).alloc (.cells #[.int .i64 6, .int .i64 4] 3)) := ⟨_, rfl⟩
  rw [← hwo62]
  have z63 : v3.heap.size + 1 + 1 ≤ wo62.heap.size := by rw [hwo62]; simp only [World.size_alloc]; omega
  have B64 : Hid (Abx wo62 (w.heap.size) (.bool c1) (.slice sa1 sz1.length sc1) (.slice da1 dz1.length dc1)) := by rw [hwo62]; exact ((B47.out.al (.cells #[.bool false, .slice f1 1 g1, .slice f2 2 g2] 24)).al (.cells #[.int .i64 6, .int .i64 4] 3))
  have B65 : Hid (Abx wo62 (w.heap.size + 1) (.bool c2) (.slice sa2 sz2.length sc2) (.slice da2 dz2.length dc2)) := by rw [hwo62]; exact ((B48.out.al (.cells #[.bool false, .slice f1 1 g1, .slice f2 2 g2] 24)).al (.cells #[.int .i64 6, .int .i64 4] 3))
  have B66 : Hid (Abx wo62 (v3.heap.size) (.bool false) (.slice f1 1 g1) (.slice f2 2 g2)) := by rw [hwo62]; exact (n57.al (.cells #[.int .i64 6, .int .i64 4] 3))
  have L67 : Hid (MidC (wo36.heap.size) (v3.heap.size) wo62 (f1) ([2]) (g1)) := by rw [hwo62]; exact ((L55.out.al (by omega) (.cells #[.bool false, .slice f1 1 g1, .slice f2 2 g2] 24)).al (by simp only [World.size_alloc]; omega) (.cells #[.int .i64 6, .int .i64 4] 3))
  have L68 : Hid (MidC (wo36.heap.size) (v3.heap.size) wo62 (f2) ([6, 4]) (g2)) := by rw [hwo62]; exact ((L56.out.al (by omega) (.cells #[.bool false, .slice f1 1 g1, .slice f2 2 g2] 24)).al (by simp only [World.size_alloc]; omega) (.cells #[.int .i64 6, .int .i64 4] 3))
  have L69 : Hid (MidC (v3.heap.size + 1) (v3.heap.size + 1 + 1) wo62 (some ⟨v3.heap.size + 1, 0, none⟩) ([6, 4]) (2)) := by rw [hwo62]; exact n61
  have hb70 : Hid (Below w.heap.size w wo62) := by rw [hwo62]; exact ((hb54.out.alloc (by omega) (.cells #[.bool false, .slice f1 1 g1, .slice f2 2 g2] 24)).alloc (by simp only [World.size_alloc]; omega) (.cells #[.int .i64 6, .int .i64 4] 3))
  have zwo62 : w.heap.size ≤ wo62.heap.size := hb70.out.size
  clear hwo62 n57 l58 l59 l60 n61 hb54 B47 B48 L55 L56
  refine (ints_any f2 g2 [6, 4] (some ⟨v3.heap.size + 1, 0, none⟩) 2 [6, 4] (by simp) _ _ (L68.out.is (by omega)).1 (L69.out.is (by omega)).1).mono ?_
  rintro e v4 ⟨rfl, hB⟩
  have z71 : wo62.heap.size ≤ v4.heap.size := hB.size
  have B72 : Hid (Abx v4 (w.heap.size) (.bool c1) (.slice sa1 sz1.length sc1) (.slice da1 dz1.length dc1)) := B64.out.go hB
  have B73 : Hid (Abx v4 (w.heap.size + 1) (.bool c2) (.slice sa2 sz2.length sc2) (.slice da2 dz2.length dc2)) := B65.out.go hB
  have B74 : Hid (Abx v4 (v3.heap.size) (.bool false) (.slice f1 1 g1) (.slice f2 2 g2)) := B66.out.go hB
  have L75 : Hid (MidC (wo36.heap.size) (v3.heap.size) v4 (f1) ([2]) (g1)) := L67.out.go (by omega) hB
  have L76 : Hid (MidC (wo36.heap.size) (v3.heap.size) v4 (f2) ([6, 4]) (g2)) := L68.out.go (by omega) hB
  have L77 : Hid (MidC (v3.heap.size + 1) (v3.heap.size + 1 + 1) v4 (some ⟨v3.heap.size + 1, 0, none⟩) ([6, 4]) (2)) := L69.out.go (by omega) hB
  have hb78 : Hid (Below w.heap.size w v4) := hb70.out.trans (hB.mono hb70.out.size)
  clear hB hb70 B64 B65 B66 L67 L68 L69
  rw [eqB_true rfl]
  clear L75 L76 L77 B74
  have l79 := (B72.out).c0
  have l80 := (B72.out).c1
  have l81 := (B72.out).c2
  have l82 := (B73.out).c0
  have l83 := (B73.out).c1
  have l84 := (B73.out).c2
  have n85 := Abx.new v4 (.bool c2) (.slice sa2 sz2.length sc2) (.slice da2 dz2.length dc2)
  go_wp2_with fail
  obtain ⟨wo86, hwo86⟩ : ∃ wo86, wo86 = (v4.alloc (.cells #[.bool c2, .slice sa2 sz2.length sc2, .slice da2 dz2.length dc2] 24)) := ⟨_, rfl⟩
  rw [← hwo86]
  have z87 : v4.heap.size + 1 ≤ wo86.heap.size := by rw [hwo86]; simp only [World.size_alloc]; omega
  have B88 : Hid (Abx wo86 (w.heap.size) (.bool c1) (.slice sa1 sz1.length sc1) (.slice da1 dz1.length dc1)) := by rw [hwo86]; exact (B72.out.al (.cells #[.bool c2, .slice sa2 sz2.length sc2, .slice da2 dz2.length dc2] 24))
  have B89 : Hid (Abx wo86 (w.heap.size + 1) (.bool c2) (.slice sa2 sz2.length sc2) (.slice da2 dz2.length dc2)) := by rw [hwo86]; exact (B73.out.al (.cells #[.bool c2, .slice sa2 sz2.length sc2, .slice da2 dz2.length dc2] 24))
  have B90 : Hid (Abx wo86 (v4.heap.size) (.bool c2) (.slice sa2 sz2.length sc2) (.slice da2 dz2.length dc2)) := by rw [hwo86]; exact n85
  have hb91 : Hid (Below w.heap.size w wo86) := by rw [hwo86]; exact (hb78.out.alloc (by omega) (.cells #[.bool c2, .slice sa2 sz2.length sc2, .slice da2 dz2.length dc2] 24))
  have zwo86 : w.heap.size ≤ wo86.heap.size := hb91.out.size
  clear hwo86 l79 l80 l81 l82 l83 l84 n85 hb78 B72 B73
  refine (at_ok c1 sa1 sc1 sz1 da1 dc1 dz1 (some ⟨v4.heap.size, 0, none⟩) 1 [(c2, (((sa2, sc2), sz2), ((da2, dc2), dz2)))] 1 rfl _ x11 x12 (by decide) ((HI1.out.1.below hb91.out).mono hb91.out.size) ((HI1.out.2.1.below hb91.out).mono hb91.out.size) (as_one (c := c2) (sa := sa2) (sc := sc2) (sz := sz2) (da := da2) (dc := dc2) (dz := dz2) B90.out x21 x22 ((HI2.out.1.below hb91.out).mono hb91.out.size) ((HI2.out.2.1.below hb91.out).mono hb91.out.size) HI2.out.2.2.1 HI2.out.2.2.2) S1 D1 HA ⟨F1.out, HS1.out.1.symm, HS1.out.2.symm⟩).mono ?_
  rintro e v5 ⟨xa1, xc1, ya1, yc1, rfl, hX1, hY1, hB⟩
  have z92 : wo86.heap.size ≤ v5.heap.size := hB.size
  have B93 : Hid (Abx v5 (w.heap.size) (.bool c1) (.slice sa1 sz1.length sc1) (.slice da1 dz1.length dc1)) := B88.out.go hB
  have B94 : Hid (Abx v5 (w.heap.size + 1) (.bool c2) (.slice sa2 sz2.length sc2) (.slice da2 dz2.length dc2)) := B89.out.go hB
  have B95 : Hid (Abx v5 (v4.heap.size) (.bool c2) (.slice sa2 sz2.length sc2) (.slice da2 dz2.length dc2)) := B90.out.go hB
  have hb96 : Hid (Below w.heap.size w v5) := hb91.out.trans (hB.mono hb91.out.size)
  have L97 : Hid (MidC (wo86.heap.size) (v5.heap.size) v5 (xa1) (S1) (xc1)) := hX1.midc
  have L98 : Hid (MidC (wo86.heap.size) (v5.heap.size) v5 (ya1) (D1) (yc1)) := hY1.midc
  clear hB hb91 B88 B89 B90 hX1 hY1
  clear B95
  have n99 := Abx.new v5 (.bool c1) (.slice xa1 S1.length xc1) (.slice ya1 D1.length yc1)
  have l100 := (n99).c0
  have l101 := (n99).c1
  have l102 := (n99).c2
  go_wp2_with fail
  obtain ⟨wo103, hwo103⟩ : ∃ wo103, wo103 = (v5.alloc (.cells #[.bool c1, .slice xa1 S1.length xc1, .slice ya1 D1.length yc1] 24)) := ⟨_, rfl⟩
  rw [← hwo103]
  have z104 : v5.heap.size + 1 ≤ wo103.heap.size := by rw [hwo103]; simp only [World.size_alloc]; omega
  have B105 : Hid (Abx wo103 (w.heap.size) (.bool c1) (.slice sa1 sz1.length sc1) (.slice da1 dz1.length dc1)) := by rw [hwo103]; exact (B93.out.al (.cells #[.bool c1, .slice xa1 S1.length xc1, .slice ya1 D1.length yc1] 24))
  have B106 : Hid (Abx wo103 (w.heap.size + 1) (.bool c2) (.slice sa2 sz2.length sc2) (.slice da2 dz2.length dc2)) := by rw [hwo103]; exact (B94.out.al (.cells #[.bool c1, .slice xa1 S1.length xc1, .slice ya1 D1.length yc1] 24))
  have B107 : Hid (Abx wo103 (v5.heap.size) (.bool c1) (.slice xa1 S1.length xc1) (.slice ya1 D1.length yc1)) := by rw [hwo103]; exact n99
  have L108 : Hid (MidC (wo86.heap.size) (v5.heap.size) wo103 (xa1) (S1) (xc1)) := by rw [hwo103]; exact (L97.out.al (by omega) (.cells #[.bool c1, .slice xa1 S1.length xc1, .slice ya1 D1.length yc1] 24))
  have L109 : Hid (MidC (wo86.heap.size) (v5.heap.size) wo103 (ya1) (D1) (yc1)) := by rw [hwo103]; exact (L98.out.al (by omega) (.cells #[.bool c1, .slice xa1 S1.length xc1, .slice ya1 D1.length yc1] 24))
  have hb110 : Hid (Below w.heap.size w wo103) := by rw [hwo103]; exact (hb96.out.alloc (by omega) (.cells #[.bool c1, .slice xa1 S1.length xc1, .slice ya1 D1.length yc1] 24))
  have zwo103 : w.heap.size ≤ wo103.heap.size := hb110.out.size
  clear hwo103 n99 l100 l101 l102 hb96 B93 B94 L97 L98
  refine (at_ok c1 xa1 xc1 S1 ya1 yc1 D1 ba bc bs bs.length rfl _ (by have := HL1.out.1; omega) (by have := HL1.out.2; omega) hbl (L108.out.is (by omega)) (L109.out.is (by omega)) ((HM.out.below hb110.out).mono hb110.out.size) S2 D2 HA ⟨by rw [HS1.out.1, HS1.out.2]; exact F2.out, HS2.out.1.symm, HS2.out.2.1.symm⟩).mono ?_
  rintro e v6 ⟨xa2, xc2, ya2, yc2, rfl, hX2, hY2, hB⟩
  have z111 : wo103.heap.size ≤ v6.heap.size := hB.size
  have B112 : Hid (Abx v6 (w.heap.size) (.bool c1) (.slice sa1 sz1.length sc1) (.slice da1 dz1.length dc1)) := B105.out.go hB
  have B113 : Hid (Abx v6 (w.heap.size + 1) (.bool c2) (.slice sa2 sz2.length sc2) (.slice da2 dz2.length dc2)) := B106.out.go hB
  have B114 : Hid (Abx v6 (v5.heap.size) (.bool c1) (.slice xa1 S1.length xc1) (.slice ya1 D1.length yc1)) := B107.out.go hB
  have L115 : Hid (MidC (wo86.heap.size) (v5.heap.size) v6 (xa1) (S1) (xc1)) := L108.out.go (by omega) hB
  have L116 : Hid (MidC (wo86.heap.size) (v5.heap.size) v6 (ya1) (D1) (yc1)) := L109.out.go (by omega) hB
  have hb117 : Hid (Below w.heap.size w v6) := hb110.out.trans (hB.mono hb110.out.size)
  have L118 : Hid (MidC (wo103.heap.size) (v6.heap.size) v6 (xa2) (S2) (xc2)) := hX2.midc
  have L119 : Hid (MidC (wo103.heap.size) (v6.heap.size) v6 (ya2) (D2) (yc2)) := hY2.midc
  clear hB hb110 B105 B106 B107 L108 L109 hX2 hY2
  clear L115 L116
  have n120 := Abx.new v6 (.bool c1) (.slice xa2 S2.length xc2) (.slice ya2 D2.length yc2)
  have l121 := ((B113.out.al (.cells #[.bool c1, .slice xa2 S2.length xc2, .slice ya2 D2.length yc2] 24))).c0
  have l122 := ((B113.out.al (.cells #[.bool c1, .slice xa2 S2.length xc2, .slice ya2 D2.length yc2] 24))).c1
  have l123 := ((B113.out.al (.cells #[.bool c1, .slice xa2 S2.length xc2, .slice ya2 D2.length yc2] 24))).c2
  go_wp2_with fail
  obtain ⟨wo124, hwo124⟩ : ∃ wo124, wo124 = (v6.alloc (.cells #[.bool c1, .slice xa2 S2.length xc2, .slice ya2 D2.length yc2] 24)) := ⟨_, rfl⟩
  rw [← hwo124]
  have z125 : v6.heap.size + 1 ≤ wo124.heap.size := by rw [hwo124]; simp only [World.size_alloc]; omega
  have B126 : Hid (Abx wo124 (w.heap.size) (.bool c1) (.slice sa1 sz1.length sc1) (.slice da1 dz1.length dc1)) := by rw [hwo124]; exact (B112.out.al (.cells #[.bool c1, .slice xa2 S2.length xc2, .slice ya2 D2.length yc2] 24))
  have B127 : Hid (Abx wo124 (w.heap.size + 1) (.bool c2) (.slice sa2 sz2.length sc2) (.slice da2 dz2.length dc2)) := by rw [hwo124]; exact (B113.out.al (.cells #[.bool c1, .slice xa2 S2.length xc2, .slice ya2 D2.length yc2] 24))
  have B128 : Hid (Abx wo124 (v5.heap.size) (.bool c1) (.slice xa1 S1.length xc1) (.slice ya1 D1.length yc1)) := by rw [hwo124]; exact (B114.out.al (.cells #[.bool c1, .slice xa2 S2.length xc2, .slice ya2 D2.length yc2] 24))
  have B129 : Hid (Abx wo124 (v6.heap.size) (.bool c1) (.slice xa2 S2.length xc2) (.slice ya2 D2.length yc2)) := by rw [hwo124]; exact n120
  have L130 : Hid (MidC (wo103.heap.size) (v6.heap.size) wo124 (xa2) (S2) (xc2)) := by rw [hwo124]; exact (L118.out.al (by omega) (.cells #[.bool c1, .slice xa2 S2.length xc2, .slice ya2 D2.length yc2] 24))
  have L131 : Hid (MidC (wo103.heap.size) (v6.heap.size) wo124 (ya2) (D2) (yc2)) := by rw [hwo124]; exact (L119.out.al (by omega) (.cells #[.bool c1, .slice xa2 S2.length xc2, .slice ya2 D2.length yc2] 24))
  have hb132 : Hid (Below w.heap.size w wo124) := by rw [hwo124]; exact (hb117.out.alloc (by omega) (.cells #[.bool c1, .slice xa2 S2.length xc2, .slice ya2 D2.length yc2] 24))
  have zwo124 : w.heap.size ≤ wo124.heap.size := hb132.out.size
  clear hwo124 n120 l121 l122 l123 hb117 B112 B113 B114 L118 L119
  clear B128
  refine (at_ok c2 sa2 sc2 sz2 da2 dc2 dz2 ba bc bs bs.length rfl _ x21 x22 hbl ((HI2.out.1.below hb132.out).mono hb132.out.size) ((HI2.out.2.1.below hb132.out).mono hb132.out.size) ((HM.out.below hb132.out).mono hb132.out.size) S2 D3 HA ⟨HC.out.1, HS2.out.1.symm, HS2.out.2.2.symm⟩).mono ?_
  rintro e v7 ⟨xa3, xc3, ya3, yc3, rfl, hX3, hY3, hB⟩
  have z133 : wo124.heap.size ≤ v7.heap.size := hB.size
  have B134 : Hid (Abx v7 (w.heap.size) (.bool c1) (.slice sa1 sz1.length sc1) (.slice da1 dz1.length dc1)) := B126.out.go hB
  have B135 : Hid (Abx v7 (w.heap.size + 1) (.bool c2) (.slice sa2 sz2.length sc2) (.slice da2 dz2.length dc2)) := B127.out.go hB
  have B136 : Hid (Abx v7 (v6.heap.size) (.bool c1) (.slice xa2 S2.length xc2) (.slice ya2 D2.length yc2)) := B129.out.go hB
  have L137 : Hid (MidC (wo103.heap.size) (v6.heap.size) v7 (xa2) (S2) (xc2)) := L130.out.go (by omega) hB
  have L138 : Hid (MidC (wo103.heap.size) (v6.heap.size) v7 (ya2) (D2) (yc2)) := L131.out.go (by omega) hB
  have hb139 : Hid (Below w.heap.size w v7) := hb132.out.trans (hB.mono hb132.out.size)
  have L140 : Hid (MidC (wo124.heap.size) (v7.heap.size) v7 (xa3) (S2) (xc3)) := hX3.midc
  have L141 : Hid (MidC (wo124.heap.size) (v7.heap.size) v7 (ya3) (D3) (yc3)) := hY3.midc
  clear hB hb132 B126 B127 B129 L130 L131 hX3 hY3
  have n142 := Abx.new v7 (.bool c2) (.slice xa3 S2.length xc3) (.slice ya3 D3.length yc3)
  have l143 := (n142).c0
  have l144 := (n142).c1
  have l145 := (n142).c2
  have l146 := ((B134.out.al (.cells #[.bool c2, .slice xa3 S2.length xc3, .slice ya3 D3.length yc3] 24))).c0
  have l147 := ((B134.out.al (.cells #[.bool c2, .slice xa3 S2.length xc3, .slice ya3 D3.length yc3] 24))).c1
  have l148 := ((B134.out.al (.cells #[.bool c2, .slice xa3 S2.length xc3, .slice ya3 D3.length yc3] 24))).c2
  have n149 := Abx.new (v7.alloc (.cells #[.bool c2, .slice xa3 S2.length xc3, .slice ya3 D3.length yc3] 24)) (.bool c2) (.slice xa3 S2.length xc3) (.slice ya3 D3.length yc3)
  simp only [World.size_alloc] at n149
  go_wp2_with fail
  obtain ⟨wo150, hwo150⟩ : ∃ wo150, wo150 = ((v7.alloc (.cells #[.bool c2, .slice xa3 S2.length xc3, .slice ya3 D3.length yc3] 24)).alloc (.cells #[.bool c2, .slice xa3 S2.length xc3, .slice ya3 D3.length yc3] 24)) := ⟨_, rfl⟩
  rw [← hwo150]
  have z151 : v7.heap.size + 1 + 1 ≤ wo150.heap.size := by rw [hwo150]; simp only [World.size_alloc]; omega
  have B152 : Hid (Abx wo150 (w.heap.size) (.bool c1) (.slice sa1 sz1.length sc1) (.slice da1 dz1.length dc1)) := by rw [hwo150]; exact ((B134.out.al (.cells #[.bool c2, .slice xa3 S2.length xc3, .slice ya3 D3.length yc3] 24)).al (.cells #[.bool c2, .slice xa3 S2.length xc3, .slice ya3 D3.length yc3] 24))
  have B153 : Hid (Abx wo150 (w.heap.size + 1) (.bool c2) (.slice sa2 sz2.length sc2) (.slice da2 dz2.length dc2)) := by rw [hwo150]; exact ((B135.out.al (.cells #[.bool c2, .slice xa3 S2.length xc3, .slice ya3 D3.length yc3] 24)).al (.cells #[.bool c2, .slice xa3 S2.length xc3, .slice ya3 D3.length yc3] 24))
  have B154 : Hid (Abx wo150 (v6.heap.size) (.bool c1) (.slice xa2 S2.length xc2) (.slice ya2 D2.length yc2)) := by rw [hwo150]; exact ((B136.out.al (.cells #[.bool c2, .slice xa3 S2.length xc3, .slice ya3 D3.length yc3] 24)).al (.cells #[.bool c2, .slice xa3 S2.length xc3, .slice ya3 D3.length yc3] 24))
  have B155 : Hid (Abx wo150 (v7.heap.size) (.bool c2) (.slice xa3 S2.length xc3) (.slice ya3 D3.length yc3)) := by rw [hwo150]; exact (n142.al (.cells #[.bool c2, .slice xa3 S2.length xc3, .slice ya3 D3.length yc3] 24))
  have B156 : Hid (Abx wo150 (v7.heap.size + 1) (.bool c2) (.slice xa3 S2.length xc3) (.slice ya3 D3.length yc3)) := by rw [hwo150]; exact n149
  have L157 : Hid (MidC (wo103.heap.size) (v6.heap.size) wo150 (xa2) (S2) (xc2)) := by rw [hwo150]; exact ((L137.out.al (by omega) (.cells #[.bool c2, .slice xa3 S2.length xc3, .slice ya3 D3.length yc3] 24)).al (by simp only [World.size_alloc]; omega) (.cells #[.bool c2, .slice xa3 S2.length xc3, .slice ya3 D3.length yc3] 24))
  have L158 : Hid (MidC (wo103.heap.size) (v6.heap.size) wo150 (ya2) (D2) (yc2)) := by rw [hwo150]; exact ((L138.out.al (by omega) (.cells #[.bool c2, .slice xa3 S2.length xc3, .slice ya3 D3.length yc3] 24)).al (by simp only [World.size_alloc]; omega) (.cells #[.bool c2, .slice xa3 S2.length xc3, .slice ya3 D3.length yc3] 24))
  have L159 : Hid (MidC (wo124.heap.size) (v7.heap.size) wo150 (xa3) (S2) (xc3)) := by rw [hwo150]; exact ((L140.out.al (by omega) (.cells #[.bool c2, .slice xa3 S2.length xc3, .slice ya3 D3.length yc3] 24)).al (by simp only [World.size_alloc]; omega) (.cells #[.bool c2, .slice xa3 S2.length xc3, .slice ya3 D3.length yc3] 24))
  have L160 : Hid (MidC (wo124.heap.size) (v7.heap.size) wo150 (ya3) (D3) (yc3)) := by rw [hwo150]; exact ((L141.out.al (by omega) (.cells #[.bool c2, .slice xa3 S2.length xc3, .slice ya3 D3.length yc3] 24)).al (by simp only [World.size_alloc]; omega) (.cells #[.bool c2, .slice xa3 S2.length xc3, .slice ya3 D3.length yc3] 24))
  have hb161 : Hid (Below w.heap.size w wo150) := by rw [hwo150]; exact ((hb139.out.alloc (by omega) (.cells #[.bool c2, .slice xa3 S2.length xc3, .slice ya3 D3.length yc3] 24)).alloc (by simp only [World.size_alloc]; omega) (.cells #[.bool c2, .slice xa3 S2.length xc3, .slice ya3 D3.length yc3] 24))
  have zwo150 : w.heap.size ≤ wo150.heap.size := hb161.out.size
  clear hwo150 n142 l143 l144 l145 l146 l147 l148 n149 hb139 B134 B135 B136 L137 L138 L140 L141
  refine (at_ok c1 sa1 sc1 sz1 da1 dc1 dz1 (some ⟨v7.heap.size + 1, 0, none⟩) 1 [(c2, (((xa3, xc3), S2), ((ya3, yc3), D3)))] 1 rfl _ x11 x12 (by decide) ((HI1.out.1.below hb161.out).mono hb161.out.size) ((HI1.out.2.1.below hb161.out).mono hb161.out.size) (as_one (c := c2) (sa := xa3) (sc := xc3) (sz := S2) (da := ya3) (dc := yc3) (dz := D3) B156.out (by have := HL2.out.1; omega) (by have := HL2.out.2.2; omega) (L159.out.is (by omega)) (L160.out.is (by omega)) HT2.out.1 HT2.out.2) S2 D2 HA HC.out.2).mono ?_
  rintro e v8 ⟨xa4, xc4, ya4, yc4, rfl, hX4, hY4, hB⟩
  have z162 : wo150.heap.size ≤ v8.heap.size := hB.size
  have B163 : Hid (Abx v8 (w.heap.size) (.bool c1) (.slice sa1 sz1.length sc1) (.slice da1 dz1.length dc1)) := B152.out.go hB
  have B164 : Hid (Abx v8 (w.heap.size + 1) (.bool c2) (.slice sa2 sz2.length sc2) (.slice da2 dz2.length dc2)) := B153.out.go hB
  have B165 : Hid (Abx v8 (v6.heap.size) (.bool c1) (.slice xa2 S2.length xc2) (.slice ya2 D2.length yc2)) := B154.out.go hB
  have B166 : Hid (Abx v8 (v7.heap.size) (.bool c2) (.slice xa3 S2.length xc3) (.slice ya3 D3.length yc3)) := B155.out.go hB
  have B167 : Hid (Abx v8 (v7.heap.size + 1) (.bool c2) (.slice xa3 S2.length xc3) (.slice ya3 D3.length yc3)) := B156.out.go hB
  have L168 : Hid (MidC (wo103.heap.size) (v6.heap.size) v8 (xa2) (S2) (xc2)) := L157.out.go (by omega) hB
  have L169 : Hid (MidC (wo103.heap.size) (v6.heap.size) v8 (ya2) (D2) (yc2)) := L158.out.go (by omega) hB
  have L170 : Hid (MidC (wo124.heap.size) (v7.heap.size) v8 (xa3) (S2) (xc3)) := L159.out.go (by omega) hB
  have L171 : Hid (MidC (wo124.heap.size) (v7.heap.size) v8 (ya3) (D3) (yc3)) := L160.out.go (by omega) hB
  have hb172 : Hid (Below w.heap.size w v8) := hb161.out.trans (hB.mono hb161.out.size)
  have L173 : Hid (MidC (wo150.heap.size) (v8.heap.size) v8 (xa4) (S2) (xc4)) := hX4.midc
  have L174 : Hid (MidC (wo150.heap.size) (v8.heap.size) v8 (ya4) (D2) (yc4)) := hY4.midc
  clear hB hb161 B152 B153 B154 B155 B156 L157 L158 L159 L160 hX4 hY4
  clear B167 L170 L171 B166
  have n175 := Abx.new v8 (.bool c1) (.slice xa4 S2.length xc4) (.slice ya4 D2.length yc4)
  have l176 := ((B165.out.al (.cells #[.bool c1, .slice xa4 S2.length xc4, .slice ya4 D2.length yc4] 24))).c0
  have l177 := ((B165.out.al (.cells #[.bool c1, .slice xa4 S2.length xc4, .slice ya4 D2.length yc4] 24))).c1
  have l178 := ((B165.out.al (.cells #[.bool c1, .slice xa4 S2.length xc4, .slice ya4 D2.length yc4] 24))).c2
  have l179 := (n175).c0
  have l180 := (n175).c1
  have l181 := (n175).c2
  go_wp2_with fail
  obtain ⟨wo182, hwo182⟩ : ∃ wo182, wo182 = (v8.alloc (.cells #[.bool c1, .slice xa4 S2.length xc4, .slice ya4 D2.length yc4] 24)) := ⟨_, rfl⟩
  rw [← hwo182]
  have z183 : v8.heap.size + 1 ≤ wo182.heap.size := by rw [hwo182]; simp only [World.size_alloc]; omega
  have B184 : Hid (Abx wo182 (w.heap.size) (.bool c1) (.slice sa1 sz1.length sc1) (.slice da1 dz1.length dc1)) := by rw [hwo182]; exact (B163.out.al (.cells #[.bool c1, .slice xa4 S2.length xc4, .slice ya4 D2.length yc4] 24))
  have B185 : Hid (Abx wo182 (w.heap.size + 1) (.bool c2) (.slice sa2 sz2.length sc2) (.slice da2 dz2.length dc2)) := by rw [hwo182]; exact (B164.out.al (.cells #[.bool c1, .slice xa4 S2.length xc4, .slice ya4 D2.length yc4] 24))
  have B186 : Hid (Abx wo182 (v6.heap.size) (.bool c1) (.slice xa2 S2.length xc2) (.slice ya2 D2.length yc2)) := by rw [hwo182]; exact (B165.out.al (.cells #[.bool c1, .slice xa4 S2.length xc4, .slice ya4 D2.length yc4] 24))
  have B187 : Hid (Abx wo182 (v8.heap.size) (.bool c1) (.slice xa4 S2.length xc4) (.slice ya4 D2.length yc4)) := by rw [hwo182]; exact n175
  have L188 : Hid (MidC (wo103.heap.size) (v6.heap.size) wo182 (xa2) (S2) (xc2)) := by rw [hwo182]; exact (L168.out.al (by omega) (.cells #[.bool c1, .slice xa4 S2.length xc4, .slice ya4 D2.length yc4] 24))
  have L189 : Hid (MidC (wo103.heap.size) (v6.heap.size) wo182 (ya2) (D2) (yc2)) := by rw [hwo182]; exact (L169.out.al (by omega) (.cells #[.bool c1, .slice xa4 S2.length xc4, .slice ya4 D2.length yc4] 24))
  have L190 : Hid (MidC (wo150.heap.size) (v8.heap.size) wo182 (xa4) (S2) (xc4)) := by rw [hwo182]; exact (L173.out.al (by omega) (.cells #[.bool c1, .slice xa4 S2.length xc4, .slice ya4 D2.length yc4] 24))
  have L191 : Hid (MidC (wo150.heap.size) (v8.heap.size) wo182 (ya4) (D2) (yc4)) := by rw [hwo182]; exact (L174.out.al (by omega) (.cells #[.bool c1, .slice xa4 S2.length xc4, .slice ya4 D2.length yc4] 24))
  have hb192 : Hid (Below w.heap.size w wo182) := by rw [hwo182]; exact (hb172.out.alloc (by omega) (.cells #[.bool c1, .slice xa4 S2.length xc4, .slice ya4 D2.length yc4] 24))
  have zwo182 : w.heap.size ≤ wo182.heap.size := hb192.out.size
  clear hwo182 n175 l176 l177 l178 l179 l180 l181 hb172 B163 B164 B165 L168 L169 L173 L174
  refine (alike_eq c1 xa2 xc2 S2 ya2 yc2 D2 xa4 xc4 S2 ya4 yc4 D2 rfl rfl (by have := HL2.out.1; omega) (by have := HL2.out.2.1; omega) _ (L188.out.is (by omega)) (L189.out.is (by omega)).1 (L190.out.is (by omega)) (L191.out.is (by omega)).1).mono ?_
  rintro e v9 ⟨rfl, hB⟩
  have z193 : wo182.heap.size ≤ v9.heap.size := hB.size
  have B194 : Hid (Abx v9 (w.heap.size) (.bool c1) (.slice sa1 sz1.length sc1) (.slice da1 dz1.length dc1)) := B184.out.go hB
  have B195 : Hid (Abx v9 (w.heap.size + 1) (.bool c2) (.slice sa2 sz2.length sc2) (.slice da2 dz2.length dc2)) := B185.out.go hB
  have B196 : Hid (Abx v9 (v6.heap.size) (.bool c1) (.slice xa2 S2.length xc2) (.slice ya2 D2.length yc2)) := B186.out.go hB
  have B197 : Hid (Abx v9 (v8.heap.size) (.bool c1) (.slice xa4 S2.length xc4) (.slice ya4 D2.length yc4)) := B187.out.go hB
  have L198 : Hid (MidC (wo103.heap.size) (v6.heap.size) v9 (xa2) (S2) (xc2)) := L188.out.go (by omega) hB
  have L199 : Hid (MidC (wo103.heap.size) (v6.heap.size) v9 (ya2) (D2) (yc2)) := L189.out.go (by omega) hB
  have L200 : Hid (MidC (wo150.heap.size) (v8.heap.size) v9 (xa4) (S2) (xc4)) := L190.out.go (by omega) hB
  have L201 : Hid (MidC (wo150.heap.size) (v8.heap.size) v9 (ya4) (D2) (yc4)) := L191.out.go (by omega) hB
  have hb202 : Hid (Below w.heap.size w v9) := hb192.out.trans (hB.mono hb192.out.size)
  clear hB hb192 B184 B185 B186 B187 L188 L189 L190 L191
  clear L198 L199 L200 L201 B196 B197
  go_wp2_with fail
  go_ret
  exact ⟨rfl, hb202.out⟩
theorem pchains_walk (HA : CAt) (c1 : Bool) (sa1 : Option Addr) (sc1 : Nat) (sz1 : List Int) (da1 : Option Addr) (dc1 : Nat) (dz1 : List Int) (c2 : Bool) (sa2 : Option Addr) (sc2 : Nat) (sz2 : List Int) (da2 : Option Addr) (dc2 : Nat) (dz2 : List Int) (ba : Option Addr) (bc : Nat) (bs : List ArV) (hbl : bs.length ≤ 9223372036854775807) (w : World) (w8 : IsArrD w sa1 sz1 sc1 da1 dz1 dc1) (w9 : IsArrD w sa2 sz2 sc2 da2 dz2 dc2) (hbs : IsAs w.heap.size w ba bs) :
    Calls Try.prog 4 #[.agg #[.bool c1, .slice sa1 sz1.length sc1, .slice da1 dz1.length dc1], .agg #[.bool c2, .slice sa2 sz2.length sc2, .slice da2 dz2.length dc2], .slice ba bs.length bc] w fun e w' => e = .returned (.bool true) ∧ Below w.heap.size w w' := by
  by_cases h1 : pkE c1 sz1 dz1 [(c2, (sz2, dz2))] = 0
  · by_cases h2 : pkE c1 (pkS [(c2, (sz2, dz2))]) (pkD sz1 dz1 [(c2, (sz2, dz2))]) (bya bs) = 0
    · exact chains_ok HA c1 sa1 sc1 sz1 da1 dc1 dz1 c2 sa2 sc2 sz2 da2 dc2 dz2 ba bc bs hbl w w8 w9 hbs w9.2.2.2.2.2 h1 h2
    · exact chains_no2 HA c1 sa1 sc1 sz1 da1 dc1 dz1 c2 sa2 sc2 sz2 da2 dc2 dz2 ba bc bs hbl w w8 w9 hbs h1 h2
  · exact chains_no1 HA c1 sa1 sc1 sz1 da1 dc1 dz1 c2 sa2 sc2 sz2 da2 dc2 dz2 ba bc bs hbl w w8 w9 hbs h1
end Go.Proofs.Ytlflacoiidhgoaa
