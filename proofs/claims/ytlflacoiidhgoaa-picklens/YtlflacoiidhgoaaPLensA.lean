/-
  The walk of the statement PickLens, given what the program tells.
-/
import Derived.Test.YtlflacoiidhgoaaPatx
import Derived.Test.YtlflacoiidhgoaaPatl
import Derived.Test.YtlflacoiidhgoaaSarr
import Derived.Test.YtlflacoiidhgoaaVec
import Derived.Deep.QuietTactic
import Derived.BigQuiet
import Derived.WalkSmall
import Derived.Deep.RegionWith
namespace Go.Proofs.Ytlflacoiidhgoaa
open Go.RowKit
set_option linter.unusedVariables false

set_option maxRecDepth 100000 in
set_option maxHeartbeats 8000000 in
theorem lens_no1 (HA : CAt) (HPt : CPt) (c1 : Bool) (sa1 : Option Addr) (sc1 : Nat) (sz1 : List Int) (da1 : Option Addr) (dc1 : Nat) (dz1 : List Int) (ba : Option Addr) (bc : Nat) (bs : List ArV) (hbl : bs.length ≤ 9223372036854775807) (c2 : Bool) (sa2 : Option Addr) (sc2 : Nat) (sz2 : List Int) (da2 : Option Addr) (dc2 : Nat) (dz2 : List Int) (c3 : Bool) (sa3 : Option Addr) (sc3 : Nat) (sz3 : List Int) (da3 : Option Addr) (dc3 : Nat) (dz3 : List Int) (w : World) (w8 : IsArrD w sa1 sz1 sc1 da1 dz1 dc1) (w9 : IsArrD w sa2 sz2 sc2 da2 dz2 dc2) (w10 : IsArrD w sa3 sz3 sc3 da3 dz3 dc3) (hbs : IsAs w.heap.size w ba bs) (F1 : Hid (pkE c1 sz1 dz1 (bya bs) ≠ 0)) :
    Calls Try.prog 3 #[.agg #[.bool c1, .slice sa1 sz1.length sc1, .slice da1 dz1.length dc1], .slice ba bs.length bc, .agg #[.bool c2, .slice sa2 sz2.length sc2, .slice da2 dz2.length dc2], .agg #[.bool c3, .slice sa3 sz3.length sc3, .slice da3 dz3.length dc3]] w fun e w' => e = .returned (.bool true) ∧ Below w.heap.size w w' := by
  obtain ⟨x11, x12, x3, x4, s64, T⟩ := w8
  have HI1 : Hid (IsC w.heap.size w sa1 sz1 sc1 ∧ IsC w.heap.size w da1 dz1 dc1 ∧ (∀ j, In64 (nth sz1 j)) ∧ ∀ j, In64 (nth dz1 j)) := ⟨x3, x4, s64, T⟩
  clear x3 x4 T s64
  obtain ⟨x21, x22, x3, x4, s64, T⟩ := w9
  have HI2 : Hid (IsC w.heap.size w sa2 sz2 sc2 ∧ IsC w.heap.size w da2 dz2 dc2 ∧ (∀ j, In64 (nth sz2 j)) ∧ ∀ j, In64 (nth dz2 j)) := ⟨x3, x4, s64, T⟩
  clear x3 x4 T s64
  obtain ⟨x31, x32, x3, x4, s64, T⟩ := w10
  have HI3 : Hid (IsC w.heap.size w sa3 sz3 sc3 ∧ IsC w.heap.size w da3 dz3 dc3 ∧ (∀ j, In64 (nth sz3 j)) ∧ ∀ j, In64 (nth dz3 j)) := ⟨x3, x4, s64, T⟩
  clear x3 x4 T s64
  have HM : Hid (IsAs w.heap.size w ba bs) := hbs
  clear hbs
  have n1 := Abx.new w (.bool c1) (.slice sa1 sz1.length sc1) (.slice da1 dz1.length dc1)
  have n2 := Abx.new (w.alloc (.cells #[.bool c1, .slice sa1 sz1.length sc1, .slice da1 dz1.length dc1] 24)) (.bool c2) (.slice sa2 sz2.length sc2) (.slice da2 dz2.length dc2)
  simp only [World.size_alloc] at n2
  have n3 := Abx.new ((w.alloc (.cells #[.bool c1, .slice sa1 sz1.length sc1, .slice da1 dz1.length dc1] 24)).alloc (.cells #[.bool c2, .slice sa2 sz2.length sc2, .slice da2 dz2.length dc2] 24)) (.bool c3) (.slice sa3 sz3.length sc3) (.slice da3 dz3.length dc3)
  simp only [World.size_alloc] at n3
  have n4 := lit_mid (((w.alloc (.cells #[.bool c1, .slice sa1 sz1.length sc1, .slice da1 dz1.length dc1] 24)).alloc (.cells #[.bool c2, .slice sa2 sz2.length sc2, .slice da2 dz2.length dc2] 24)).alloc (.cells #[.bool c3, .slice sa3 sz3.length sc3, .slice da3 dz3.length dc3] 24)) 3 [1, 2, 3] 3 rfl
  simp only [World.size_alloc, List.map_cons, List.map_nil] at n4
  go_enter Try.func3, Try.ntmps3
  go_wp2_with fail
  obtain ⟨wo5, hwo5⟩ : ∃ wo5, wo5 = ((((w.alloc (.cells #[.bool c1, .slice sa1 sz1.length sc1, .slice da1 dz1.length dc1] 24)).alloc (.cells #[.bool c2, .slice sa2 sz2.length sc2, .slice da2 dz2.length dc2] 24)).alloc (.cells #[.bool c3, .slice sa3 sz3.length sc3, .slice da3 dz3.length dc3] 24)).alloc (.cells #[.int .i64 1, .int .i64 2, .int .i64 3] 3)) := ⟨_, rfl⟩
  rw [← hwo5]
  have z6 : w.heap.size + 1 + 1 + 1 + 1 ≤ wo5.heap.size := by rw [hwo5]; simp only [World.size_alloc]; omega
  have B7 : Hid (Abx wo5 (w.heap.size) (.bool c1) (.slice sa1 sz1.length sc1) (.slice da1 dz1.length dc1)) := by rw [hwo5]; exact (((n1.al (.cells #[.bool c2, .slice sa2 sz2.length sc2, .slice da2 dz2.length dc2] 24)).al (.cells #[.bool c3, .slice sa3 sz3.length sc3, .slice da3 dz3.length dc3] 24)).al (.cells #[.int .i64 1, .int .i64 2, .int .i64 3] 3))
  have B8 : Hid (Abx wo5 (w.heap.size + 1) (.bool c2) (.slice sa2 sz2.length sc2) (.slice da2 dz2.length dc2)) := by rw [hwo5]; exact ((n2.al (.cells #[.bool c3, .slice sa3 sz3.length sc3, .slice da3 dz3.length dc3] 24)).al (.cells #[.int .i64 1, .int .i64 2, .int .i64 3] 3))
  have B9 : Hid (Abx wo5 (w.heap.size + 1 + 1) (.bool c3) (.slice sa3 sz3.length sc3) (.slice da3 dz3.length dc3)) := by rw [hwo5]; exact (n3.al (.cells #[.int .i64 1, .int .i64 2, .int .i64 3] 3))
  have L10 : Hid (MidC (w.heap.size + 1 + 1 + 1) (w.heap.size + 1 + 1 + 1 + 1) wo5 (some ⟨w.heap.size + 1 + 1 + 1, 0, none⟩) ([1, 2, 3]) (3)) := by rw [hwo5]; exact n4
  have hb11 : Hid (Below w.heap.size w wo5) := by rw [hwo5]; exact (((((Below.refl w.heap.size w).alloc (by omega) (.cells #[.bool c1, .slice sa1 sz1.length sc1, .slice da1 dz1.length dc1] 24)).alloc (by simp only [World.size_alloc]; omega) (.cells #[.bool c2, .slice sa2 sz2.length sc2, .slice da2 dz2.length dc2] 24)).alloc (by simp only [World.size_alloc]; omega) (.cells #[.bool c3, .slice sa3 sz3.length sc3, .slice da3 dz3.length dc3] 24)).alloc (by simp only [World.size_alloc]; omega) (.cells #[.int .i64 1, .int .i64 2, .int .i64 3] 3))
  have zwo5 : w.heap.size ≤ wo5.heap.size := hb11.out.size
  clear hwo5 n1 n2 n3 n4
  refine (vec_c (some ⟨w.heap.size + 1 + 1 + 1, 0, none⟩) 3 [1, 2, 3] (by simp) _ (L10.out.is (by omega)).1).mono ?_
  rintro e v1 ⟨vap, vcp, gap, gcp, rfl, hVp, hGp, hB⟩
  have z12 : wo5.heap.size ≤ v1.heap.size := hB.size
  have B13 : Hid (Abx v1 (w.heap.size) (.bool c1) (.slice sa1 sz1.length sc1) (.slice da1 dz1.length dc1)) := B7.out.go hB
  have B14 : Hid (Abx v1 (w.heap.size + 1) (.bool c2) (.slice sa2 sz2.length sc2) (.slice da2 dz2.length dc2)) := B8.out.go hB
  have B15 : Hid (Abx v1 (w.heap.size + 1 + 1) (.bool c3) (.slice sa3 sz3.length sc3) (.slice da3 dz3.length dc3)) := B9.out.go hB
  have L16 : Hid (MidC (w.heap.size + 1 + 1 + 1) (w.heap.size + 1 + 1 + 1 + 1) v1 (some ⟨w.heap.size + 1 + 1 + 1, 0, none⟩) ([1, 2, 3]) (3)) := L10.out.go (by omega) hB
  have hb17 : Hid (Below w.heap.size w v1) := hb11.out.trans (hB.mono hb11.out.size)
  have L18 : Hid (MidC (wo5.heap.size) (v1.heap.size) v1 (vap) ([(3 : Int)]) (vcp)) := hVp.midc
  have L19 : Hid (MidC (wo5.heap.size) (v1.heap.size) v1 (gap) ([1, 2, 3]) (gcp)) := hGp.midc
  clear hB hb11 B7 B8 B9 L10 hVp hGp
  clear L16
  have n20 := lit_mid v1 3 [2] 1 rfl
  simp only [List.map_cons, List.map_nil] at n20
  go_wp2_with fail
  obtain ⟨wo21, hwo21⟩ : ∃ wo21, wo21 = (v1.alloc (.cells #[.int .i64 2] 3)) := ⟨_, rfl⟩
  rw [← hwo21]
  have z22 : v1.heap.size + 1 ≤ wo21.heap.size := by rw [hwo21]; simp only [World.size_alloc]; omega
  have B23 : Hid (Abx wo21 (w.heap.size) (.bool c1) (.slice sa1 sz1.length sc1) (.slice da1 dz1.length dc1)) := by rw [hwo21]; exact (B13.out.al (.cells #[.int .i64 2] 3))
  have B24 : Hid (Abx wo21 (w.heap.size + 1) (.bool c2) (.slice sa2 sz2.length sc2) (.slice da2 dz2.length dc2)) := by rw [hwo21]; exact (B14.out.al (.cells #[.int .i64 2] 3))
  have B25 : Hid (Abx wo21 (w.heap.size + 1 + 1) (.bool c3) (.slice sa3 sz3.length sc3) (.slice da3 dz3.length dc3)) := by rw [hwo21]; exact (B15.out.al (.cells #[.int .i64 2] 3))
  have L26 : Hid (MidC (wo5.heap.size) (v1.heap.size) wo21 (vap) ([(3 : Int)]) (vcp)) := by rw [hwo21]; exact (L18.out.al (by omega) (.cells #[.int .i64 2] 3))
  have L27 : Hid (MidC (wo5.heap.size) (v1.heap.size) wo21 (gap) ([1, 2, 3]) (gcp)) := by rw [hwo21]; exact (L19.out.al (by omega) (.cells #[.int .i64 2] 3))
  have L28 : Hid (MidC (v1.heap.size) (v1.heap.size + 1) wo21 (some ⟨v1.heap.size, 0, none⟩) ([2]) (1)) := by rw [hwo21]; exact n20
  have hb29 : Hid (Below w.heap.size w wo21) := by rw [hwo21]; exact (hb17.out.alloc (by omega) (.cells #[.int .i64 2] 3))
  have zwo21 : w.heap.size ≤ wo21.heap.size := hb29.out.size
  clear hwo21 n20 hb17 B13 B14 B15 L18 L19
  refine (vec_c (some ⟨v1.heap.size, 0, none⟩) 1 [2] (by simp) _ (L28.out.is (by omega)).1).mono ?_
  rintro e v2 ⟨vaq, vcq, gaq, gcq, rfl, hVq, hGq, hB⟩
  have z30 : wo21.heap.size ≤ v2.heap.size := hB.size
  have B31 : Hid (Abx v2 (w.heap.size) (.bool c1) (.slice sa1 sz1.length sc1) (.slice da1 dz1.length dc1)) := B23.out.go hB
  have B32 : Hid (Abx v2 (w.heap.size + 1) (.bool c2) (.slice sa2 sz2.length sc2) (.slice da2 dz2.length dc2)) := B24.out.go hB
  have B33 : Hid (Abx v2 (w.heap.size + 1 + 1) (.bool c3) (.slice sa3 sz3.length sc3) (.slice da3 dz3.length dc3)) := B25.out.go hB
  have L34 : Hid (MidC (wo5.heap.size) (v1.heap.size) v2 (vap) ([(3 : Int)]) (vcp)) := L26.out.go (by omega) hB
  have L35 : Hid (MidC (wo5.heap.size) (v1.heap.size) v2 (gap) ([1, 2, 3]) (gcp)) := L27.out.go (by omega) hB
  have L36 : Hid (MidC (v1.heap.size) (v1.heap.size + 1) v2 (some ⟨v1.heap.size, 0, none⟩) ([2]) (1)) := L28.out.go (by omega) hB
  have hb37 : Hid (Below w.heap.size w v2) := hb29.out.trans (hB.mono hb29.out.size)
  have L38 : Hid (MidC (wo21.heap.size) (v2.heap.size) v2 (vaq) ([(1 : Int)]) (vcq)) := hVq.midc
  have L39 : Hid (MidC (wo21.heap.size) (v2.heap.size) v2 (gaq) ([2]) (gcq)) := hGq.midc
  clear hB hb29 B23 B24 B25 L26 L27 L28 hVq hGq
  clear L36
  have n40 := Abx.new v2 (.bool false) (.slice vaq 1 vcq) (.slice gaq 1 gcq)
  have n41 := lit_mid (v2.alloc (.cells #[.bool false, .slice vaq 1 vcq, .slice gaq 1 gcq] 24)) 3 [9] 1 rfl
  simp only [World.size_alloc, List.map_cons, List.map_nil] at n41
  go_wp2_with fail
  obtain ⟨wo42, hwo42⟩ : ∃ wo42, wo42 = ((v2.alloc (.cells #[.bool false, .slice vaq 1 vcq, .slice gaq 1 gcq] 24)).alloc (.cells #[.int .i64 9] 3)) := ⟨_, rfl⟩
  rw [← hwo42]
  have z43 : v2.heap.size + 1 + 1 ≤ wo42.heap.size := by rw [hwo42]; simp only [World.size_alloc]; omega
  have B44 : Hid (Abx wo42 (w.heap.size) (.bool c1) (.slice sa1 sz1.length sc1) (.slice da1 dz1.length dc1)) := by rw [hwo42]; exact ((B31.out.al (.cells #[.bool false, .slice vaq 1 vcq, .slice gaq 1 gcq] 24)).al (.cells #[.int .i64 9] 3))
  have B45 : Hid (Abx wo42 (w.heap.size + 1) (.bool c2) (.slice sa2 sz2.length sc2) (.slice da2 dz2.length dc2)) := by rw [hwo42]; exact ((B32.out.al (.cells #[.bool false, .slice vaq 1 vcq, .slice gaq 1 gcq] 24)).al (.cells #[.int .i64 9] 3))
  have B46 : Hid (Abx wo42 (w.heap.size + 1 + 1) (.bool c3) (.slice sa3 sz3.length sc3) (.slice da3 dz3.length dc3)) := by rw [hwo42]; exact ((B33.out.al (.cells #[.bool false, .slice vaq 1 vcq, .slice gaq 1 gcq] 24)).al (.cells #[.int .i64 9] 3))
  have B47 : Hid (Abx wo42 (v2.heap.size) (.bool false) (.slice vaq 1 vcq) (.slice gaq 1 gcq)) := by rw [hwo42]; exact (n40.al (.cells #[.int .i64 9] 3))
  have L48 : Hid (MidC (wo5.heap.size) (v1.heap.size) wo42 (vap) ([(3 : Int)]) (vcp)) := by rw [hwo42]; exact ((L34.out.al (by omega) (.cells #[.bool false, .slice vaq 1 vcq, .slice gaq 1 gcq] 24)).al (by simp only [World.size_alloc]; omega) (.cells #[.int .i64 9] 3))
  have L49 : Hid (MidC (wo5.heap.size) (v1.heap.size) wo42 (gap) ([1, 2, 3]) (gcp)) := by rw [hwo42]; exact ((L35.out.al (by omega) (.cells #[.bool false, .slice vaq 1 vcq, .slice gaq 1 gcq] 24)).al (by simp only [World.size_alloc]; omega) (.cells #[.int .i64 9] 3))
  have L50 : Hid (MidC (wo21.heap.size) (v2.heap.size) wo42 (vaq) ([(1 : Int)]) (vcq)) := by rw [hwo42]; exact ((L38.out.al (by omega) (.cells #[.bool false, .slice vaq 1 vcq, .slice gaq 1 gcq] 24)).al (by simp only [World.size_alloc]; omega) (.cells #[.int .i64 9] 3))
  have L51 : Hid (MidC (wo21.heap.size) (v2.heap.size) wo42 (gaq) ([2]) (gcq)) := by rw [hwo42]; exact ((L39.out.al (by omega) (.cells #[.bool false, .slice vaq 1 vcq, .slice gaq 1 gcq] 24)).al (by simp only [World.size_alloc]; omega) (.cells #[.int .i64 9] 3))
  have L52 : Hid (MidC (v2.heap.size + 1) (v2.heap.size + 1 + 1) wo42 (some ⟨v2.heap.size + 1, 0, none⟩) ([9]) (1)) := by rw [hwo42]; exact n41
  have hb53 : Hid (Below w.heap.size w wo42) := by rw [hwo42]; exact ((hb37.out.alloc (by omega) (.cells #[.bool false, .slice vaq 1 vcq, .slice gaq 1 gcq] 24)).alloc (by simp only [World.size_alloc]; omega) (.cells #[.int .i64 9] 3))
  have zwo42 : w.heap.size ≤ wo42.heap.size := hb53.out.size
  clear hwo42 n40 n41 hb37 B31 B32 B33 L34 L35 L38 L39
  refine (vec_c (some ⟨v2.heap.size + 1, 0, none⟩) 1 [9] (by simp) _ (L52.out.is (by omega)).1).mono ?_
  rintro e v3 ⟨vat, vct, gat, gct, rfl, hVt, hGt, hB⟩
  have z54 : wo42.heap.size ≤ v3.heap.size := hB.size
  have B55 : Hid (Abx v3 (w.heap.size) (.bool c1) (.slice sa1 sz1.length sc1) (.slice da1 dz1.length dc1)) := B44.out.go hB
  have B56 : Hid (Abx v3 (w.heap.size + 1) (.bool c2) (.slice sa2 sz2.length sc2) (.slice da2 dz2.length dc2)) := B45.out.go hB
  have B57 : Hid (Abx v3 (w.heap.size + 1 + 1) (.bool c3) (.slice sa3 sz3.length sc3) (.slice da3 dz3.length dc3)) := B46.out.go hB
  have B58 : Hid (Abx v3 (v2.heap.size) (.bool false) (.slice vaq 1 vcq) (.slice gaq 1 gcq)) := B47.out.go hB
  have L59 : Hid (MidC (wo5.heap.size) (v1.heap.size) v3 (vap) ([(3 : Int)]) (vcp)) := L48.out.go (by omega) hB
  have L60 : Hid (MidC (wo5.heap.size) (v1.heap.size) v3 (gap) ([1, 2, 3]) (gcp)) := L49.out.go (by omega) hB
  have L61 : Hid (MidC (wo21.heap.size) (v2.heap.size) v3 (vaq) ([(1 : Int)]) (vcq)) := L50.out.go (by omega) hB
  have L62 : Hid (MidC (wo21.heap.size) (v2.heap.size) v3 (gaq) ([2]) (gcq)) := L51.out.go (by omega) hB
  have L63 : Hid (MidC (v2.heap.size + 1) (v2.heap.size + 1 + 1) v3 (some ⟨v2.heap.size + 1, 0, none⟩) ([9]) (1)) := L52.out.go (by omega) hB
  have hb64 : Hid (Below w.heap.size w v3) := hb53.out.trans (hB.mono hb53.out.size)
  have L65 : Hid (MidC (wo42.heap.size) (v3.heap.size) v3 (vat) ([(1 : Int)]) (vct)) := hVt.midc
  have L66 : Hid (MidC (wo42.heap.size) (v3.heap.size) v3 (gat) ([9]) (gct)) := hGt.midc
  clear hB hb53 B44 B45 B46 B47 L48 L49 L50 L51 L52 hVt hGt
  clear L63
  go_wp2_with fail
  refine (pt_ok false vap vcp [(3 : Int)] gap gcp [1, 2, 3] (some ⟨v2.heap.size, 0, none⟩) 1 [(false, (((vaq, vcq), [(1 : Int)]), ((gaq, gcq), [2])))] 1 rfl false vat vct [(1 : Int)] gat gct [9] _ (by simp) (by simp) (by decide) (by simp) (by simp) (L59.out.is (by omega)).1 (L60.out.is (by omega)).1 (as_one (c := false) (sa := vaq) (sc := vcq) (sz := [(1 : Int)]) (da := gaq) (dc := gcq) (dz := [2]) B58.out (by simp) (by simp) (L61.out.is (by omega)) (L62.out.is (by omega)) (lit_all (by decide)) (lit_all (by decide))) (L65.out.is (by omega)).1 (L66.out.is (by omega)).1 [3] [1, 2, 9] HPt (by show ptE false [(3 : Int)] [1, 2, 3] [(false, ([(1 : Int)], [2]))] false [(1 : Int)] [9] = 0 ∧ [(3 : Int)] = [3] ∧ ptV [(3 : Int)] [1, 2, 3] [(false, ([(1 : Int)], [2]))] [(1 : Int)] [9] = [1, 2, 9]; decide)).mono ?_
  rintro e v4 ⟨f1, g1, f2, g2, rfl, hX0, hY0, hB⟩
  have z67 : v3.heap.size ≤ v4.heap.size := hB.size
  have B68 : Hid (Abx v4 (w.heap.size) (.bool c1) (.slice sa1 sz1.length sc1) (.slice da1 dz1.length dc1)) := B55.out.go hB
  have B69 : Hid (Abx v4 (w.heap.size + 1) (.bool c2) (.slice sa2 sz2.length sc2) (.slice da2 dz2.length dc2)) := B56.out.go hB
  have B70 : Hid (Abx v4 (w.heap.size + 1 + 1) (.bool c3) (.slice sa3 sz3.length sc3) (.slice da3 dz3.length dc3)) := B57.out.go hB
  have B71 : Hid (Abx v4 (v2.heap.size) (.bool false) (.slice vaq 1 vcq) (.slice gaq 1 gcq)) := B58.out.go hB
  have L72 : Hid (MidC (wo5.heap.size) (v1.heap.size) v4 (vap) ([(3 : Int)]) (vcp)) := L59.out.go (by omega) hB
  have L73 : Hid (MidC (wo5.heap.size) (v1.heap.size) v4 (gap) ([1, 2, 3]) (gcp)) := L60.out.go (by omega) hB
  have L74 : Hid (MidC (wo21.heap.size) (v2.heap.size) v4 (vaq) ([(1 : Int)]) (vcq)) := L61.out.go (by omega) hB
  have L75 : Hid (MidC (wo21.heap.size) (v2.heap.size) v4 (gaq) ([2]) (gcq)) := L62.out.go (by omega) hB
  have L76 : Hid (MidC (wo42.heap.size) (v3.heap.size) v4 (vat) ([(1 : Int)]) (vct)) := L65.out.go (by omega) hB
  have L77 : Hid (MidC (wo42.heap.size) (v3.heap.size) v4 (gat) ([9]) (gct)) := L66.out.go (by omega) hB
  have hb78 : Hid (Below w.heap.size w v4) := hb64.out.trans (hB.mono hb64.out.size)
  have L79 : Hid (MidC (v3.heap.size) (v4.heap.size) v4 (f1) ([3]) (g1)) := hX0.midc
  have L80 : Hid (MidC (v3.heap.size) (v4.heap.size) v4 (f2) ([1, 2, 9]) (g2)) := hY0.midc
  clear hB hb64 B55 B56 B57 B58 L59 L60 L61 L62 L65 L66 hX0 hY0
  clear L72 L73 L74 L75 B71 L76 L77
  have n81 := Abx.new v4 (.bool false) (.slice f1 1 g1) (.slice f2 3 g2)
  have l82 := (n81).c0
  have l83 := (n81).c1
  have l84 := (n81).c2
  have n85 := lit_mid (v4.alloc (.cells #[.bool false, .slice f1 1 g1, .slice f2 3 g2] 24)) 3 [1, 2, 9] 3 rfl
  simp only [World.size_alloc, List.map_cons, List.map_nil] at n85
  go_wp2_with fail
  obtain ⟨wo86, hwo86⟩ : ∃ wo86, wo86 = ((v4.alloc (.cells #[.bool false, .slice f1 1 g1, .slice f2 3 g2] 24)).alloc (.cells #[.int .i64 1, .int .i64 2, .int .i64 9] 3)) := ⟨_, rfl⟩
  rw [← hwo86]
  have z87 : v4.heap.size + 1 + 1 ≤ wo86.heap.size := by rw [hwo86]; simp only [World.size_alloc]; omega
  have B88 : Hid (Abx wo86 (w.heap.size) (.bool c1) (.slice sa1 sz1.length sc1) (.slice da1 dz1.length dc1)) := by rw [hwo86]; exact ((B68.out.al (.cells #[.bool false, .slice f1 1 g1, .slice f2 3 g2] 24)).al (.cells #[.int .i64 1, .int .i64 2, .int .i64 9] 3))
  have B89 : Hid (Abx wo86 (w.heap.size + 1) (.bool c2) (.slice sa2 sz2.length sc2) (.slice da2 dz2.length dc2)) := by rw [hwo86]; exact ((B69.out.al (.cells #[.bool false, .slice f1 1 g1, .slice f2 3 g2] 24)).al (.cells #[.int .i64 1, .int .i64 2, .int .i64 9] 3))
  have B90 : Hid (Abx wo86 (w.heap.size + 1 + 1) (.bool c3) (.slice sa3 sz3.length sc3) (.slice da3 dz3.length dc3)) := by rw [hwo86]; exact ((B70.out.al (.cells #[.bool false, .slice f1 1 g1, .slice f2 3 g2] 24)).al (.cells #[.int .i64 1, .int .i64 2, .int .i64 9] 3))
  have B91 : Hid (Abx wo86 (v4.heap.size) (.bool false) (.slice f1 1 g1) (.slice f2 3 g2)) := by rw [hwo86]; exact (n81.al (.cells #[.int .i64 1, .int .i64 2, .int .i64 9] 3))
  have L92 : Hid (MidC (v3.heap.size) (v4.heap.size) wo86 (f1) ([3]) (g1)) := by rw [hwo86]; exact ((L79.out.al (by omega) (.cells #[.bool false, .slice f1 1 g1, .slice f2 3 g2] 24)).al (by simp only [World.size_alloc]; omega) (.cells #[.int .i64 1, .int .i64 2, .int .i64 9] 3))
  have L93 : Hid (MidC (v3.heap.size) (v4.heap.size) wo86 (f2) ([1, 2, 9]) (g2)) := by rw [hwo86]; exact ((L80.out.al (by omega) (.cells #[.bool false, .slice f1 1 g1, .slice f2 3 g2] 24)).al (by simp only [World.size_alloc]; omega) (.cells #[.int .i64 1, .int .i64 2, .int .i64 9] 3))
  have L94 : Hid (MidC (v4.heap.size + 1) (v4.heap.size + 1 + 1) wo86 (some ⟨v4.heap.size + 1, 0, none⟩) ([1, 2, 9]) (3)) := by rw [hwo86]; exact n85
  have hb95 : Hid (Below w.heap.size w wo86) := by rw [hwo86]; exact ((hb78.out.alloc (by omega) (.cells #[.bool false, .slice f1 1 g1, .slice f2 3 g2] 24)).alloc (by simp only [World.size_alloc]; omega) (.cells #[.int .i64 1, .int .i64 2, .int .i64 9] 3))
  have zwo86 : w.heap.size ≤ wo86.heap.size := hb95.out.size
  clear hwo86 n81 l82 l83 l84 n85 hb78 B68 B69 B70 L79 L80
  refine (ints_any f2 g2 [1, 2, 9] (some ⟨v4.heap.size + 1, 0, none⟩) 3 [1, 2, 9] (by simp) _ _ (L93.out.is (by omega)).1 (L94.out.is (by omega)).1).mono ?_
  rintro e v5 ⟨rfl, hB⟩
  have z96 : wo86.heap.size ≤ v5.heap.size := hB.size
  have B97 : Hid (Abx v5 (w.heap.size) (.bool c1) (.slice sa1 sz1.length sc1) (.slice da1 dz1.length dc1)) := B88.out.go hB
  have B98 : Hid (Abx v5 (w.heap.size + 1) (.bool c2) (.slice sa2 sz2.length sc2) (.slice da2 dz2.length dc2)) := B89.out.go hB
  have B99 : Hid (Abx v5 (w.heap.size + 1 + 1) (.bool c3) (.slice sa3 sz3.length sc3) (.slice da3 dz3.length dc3)) := B90.out.go hB
  have B100 : Hid (Abx v5 (v4.heap.size) (.bool false) (.slice f1 1 g1) (.slice f2 3 g2)) := B91.out.go hB
  have L101 : Hid (MidC (v3.heap.size) (v4.heap.size) v5 (f1) ([3]) (g1)) := L92.out.go (by omega) hB
  have L102 : Hid (MidC (v3.heap.size) (v4.heap.size) v5 (f2) ([1, 2, 9]) (g2)) := L93.out.go (by omega) hB
  have L103 : Hid (MidC (v4.heap.size + 1) (v4.heap.size + 1 + 1) v5 (some ⟨v4.heap.size + 1, 0, none⟩) ([1, 2, 9]) (3)) := L94.out.go (by omega) hB
  have hb104 : Hid (Below w.heap.size w v5) := hb95.out.trans (hB.mono hb95.out.size)
  clear hB hb95 B88 B89 B90 B91 L92 L93 L94
  rw [eqB_true rfl]
  clear L101 L102 L103 B100
  have l105 := (B97.out).c0
  have l106 := (B97.out).c1
  have l107 := (B97.out).c2
  go_wp2_with fail
  clear l105 l106 l107
  refine (at_no c1 sa1 sc1 sz1 da1 dc1 dz1 ba bc bs bs.length rfl _ x11 x12 hbl ((HI1.out.1.1.below hb104.out).mono hb104.out.size) ((HI1.out.2.1.1.below hb104.out).mono hb104.out.size) ((HM.out.below hb104.out).mono hb104.out.size) HA F1.out).mono ?_
  rintro e v6 ⟨xa1, xc1, ya1, yc1, rfl, hB⟩
  have z108 : v5.heap.size ≤ v6.heap.size := hB.size
  have B109 : Hid (Abx v6 (w.heap.size) (.bool c1) (.slice sa1 sz1.length sc1) (.slice da1 dz1.length dc1)) := B97.out.go hB
  have B110 : Hid (Abx v6 (w.heap.size + 1) (.bool c2) (.slice sa2 sz2.length sc2) (.slice da2 dz2.length dc2)) := B98.out.go hB
  have B111 : Hid (Abx v6 (w.heap.size + 1 + 1) (.bool c3) (.slice sa3 sz3.length sc3) (.slice da3 dz3.length dc3)) := B99.out.go hB
  have hb112 : Hid (Below w.heap.size w v6) := hb104.out.trans (hB.mono hb104.out.size)
  clear hB hb104 B97 B98 B99
  have n113 := Abx.new v6 (.bool false) (.slice xa1 0 xc1) (.slice ya1 0 yc1)
  go_wp2_with fail
  obtain ⟨wo114, hwo114⟩ : ∃ wo114, wo114 = (v6.alloc (.cells #[.bool false, .slice xa1 0 xc1, .slice ya1 0 yc1] 24)) := ⟨_, rfl⟩
  rw [← hwo114]
  have z115 : v6.heap.size + 1 ≤ wo114.heap.size := by rw [hwo114]; simp only [World.size_alloc]; omega
  have B116 : Hid (Abx wo114 (w.heap.size) (.bool c1) (.slice sa1 sz1.length sc1) (.slice da1 dz1.length dc1)) := by rw [hwo114]; exact (B109.out.al (.cells #[.bool false, .slice xa1 0 xc1, .slice ya1 0 yc1] 24))
  have B117 : Hid (Abx wo114 (w.heap.size + 1) (.bool c2) (.slice sa2 sz2.length sc2) (.slice da2 dz2.length dc2)) := by rw [hwo114]; exact (B110.out.al (.cells #[.bool false, .slice xa1 0 xc1, .slice ya1 0 yc1] 24))
  have B118 : Hid (Abx wo114 (w.heap.size + 1 + 1) (.bool c3) (.slice sa3 sz3.length sc3) (.slice da3 dz3.length dc3)) := by rw [hwo114]; exact (B111.out.al (.cells #[.bool false, .slice xa1 0 xc1, .slice ya1 0 yc1] 24))
  have B119 : Hid (Abx wo114 (v6.heap.size) (.bool false) (.slice xa1 0 xc1) (.slice ya1 0 yc1)) := by rw [hwo114]; exact n113
  have hb120 : Hid (Below w.heap.size w wo114) := by rw [hwo114]; exact (hb112.out.alloc (by omega) (.cells #[.bool false, .slice xa1 0 xc1, .slice ya1 0 yc1] 24))
  have zwo114 : w.heap.size ≤ wo114.heap.size := hb120.out.size
  clear hwo114 n113 hb112 B109 B110 B111
  go_wp2_with fail
  go_ret
  exact ⟨rfl, hb120.out⟩
set_option maxRecDepth 100000 in
set_option maxHeartbeats 8000000 in
theorem lens_no2 (HA : CAt) (HPt : CPt) (c1 : Bool) (sa1 : Option Addr) (sc1 : Nat) (sz1 : List Int) (da1 : Option Addr) (dc1 : Nat) (dz1 : List Int) (ba : Option Addr) (bc : Nat) (bs : List ArV) (hbl : bs.length ≤ 9223372036854775807) (c2 : Bool) (sa2 : Option Addr) (sc2 : Nat) (sz2 : List Int) (da2 : Option Addr) (dc2 : Nat) (dz2 : List Int) (c3 : Bool) (sa3 : Option Addr) (sc3 : Nat) (sz3 : List Int) (da3 : Option Addr) (dc3 : Nat) (dz3 : List Int) (w : World) (w8 : IsArrD w sa1 sz1 sc1 da1 dz1 dc1) (w9 : IsArrD w sa2 sz2 sc2 da2 dz2 dc2) (w10 : IsArrD w sa3 sz3 sc3 da3 dz3 dc3) (hbs : IsAs w.heap.size w ba bs) (F1 : Hid (pkE c1 sz1 dz1 (bya bs) = 0)) (F2 : Hid (ptE c1 sz1 dz1 (bya bs) c2 sz2 dz2 ≠ 0)) :
    Calls Try.prog 3 #[.agg #[.bool c1, .slice sa1 sz1.length sc1, .slice da1 dz1.length dc1], .slice ba bs.length bc, .agg #[.bool c2, .slice sa2 sz2.length sc2, .slice da2 dz2.length dc2], .agg #[.bool c3, .slice sa3 sz3.length sc3, .slice da3 dz3.length dc3]] w fun e w' => e = .returned (.bool true) ∧ Below w.heap.size w w' := by
  obtain ⟨S, hS⟩ : ∃ S, S = pkS (bya bs) := ⟨_, rfl⟩
  obtain ⟨D, hD⟩ : ∃ D, D = pkD sz1 dz1 (bya bs) := ⟨_, rfl⟩
  have hf0 := (pkE_zero.1 F1.out).1
  have hd4 : dz1.length ≤ 4096 := (flawE_short hf0).2
  have hs6 : sz1.length ≤ 6 := (flawE_short hf0).1
  have HF : Hid (flawE c1 sz1 dz1 = 0 ∧ errOf sz1 = 0) := ⟨hf0, (flawE_zero hf0).1⟩
  have HSD : Hid (S = pkS (bya bs) ∧ D = pkD sz1 dz1 (bya bs) ∧ S.length ≤ 6 ∧ D.length ≤ 4096 ∧ errOf S = 0) := by have h := pk_len F1.out; rw [hS, hD]; exact ⟨rfl, rfl, h.1, h.2, (pkE_zero.1 F1.out).2.2.2.2.1⟩
  have HB1 : Hid (ptE c1 sz1 dz1 (bya bs) c1 S D = 0 ∧ ptV sz1 dz1 (bya bs) S D = dz1) := by rw [hS, hD]; exact lens1 F1.out
  clear hS hD hf0
  obtain ⟨x11, x12, x3, x4, s64, T⟩ := w8
  have HI1 : Hid (IsC w.heap.size w sa1 sz1 sc1 ∧ IsC w.heap.size w da1 dz1 dc1 ∧ (∀ j, In64 (nth sz1 j)) ∧ ∀ j, In64 (nth dz1 j)) := ⟨x3, x4, s64, T⟩
  clear x3 x4 T s64
  obtain ⟨x21, x22, x3, x4, s64, T⟩ := w9
  have HI2 : Hid (IsC w.heap.size w sa2 sz2 sc2 ∧ IsC w.heap.size w da2 dz2 dc2 ∧ (∀ j, In64 (nth sz2 j)) ∧ ∀ j, In64 (nth dz2 j)) := ⟨x3, x4, s64, T⟩
  clear x3 x4 T s64
  obtain ⟨x31, x32, x3, x4, s64, T⟩ := w10
  have HI3 : Hid (IsC w.heap.size w sa3 sz3 sc3 ∧ IsC w.heap.size w da3 dz3 dc3 ∧ (∀ j, In64 (nth sz3 j)) ∧ ∀ j, In64 (nth dz3 j)) := ⟨x3, x4, s64, T⟩
  clear x3 x4 T s64
  have HM : Hid (IsAs w.heap.size w ba bs) := hbs
  clear hbs
  have n1 := Abx.new w (.bool c1) (.slice sa1 sz1.length sc1) (.slice da1 dz1.length dc1)
  have n2 := Abx.new (w.alloc (.cells #[.bool c1, .slice sa1 sz1.length sc1, .slice da1 dz1.length dc1] 24)) (.bool c2) (.slice sa2 sz2.length sc2) (.slice da2 dz2.length dc2)
  simp only [World.size_alloc] at n2
  have n3 := Abx.new ((w.alloc (.cells #[.bool c1, .slice sa1 sz1.length sc1, .slice da1 dz1.length dc1] 24)).alloc (.cells #[.bool c2, .slice sa2 sz2.length sc2, .slice da2 dz2.length dc2] 24)) (.bool c3) (.slice sa3 sz3.length sc3) (.slice da3 dz3.length dc3)
  simp only [World.size_alloc] at n3
  have n4 := lit_mid (((w.alloc (.cells #[.bool c1, .slice sa1 sz1.length sc1, .slice da1 dz1.length dc1] 24)).alloc (.cells #[.bool c2, .slice sa2 sz2.length sc2, .slice da2 dz2.length dc2] 24)).alloc (.cells #[.bool c3, .slice sa3 sz3.length sc3, .slice da3 dz3.length dc3] 24)) 3 [1, 2, 3] 3 rfl
  simp only [World.size_alloc, List.map_cons, List.map_nil] at n4
  go_enter Try.func3, Try.ntmps3
  go_wp2_with fail
  obtain ⟨wo5, hwo5⟩ : ∃ wo5, wo5 = ((((w.alloc (.cells #[.bool c1, .slice sa1 sz1.length sc1, .slice da1 dz1.length dc1] 24)).alloc (.cells #[.bool c2, .slice sa2 sz2.length sc2, .slice da2 dz2.length dc2] 24)).alloc (.cells #[.bool c3, .slice sa3 sz3.length sc3, .slice da3 dz3.length dc3] 24)).alloc (.cells #[.int .i64 1, .int .i64 2, .int .i64 3] 3)) := ⟨_, rfl⟩
  rw [← hwo5]
  have z6 : w.heap.size + 1 + 1 + 1 + 1 ≤ wo5.heap.size := by rw [hwo5]; simp only [World.size_alloc]; omega
  have B7 : Hid (Abx wo5 (w.heap.size) (.bool c1) (.slice sa1 sz1.length sc1) (.slice da1 dz1.length dc1)) := by rw [hwo5]; exact (((n1.al (.cells #[.bool c2, .slice sa2 sz2.length sc2, .slice da2 dz2.length dc2] 24)).al (.cells #[.bool c3, .slice sa3 sz3.length sc3, .slice da3 dz3.length dc3] 24)).al (.cells #[.int .i64 1, .int .i64 2, .int .i64 3] 3))
  have B8 : Hid (Abx wo5 (w.heap.size + 1) (.bool c2) (.slice sa2 sz2.length sc2) (.slice da2 dz2.length dc2)) := by rw [hwo5]; exact ((n2.al (.cells #[.bool c3, .slice sa3 sz3.length sc3, .slice da3 dz3.length dc3] 24)).al (.cells #[.int .i64 1, .int .i64 2, .int .i64 3] 3))
  have B9 : Hid (Abx wo5 (w.heap.size + 1 + 1) (.bool c3) (.slice sa3 sz3.length sc3) (.slice da3 dz3.length dc3)) := by rw [hwo5]; exact (n3.al (.cells #[.int .i64 1, .int .i64 2, .int .i64 3] 3))
  have L10 : Hid (MidC (w.heap.size + 1 + 1 + 1) (w.heap.size + 1 + 1 + 1 + 1) wo5 (some ⟨w.heap.size + 1 + 1 + 1, 0, none⟩) ([1, 2, 3]) (3)) := by rw [hwo5]; exact n4
  have hb11 : Hid (Below w.heap.size w wo5) := by rw [hwo5]; exact (((((Below.refl w.heap.size w).alloc (by omega) (.cells #[.bool c1, .slice sa1 sz1.length sc1, .slice da1 dz1.length dc1] 24)).alloc (by simp only [World.size_alloc]; omega) (.cells #[.bool c2, .slice sa2 sz2.length sc2, .slice da2 dz2.length dc2] 24)).alloc (by simp only [World.size_alloc]; omega) (.cells #[.bool c3, .slice sa3 sz3.length sc3, .slice da3 dz3.length dc3] 24)).alloc (by simp only [World.size_alloc]; omega) (.cells #[.int .i64 1, .int .i64 2, .int .i64 3] 3))
  have zwo5 : w.heap.size ≤ wo5.heap.size := hb11.out.size
  clear hwo5 n1 n2 n3 n4
  refine (vec_c (some ⟨w.heap.size + 1 + 1 + 1, 0, none⟩) 3 [1, 2, 3] (by simp) _ (L10.out.is (by omega)).1).mono ?_
  rintro e v1 ⟨vap, vcp, gap, gcp, rfl, hVp, hGp, hB⟩
  have z12 : wo5.heap.size ≤ v1.heap.size := hB.size
  have B13 : Hid (Abx v1 (w.heap.size) (.bool c1) (.slice sa1 sz1.length sc1) (.slice da1 dz1.length dc1)) := B7.out.go hB
  have B14 : Hid (Abx v1 (w.heap.size + 1) (.bool c2) (.slice sa2 sz2.length sc2) (.slice da2 dz2.length dc2)) := B8.out.go hB
  have B15 : Hid (Abx v1 (w.heap.size + 1 + 1) (.bool c3) (.slice sa3 sz3.length sc3) (.slice da3 dz3.length dc3)) := B9.out.go hB
  have L16 : Hid (MidC (w.heap.size + 1 + 1 + 1) (w.heap.size + 1 + 1 + 1 + 1) v1 (some ⟨w.heap.size + 1 + 1 + 1, 0, none⟩) ([1, 2, 3]) (3)) := L10.out.go (by omega) hB
  have hb17 : Hid (Below w.heap.size w v1) := hb11.out.trans (hB.mono hb11.out.size)
  have L18 : Hid (MidC (wo5.heap.size) (v1.heap.size) v1 (vap) ([(3 : Int)]) (vcp)) := hVp.midc
  have L19 : Hid (MidC (wo5.heap.size) (v1.heap.size) v1 (gap) ([1, 2, 3]) (gcp)) := hGp.midc
  clear hB hb11 B7 B8 B9 L10 hVp hGp
  clear L16
  have n20 := lit_mid v1 3 [2] 1 rfl
  simp only [List.map_cons, List.map_nil] at n20
  go_wp2_with fail
  obtain ⟨wo21, hwo21⟩ : ∃ wo21, wo21 = (v1.alloc (.cells #[.int .i64 2] 3)) := ⟨_, rfl⟩
  rw [← hwo21]
  have z22 : v1.heap.size + 1 ≤ wo21.heap.size := by rw [hwo21]; simp only [World.size_alloc]; omega
  have B23 : Hid (Abx wo21 (w.heap.size) (.bool c1) (.slice sa1 sz1.length sc1) (.slice da1 dz1.length dc1)) := by rw [hwo21]; exact (B13.out.al (.cells #[.int .i64 2] 3))
  have B24 : Hid (Abx wo21 (w.heap.size + 1) (.bool c2) (.slice sa2 sz2.length sc2) (.slice da2 dz2.length dc2)) := by rw [hwo21]; exact (B14.out.al (.cells #[.int .i64 2] 3))
  have B25 : Hid (Abx wo21 (w.heap.size + 1 + 1) (.bool c3) (.slice sa3 sz3.length sc3) (.slice da3 dz3.length dc3)) := by rw [hwo21]; exact (B15.out.al (.cells #[.int .i64 2] 3))
  have L26 : Hid (MidC (wo5.heap.size) (v1.heap.size) wo21 (vap) ([(3 : Int)]) (vcp)) := by rw [hwo21]; exact (L18.out.al (by omega) (.cells #[.int .i64 2] 3))
  have L27 : Hid (MidC (wo5.heap.size) (v1.heap.size) wo21 (gap) ([1, 2, 3]) (gcp)) := by rw [hwo21]; exact (L19.out.al (by omega) (.cells #[.int .i64 2] 3))
  have L28 : Hid (MidC (v1.heap.size) (v1.heap.size + 1) wo21 (some ⟨v1.heap.size, 0, none⟩) ([2]) (1)) := by rw [hwo21]; exact n20
  have hb29 : Hid (Below w.heap.size w wo21) := by rw [hwo21]; exact (hb17.out.alloc (by omega) (.cells #[.int .i64 2] 3))
  have zwo21 : w.heap.size ≤ wo21.heap.size := hb29.out.size
  clear hwo21 n20 hb17 B13 B14 B15 L18 L19
  refine (vec_c (some ⟨v1.heap.size, 0, none⟩) 1 [2] (by simp) _ (L28.out.is (by omega)).1).mono ?_
  rintro e v2 ⟨vaq, vcq, gaq, gcq, rfl, hVq, hGq, hB⟩
  have z30 : wo21.heap.size ≤ v2.heap.size := hB.size
  have B31 : Hid (Abx v2 (w.heap.size) (.bool c1) (.slice sa1 sz1.length sc1) (.slice da1 dz1.length dc1)) := B23.out.go hB
  have B32 : Hid (Abx v2 (w.heap.size + 1) (.bool c2) (.slice sa2 sz2.length sc2) (.slice da2 dz2.length dc2)) := B24.out.go hB
  have B33 : Hid (Abx v2 (w.heap.size + 1 + 1) (.bool c3) (.slice sa3 sz3.length sc3) (.slice da3 dz3.length dc3)) := B25.out.go hB
  have L34 : Hid (MidC (wo5.heap.size) (v1.heap.size) v2 (vap) ([(3 : Int)]) (vcp)) := L26.out.go (by omega) hB
  have L35 : Hid (MidC (wo5.heap.size) (v1.heap.size) v2 (gap) ([1, 2, 3]) (gcp)) := L27.out.go (by omega) hB
  have L36 : Hid (MidC (v1.heap.size) (v1.heap.size + 1) v2 (some ⟨v1.heap.size, 0, none⟩) ([2]) (1)) := L28.out.go (by omega) hB
  have hb37 : Hid (Below w.heap.size w v2) := hb29.out.trans (hB.mono hb29.out.size)
  have L38 : Hid (MidC (wo21.heap.size) (v2.heap.size) v2 (vaq) ([(1 : Int)]) (vcq)) := hVq.midc
  have L39 : Hid (MidC (wo21.heap.size) (v2.heap.size) v2 (gaq) ([2]) (gcq)) := hGq.midc
  clear hB hb29 B23 B24 B25 L26 L27 L28 hVq hGq
  clear L36
  have n40 := Abx.new v2 (.bool false) (.slice vaq 1 vcq) (.slice gaq 1 gcq)
  have n41 := lit_mid (v2.alloc (.cells #[.bool false, .slice vaq 1 vcq, .slice gaq 1 gcq] 24)) 3 [9] 1 rfl
  simp only [World.size_alloc, List.map_cons, List.map_nil] at n41
  go_wp2_with fail
  obtain ⟨wo42, hwo42⟩ : ∃ wo42, wo42 = ((v2.alloc (.cells #[.bool false, .slice vaq 1 vcq, .slice gaq 1 gcq] 24)).alloc (.cells #[.int .i64 9] 3)) := ⟨_, rfl⟩
  rw [← hwo42]
  have z43 : v2.heap.size + 1 + 1 ≤ wo42.heap.size := by rw [hwo42]; simp only [World.size_alloc]; omega
  have B44 : Hid (Abx wo42 (w.heap.size) (.bool c1) (.slice sa1 sz1.length sc1) (.slice da1 dz1.length dc1)) := by rw [hwo42]; exact ((B31.out.al (.cells #[.bool false, .slice vaq 1 vcq, .slice gaq 1 gcq] 24)).al (.cells #[.int .i64 9] 3))
  have B45 : Hid (Abx wo42 (w.heap.size + 1) (.bool c2) (.slice sa2 sz2.length sc2) (.slice da2 dz2.length dc2)) := by rw [hwo42]; exact ((B32.out.al (.cells #[.bool false, .slice vaq 1 vcq, .slice gaq 1 gcq] 24)).al (.cells #[.int .i64 9] 3))
  have B46 : Hid (Abx wo42 (w.heap.size + 1 + 1) (.bool c3) (.slice sa3 sz3.length sc3) (.slice da3 dz3.length dc3)) := by rw [hwo42]; exact ((B33.out.al (.cells #[.bool false, .slice vaq 1 vcq, .slice gaq 1 gcq] 24)).al (.cells #[.int .i64 9] 3))
  have B47 : Hid (Abx wo42 (v2.heap.size) (.bool false) (.slice vaq 1 vcq) (.slice gaq 1 gcq)) := by rw [hwo42]; exact (n40.al (.cells #[.int .i64 9] 3))
  have L48 : Hid (MidC (wo5.heap.size) (v1.heap.size) wo42 (vap) ([(3 : Int)]) (vcp)) := by rw [hwo42]; exact ((L34.out.al (by omega) (.cells #[.bool false, .slice vaq 1 vcq, .slice gaq 1 gcq] 24)).al (by simp only [World.size_alloc]; omega) (.cells #[.int .i64 9] 3))
  have L49 : Hid (MidC (wo5.heap.size) (v1.heap.size) wo42 (gap) ([1, 2, 3]) (gcp)) := by rw [hwo42]; exact ((L35.out.al (by omega) (.cells #[.bool false, .slice vaq 1 vcq, .slice gaq 1 gcq] 24)).al (by simp only [World.size_alloc]; omega) (.cells #[.int .i64 9] 3))
  have L50 : Hid (MidC (wo21.heap.size) (v2.heap.size) wo42 (vaq) ([(1 : Int)]) (vcq)) := by rw [hwo42]; exact ((L38.out.al (by omega) (.cells #[.bool false, .slice vaq 1 vcq, .slice gaq 1 gcq] 24)).al (by simp only [World.size_alloc]; omega) (.cells #[.int .i64 9] 3))
  have L51 : Hid (MidC (wo21.heap.size) (v2.heap.size) wo42 (gaq) ([2]) (gcq)) := by rw [hwo42]; exact ((L39.out.al (by omega) (.cells #[.bool false, .slice vaq 1 vcq, .slice gaq 1 gcq] 24)).al (by simp only [World.size_alloc]; omega) (.cells #[.int .i64 9] 3))
  have L52 : Hid (MidC (v2.heap.size + 1) (v2.heap.size + 1 + 1) wo42 (some ⟨v2.heap.size + 1, 0, none⟩) ([9]) (1)) := by rw [hwo42]; exact n41
  have hb53 : Hid (Below w.heap.size w wo42) := by rw [hwo42]; exact ((hb37.out.alloc (by omega) (.cells #[.bool false, .slice vaq 1 vcq, .slice gaq 1 gcq] 24)).alloc (by simp only [World.size_alloc]; omega) (.cells #[.int .i64 9] 3))
  have zwo42 : w.heap.size ≤ wo42.heap.size := hb53.out.size
  clear hwo42 n40 n41 hb37 B31 B32 B33 L34 L35 L38 L39
  refine (vec_c (some ⟨v2.heap.size + 1, 0, none⟩) 1 [9] (by simp) _ (L52.out.is (by omega)).1).mono ?_
  rintro e v3 ⟨vat, vct, gat, gct, rfl, hVt, hGt, hB⟩
  have z54 : wo42.heap.size ≤ v3.heap.size := hB.size
  have B55 : Hid (Abx v3 (w.heap.size) (.bool c1) (.slice sa1 sz1.length sc1) (.slice da1 dz1.length dc1)) := B44.out.go hB
  have B56 : Hid (Abx v3 (w.heap.size + 1) (.bool c2) (.slice sa2 sz2.length sc2) (.slice da2 dz2.length dc2)) := B45.out.go hB
  have B57 : Hid (Abx v3 (w.heap.size + 1 + 1) (.bool c3) (.slice sa3 sz3.length sc3) (.slice da3 dz3.length dc3)) := B46.out.go hB
  have B58 : Hid (Abx v3 (v2.heap.size) (.bool false) (.slice vaq 1 vcq) (.slice gaq 1 gcq)) := B47.out.go hB
  have L59 : Hid (MidC (wo5.heap.size) (v1.heap.size) v3 (vap) ([(3 : Int)]) (vcp)) := L48.out.go (by omega) hB
  have L60 : Hid (MidC (wo5.heap.size) (v1.heap.size) v3 (gap) ([1, 2, 3]) (gcp)) := L49.out.go (by omega) hB
  have L61 : Hid (MidC (wo21.heap.size) (v2.heap.size) v3 (vaq) ([(1 : Int)]) (vcq)) := L50.out.go (by omega) hB
  have L62 : Hid (MidC (wo21.heap.size) (v2.heap.size) v3 (gaq) ([2]) (gcq)) := L51.out.go (by omega) hB
  have L63 : Hid (MidC (v2.heap.size + 1) (v2.heap.size + 1 + 1) v3 (some ⟨v2.heap.size + 1, 0, none⟩) ([9]) (1)) := L52.out.go (by omega) hB
  have hb64 : Hid (Below w.heap.size w v3) := hb53.out.trans (hB.mono hb53.out.size)
  have L65 : Hid (MidC (wo42.heap.size) (v3.heap.size) v3 (vat) ([(1 : Int)]) (vct)) := hVt.midc
  have L66 : Hid (MidC (wo42.heap.size) (v3.heap.size) v3 (gat) ([9]) (gct)) := hGt.midc
  clear hB hb53 B44 B45 B46 B47 L48 L49 L50 L51 L52 hVt hGt
  clear L63
  go_wp2_with fail
  refine (pt_ok false vap vcp [(3 : Int)] gap gcp [1, 2, 3] (some ⟨v2.heap.size, 0, none⟩) 1 [(false, (((vaq, vcq), [(1 : Int)]), ((gaq, gcq), [2])))] 1 rfl false vat vct [(1 : Int)] gat gct [9] _ (by simp) (by simp) (by decide) (by simp) (by simp) (L59.out.is (by omega)).1 (L60.out.is (by omega)).1 (as_one (c := false) (sa := vaq) (sc := vcq) (sz := [(1 : Int)]) (da := gaq) (dc := gcq) (dz := [2]) B58.out (by simp) (by simp) (L61.out.is (by omega)) (L62.out.is (by omega)) (lit_all (by decide)) (lit_all (by decide))) (L65.out.is (by omega)).1 (L66.out.is (by omega)).1 [3] [1, 2, 9] HPt (by show ptE false [(3 : Int)] [1, 2, 3] [(false, ([(1 : Int)], [2]))] false [(1 : Int)] [9] = 0 ∧ [(3 : Int)] = [3] ∧ ptV [(3 : Int)] [1, 2, 3] [(false, ([(1 : Int)], [2]))] [(1 : Int)] [9] = [1, 2, 9]; decide)).mono ?_
  rintro e v4 ⟨f1, g1, f2, g2, rfl, hX0, hY0, hB⟩
  have z67 : v3.heap.size ≤ v4.heap.size := hB.size
  have B68 : Hid (Abx v4 (w.heap.size) (.bool c1) (.slice sa1 sz1.length sc1) (.slice da1 dz1.length dc1)) := B55.out.go hB
  have B69 : Hid (Abx v4 (w.heap.size + 1) (.bool c2) (.slice sa2 sz2.length sc2) (.slice da2 dz2.length dc2)) := B56.out.go hB
  have B70 : Hid (Abx v4 (w.heap.size + 1 + 1) (.bool c3) (.slice sa3 sz3.length sc3) (.slice da3 dz3.length dc3)) := B57.out.go hB
  have B71 : Hid (Abx v4 (v2.heap.size) (.bool false) (.slice vaq 1 vcq) (.slice gaq 1 gcq)) := B58.out.go hB
  have L72 : Hid (MidC (wo5.heap.size) (v1.heap.size) v4 (vap) ([(3 : Int)]) (vcp)) := L59.out.go (by omega) hB
  have L73 : Hid (MidC (wo5.heap.size) (v1.heap.size) v4 (gap) ([1, 2, 3]) (gcp)) := L60.out.go (by omega) hB
  have L74 : Hid (MidC (wo21.heap.size) (v2.heap.size) v4 (vaq) ([(1 : Int)]) (vcq)) := L61.out.go (by omega) hB
  have L75 : Hid (MidC (wo21.heap.size) (v2.heap.size) v4 (gaq) ([2]) (gcq)) := L62.out.go (by omega) hB
  have L76 : Hid (MidC (wo42.heap.size) (v3.heap.size) v4 (vat) ([(1 : Int)]) (vct)) := L65.out.go (by omega) hB
  have L77 : Hid (MidC (wo42.heap.size) (v3.heap.size) v4 (gat) ([9]) (gct)) := L66.out.go (by omega) hB
  have hb78 : Hid (Below w.heap.size w v4) := hb64.out.trans (hB.mono hb64.out.size)
  have L79 : Hid (MidC (v3.heap.size) (v4.heap.size) v4 (f1) ([3]) (g1)) := hX0.midc
  have L80 : Hid (MidC (v3.heap.size) (v4.heap.size) v4 (f2) ([1, 2, 9]) (g2)) := hY0.midc
  clear hB hb64 B55 B56 B57 B58 L59 L60 L61 L62 L65 L66 hX0 hY0
  clear L72 L73 L74 L75 B71 L76 L77
  have n81 := Abx.new v4 (.bool false) (.slice f1 1 g1) (.slice f2 3 g2)
  have l82 := (n81).c0
  have l83 := (n81).c1
  have l84 := (n81).c2
  have n85 := lit_mid (v4.alloc (.cells #[.bool false, .slice f1 1 g1, .slice f2 3 g2] 24)) 3 [1, 2, 9] 3 rfl
  simp only [World.size_alloc, List.map_cons, List.map_nil] at n85
  go_wp2_with fail
  obtain ⟨wo86, hwo86⟩ : ∃ wo86, wo86 = ((v4.alloc (.cells #[.bool false, .slice f1 1 g1, .slice f2 3 g2] 24)).alloc (.cells #[.int .i64 1, .int .i64 2, .int .i64 9] 3)) := ⟨_, rfl⟩
  rw [← hwo86]
  have z87 : v4.heap.size + 1 + 1 ≤ wo86.heap.size := by rw [hwo86]; simp only [World.size_alloc]; omega
  have B88 : Hid (Abx wo86 (w.heap.size) (.bool c1) (.slice sa1 sz1.length sc1) (.slice da1 dz1.length dc1)) := by rw [hwo86]; exact ((B68.out.al (.cells #[.bool false, .slice f1 1 g1, .slice f2 3 g2] 24)).al (.cells #[.int .i64 1, .int .i64 2, .int .i64 9] 3))
  have B89 : Hid (Abx wo86 (w.heap.size + 1) (.bool c2) (.slice sa2 sz2.length sc2) (.slice da2 dz2.length dc2)) := by rw [hwo86]; exact ((B69.out.al (.cells #[.bool false, .slice f1 1 g1, .slice f2 3 g2] 24)).al (.cells #[.int .i64 1, .int .i64 2, .int .i64 9] 3))
  have B90 : Hid (Abx wo86 (w.heap.size + 1 + 1) (.bool c3) (.slice sa3 sz3.length sc3) (.slice da3 dz3.length dc3)) := by rw [hwo86]; exact ((B70.out.al (.cells #[.bool false, .slice f1 1 g1, .slice f2 3 g2] 24)).al (.cells #[.int .i64 1, .int .i64 2, .int .i64 9] 3))
  have B91 : Hid (Abx wo86 (v4.heap.size) (.bool false) (.slice f1 1 g1) (.slice f2 3 g2)) := by rw [hwo86]; exact (n81.al (.cells #[.int .i64 1, .int .i64 2, .int .i64 9] 3))
  have L92 : Hid (MidC (v3.heap.size) (v4.heap.size) wo86 (f1) ([3]) (g1)) := by rw [hwo86]; exact ((L79.out.al (by omega) (.cells #[.bool false, .slice f1 1 g1, .slice f2 3 g2] 24)).al (by simp only [World.size_alloc]; omega) (.cells #[.int .i64 1, .int .i64 2, .int .i64 9] 3))
  have L93 : Hid (MidC (v3.heap.size) (v4.heap.size) wo86 (f2) ([1, 2, 9]) (g2)) := by rw [hwo86]; exact ((L80.out.al (by omega) (.cells #[.bool false, .slice f1 1 g1, .slice f2 3 g2] 24)).al (by simp only [World.size_alloc]; omega) (.cells #[.int .i64 1, .int .i64 2, .int .i64 9] 3))
  have L94 : Hid (MidC (v4.heap.size + 1) (v4.heap.size + 1 + 1) wo86 (some ⟨v4.heap.size + 1, 0, none⟩) ([1, 2, 9]) (3)) := by rw [hwo86]; exact n85
  have hb95 : Hid (Below w.heap.size w wo86) := by rw [hwo86]; exact ((hb78.out.alloc (by omega) (.cells #[.bool false, .slice f1 1 g1, .slice f2 3 g2] 24)).alloc (by simp only [World.size_alloc]; omega) (.cells #[.int .i64 1, .int .i64 2, .int .i64 9] 3))
  have zwo86 : w.heap.size ≤ wo86.heap.size := hb95.out.size
  clear hwo86 n81 l82 l83 l84 n85 hb78 B68 B69 B70 L79 L80
  refine (ints_any f2 g2 [1, 2, 9] (some ⟨v4.heap.size + 1, 0, none⟩) 3 [1, 2, 9] (by simp) _ _ (L93.out.is (by omega)).1 (L94.out.is (by omega)).1).mono ?_
  rintro e v5 ⟨rfl, hB⟩
  have z96 : wo86.heap.size ≤ v5.heap.size := hB.size
  have B97 : Hid (Abx v5 (w.heap.size) (.bool c1) (.slice sa1 sz1.length sc1) (.slice da1 dz1.length dc1)) := B88.out.go hB
  have B98 : Hid (Abx v5 (w.heap.size + 1) (.bool c2) (.slice sa2 sz2.length sc2) (.slice da2 dz2.length dc2)) := B89.out.go hB
  have B99 : Hid (Abx v5 (w.heap.size + 1 + 1) (.bool c3) (.slice sa3 sz3.length sc3) (.slice da3 dz3.length dc3)) := B90.out.go hB
  have B100 : Hid (Abx v5 (v4.heap.size) (.bool false) (.slice f1 1 g1) (.slice f2 3 g2)) := B91.out.go hB
  have L101 : Hid (MidC (v3.heap.size) (v4.heap.size) v5 (f1) ([3]) (g1)) := L92.out.go (by omega) hB
  have L102 : Hid (MidC (v3.heap.size) (v4.heap.size) v5 (f2) ([1, 2, 9]) (g2)) := L93.out.go (by omega) hB
  have L103 : Hid (MidC (v4.heap.size + 1) (v4.heap.size + 1 + 1) v5 (some ⟨v4.heap.size + 1, 0, none⟩) ([1, 2, 9]) (3)) := L94.out.go (by omega) hB
  have hb104 : Hid (Below w.heap.size w v5) := hb95.out.trans (hB.mono hb95.out.size)
  clear hB hb95 B88 B89 B90 B91 L92 L93 L94
  rw [eqB_true rfl]
  clear L101 L102 L103 B100
  have l105 := (B97.out).c0
  have l106 := (B97.out).c1
  have l107 := (B97.out).c2
  go_wp2_with fail
  clear l105 l106 l107
  refine (at_ok c1 sa1 sc1 sz1 da1 dc1 dz1 ba bc bs bs.length rfl _ x11 x12 hbl ((HI1.out.1.1.below hb104.out).mono hb104.out.size) ((HI1.out.2.1.1.below hb104.out).mono hb104.out.size) ((HM.out.below hb104.out).mono hb104.out.size) S D HA ⟨F1.out, HSD.out.1.symm, HSD.out.2.1.symm⟩).mono ?_
  rintro e v6 ⟨xa1, xc1, ya1, yc1, rfl, hX1, hY1, hB⟩
  have z108 : v5.heap.size ≤ v6.heap.size := hB.size
  have B109 : Hid (Abx v6 (w.heap.size) (.bool c1) (.slice sa1 sz1.length sc1) (.slice da1 dz1.length dc1)) := B97.out.go hB
  have B110 : Hid (Abx v6 (w.heap.size + 1) (.bool c2) (.slice sa2 sz2.length sc2) (.slice da2 dz2.length dc2)) := B98.out.go hB
  have B111 : Hid (Abx v6 (w.heap.size + 1 + 1) (.bool c3) (.slice sa3 sz3.length sc3) (.slice da3 dz3.length dc3)) := B99.out.go hB
  have hb112 : Hid (Below w.heap.size w v6) := hb104.out.trans (hB.mono hb104.out.size)
  have L113 : Hid (MidC (v5.heap.size) (v6.heap.size) v6 (xa1) (S) (xc1)) := hX1.midc
  have L114 : Hid (MidC (v5.heap.size) (v6.heap.size) v6 (ya1) (D) (yc1)) := hY1.midc
  clear hB hb104 B97 B98 B99 hX1 hY1
  have n115 := Abx.new v6 (.bool c1) (.slice xa1 S.length xc1) (.slice ya1 D.length yc1)
  have l116 := ((B109.out.al (.cells #[.bool c1, .slice xa1 S.length xc1, .slice ya1 D.length yc1] 24))).c0
  have l117 := ((B109.out.al (.cells #[.bool c1, .slice xa1 S.length xc1, .slice ya1 D.length yc1] 24))).c1
  have l118 := ((B109.out.al (.cells #[.bool c1, .slice xa1 S.length xc1, .slice ya1 D.length yc1] 24))).c2
  have l119 := (n115).c0
  have l120 := (n115).c1
  have l121 := (n115).c2
  go_wp2_with fail
  obtain ⟨wo122, hwo122⟩ : ∃ wo122, wo122 = (v6.alloc (.cells #[.bool c1, .slice xa1 S.length xc1, .slice ya1 D.length yc1] 24)) := ⟨_, rfl⟩
  rw [← hwo122]
  have z123 : v6.heap.size + 1 ≤ wo122.heap.size := by rw [hwo122]; simp only [World.size_alloc]; omega
  have B124 : Hid (Abx wo122 (w.heap.size) (.bool c1) (.slice sa1 sz1.length sc1) (.slice da1 dz1.length dc1)) := by rw [hwo122]; exact (B109.out.al (.cells #[.bool c1, .slice xa1 S.length xc1, .slice ya1 D.length yc1] 24))
  have B125 : Hid (Abx wo122 (w.heap.size + 1) (.bool c2) (.slice sa2 sz2.length sc2) (.slice da2 dz2.length dc2)) := by rw [hwo122]; exact (B110.out.al (.cells #[.bool c1, .slice xa1 S.length xc1, .slice ya1 D.length yc1] 24))
  have B126 : Hid (Abx wo122 (w.heap.size + 1 + 1) (.bool c3) (.slice sa3 sz3.length sc3) (.slice da3 dz3.length dc3)) := by rw [hwo122]; exact (B111.out.al (.cells #[.bool c1, .slice xa1 S.length xc1, .slice ya1 D.length yc1] 24))
  have B127 : Hid (Abx wo122 (v6.heap.size) (.bool c1) (.slice xa1 S.length xc1) (.slice ya1 D.length yc1)) := by rw [hwo122]; exact n115
  have L128 : Hid (MidC (v5.heap.size) (v6.heap.size) wo122 (xa1) (S) (xc1)) := by rw [hwo122]; exact (L113.out.al (by omega) (.cells #[.bool c1, .slice xa1 S.length xc1, .slice ya1 D.length yc1] 24))
  have L129 : Hid (MidC (v5.heap.size) (v6.heap.size) wo122 (ya1) (D) (yc1)) := by rw [hwo122]; exact (L114.out.al (by omega) (.cells #[.bool c1, .slice xa1 S.length xc1, .slice ya1 D.length yc1] 24))
  have hb130 : Hid (Below w.heap.size w wo122) := by rw [hwo122]; exact (hb112.out.alloc (by omega) (.cells #[.bool c1, .slice xa1 S.length xc1, .slice ya1 D.length yc1] 24))
  have zwo122 : w.heap.size ≤ wo122.heap.size := hb130.out.size
  clear hwo122 n115 l116 l117 l118 l119 l120 l121 hb112 B109 B110 B111 L113 L114
  refine (pt_ok c1 sa1 sc1 sz1 da1 dc1 dz1 ba bc bs bs.length rfl c1 xa1 xc1 S ya1 yc1 D _ x11 x12 hbl (by have := HSD.out.2.2.1; omega) (by have := HSD.out.2.2.2.1; omega) ((HI1.out.1.1.below hb130.out).mono hb130.out.size) ((HI1.out.2.1.1.below hb130.out).mono hb130.out.size) ((HM.out.below hb130.out).mono hb130.out.size) (L128.out.is (by omega)).1 (L129.out.is (by omega)).1 sz1 dz1 HPt ⟨HB1.out.1, rfl, HB1.out.2⟩).mono ?_
  rintro e v7 ⟨xa2, xc2, ya2, yc2, rfl, hX2, hY2, hB⟩
  have z131 : wo122.heap.size ≤ v7.heap.size := hB.size
  have B132 : Hid (Abx v7 (w.heap.size) (.bool c1) (.slice sa1 sz1.length sc1) (.slice da1 dz1.length dc1)) := B124.out.go hB
  have B133 : Hid (Abx v7 (w.heap.size + 1) (.bool c2) (.slice sa2 sz2.length sc2) (.slice da2 dz2.length dc2)) := B125.out.go hB
  have B134 : Hid (Abx v7 (w.heap.size + 1 + 1) (.bool c3) (.slice sa3 sz3.length sc3) (.slice da3 dz3.length dc3)) := B126.out.go hB
  have B135 : Hid (Abx v7 (v6.heap.size) (.bool c1) (.slice xa1 S.length xc1) (.slice ya1 D.length yc1)) := B127.out.go hB
  have L136 : Hid (MidC (v5.heap.size) (v6.heap.size) v7 (xa1) (S) (xc1)) := L128.out.go (by omega) hB
  have L137 : Hid (MidC (v5.heap.size) (v6.heap.size) v7 (ya1) (D) (yc1)) := L129.out.go (by omega) hB
  have hb138 : Hid (Below w.heap.size w v7) := hb130.out.trans (hB.mono hb130.out.size)
  have L139 : Hid (MidC (wo122.heap.size) (v7.heap.size) v7 (xa2) (sz1) (xc2)) := hX2.midc
  have L140 : Hid (MidC (wo122.heap.size) (v7.heap.size) v7 (ya2) (dz1) (yc2)) := hY2.midc
  clear hB hb130 B124 B125 B126 B127 L128 L129 hX2 hY2
  have n141 := Abx.new v7 (.bool c1) (.slice xa2 sz1.length xc2) (.slice ya2 dz1.length yc2)
  have l142 := (n141).c0
  have l143 := (n141).c1
  have l144 := (n141).c2
  have l145 := ((B132.out.al (.cells #[.bool c1, .slice xa2 sz1.length xc2, .slice ya2 dz1.length yc2] 24))).c0
  have l146 := ((B132.out.al (.cells #[.bool c1, .slice xa2 sz1.length xc2, .slice ya2 dz1.length yc2] 24))).c1
  have l147 := ((B132.out.al (.cells #[.bool c1, .slice xa2 sz1.length xc2, .slice ya2 dz1.length yc2] 24))).c2
  go_wp2_with fail
  obtain ⟨wo148, hwo148⟩ : ∃ wo148, wo148 = (v7.alloc (.cells #[.bool c1, .slice xa2 sz1.length xc2, .slice ya2 dz1.length yc2] 24)) := ⟨_, rfl⟩
  rw [← hwo148]
  have z149 : v7.heap.size + 1 ≤ wo148.heap.size := by rw [hwo148]; simp only [World.size_alloc]; omega
  have B150 : Hid (Abx wo148 (w.heap.size) (.bool c1) (.slice sa1 sz1.length sc1) (.slice da1 dz1.length dc1)) := by rw [hwo148]; exact (B132.out.al (.cells #[.bool c1, .slice xa2 sz1.length xc2, .slice ya2 dz1.length yc2] 24))
  have B151 : Hid (Abx wo148 (w.heap.size + 1) (.bool c2) (.slice sa2 sz2.length sc2) (.slice da2 dz2.length dc2)) := by rw [hwo148]; exact (B133.out.al (.cells #[.bool c1, .slice xa2 sz1.length xc2, .slice ya2 dz1.length yc2] 24))
  have B152 : Hid (Abx wo148 (w.heap.size + 1 + 1) (.bool c3) (.slice sa3 sz3.length sc3) (.slice da3 dz3.length dc3)) := by rw [hwo148]; exact (B134.out.al (.cells #[.bool c1, .slice xa2 sz1.length xc2, .slice ya2 dz1.length yc2] 24))
  have B153 : Hid (Abx wo148 (v6.heap.size) (.bool c1) (.slice xa1 S.length xc1) (.slice ya1 D.length yc1)) := by rw [hwo148]; exact (B135.out.al (.cells #[.bool c1, .slice xa2 sz1.length xc2, .slice ya2 dz1.length yc2] 24))
  have B154 : Hid (Abx wo148 (v7.heap.size) (.bool c1) (.slice xa2 sz1.length xc2) (.slice ya2 dz1.length yc2)) := by rw [hwo148]; exact n141
  have L155 : Hid (MidC (v5.heap.size) (v6.heap.size) wo148 (xa1) (S) (xc1)) := by rw [hwo148]; exact (L136.out.al (by omega) (.cells #[.bool c1, .slice xa2 sz1.length xc2, .slice ya2 dz1.length yc2] 24))
  have L156 : Hid (MidC (v5.heap.size) (v6.heap.size) wo148 (ya1) (D) (yc1)) := by rw [hwo148]; exact (L137.out.al (by omega) (.cells #[.bool c1, .slice xa2 sz1.length xc2, .slice ya2 dz1.length yc2] 24))
  have L157 : Hid (MidC (wo122.heap.size) (v7.heap.size) wo148 (xa2) (sz1) (xc2)) := by rw [hwo148]; exact (L139.out.al (by omega) (.cells #[.bool c1, .slice xa2 sz1.length xc2, .slice ya2 dz1.length yc2] 24))
  have L158 : Hid (MidC (wo122.heap.size) (v7.heap.size) wo148 (ya2) (dz1) (yc2)) := by rw [hwo148]; exact (L140.out.al (by omega) (.cells #[.bool c1, .slice xa2 sz1.length xc2, .slice ya2 dz1.length yc2] 24))
  have hb159 : Hid (Below w.heap.size w wo148) := by rw [hwo148]; exact (hb138.out.alloc (by omega) (.cells #[.bool c1, .slice xa2 sz1.length xc2, .slice ya2 dz1.length yc2] 24))
  have zwo148 : w.heap.size ≤ wo148.heap.size := hb159.out.size
  clear hwo148 n141 l142 l143 l144 l145 l146 l147 hb138 B132 B133 B134 B135 L136 L137 L139 L140
  refine (alike_eq c1 xa2 xc2 sz1 ya2 yc2 dz1 sa1 sc1 sz1 da1 dc1 dz1 rfl rfl x11 x12 _ (L157.out.is (by omega)) (L158.out.is (by omega)).1 ((HI1.out.1.below hb159.out).mono hb159.out.size) ((HI1.out.2.1.1.below hb159.out).mono hb159.out.size)).mono ?_
  rintro e v8 ⟨rfl, hB⟩
  have z160 : wo148.heap.size ≤ v8.heap.size := hB.size
  have B161 : Hid (Abx v8 (w.heap.size) (.bool c1) (.slice sa1 sz1.length sc1) (.slice da1 dz1.length dc1)) := B150.out.go hB
  have B162 : Hid (Abx v8 (w.heap.size + 1) (.bool c2) (.slice sa2 sz2.length sc2) (.slice da2 dz2.length dc2)) := B151.out.go hB
  have B163 : Hid (Abx v8 (w.heap.size + 1 + 1) (.bool c3) (.slice sa3 sz3.length sc3) (.slice da3 dz3.length dc3)) := B152.out.go hB
  have B164 : Hid (Abx v8 (v6.heap.size) (.bool c1) (.slice xa1 S.length xc1) (.slice ya1 D.length yc1)) := B153.out.go hB
  have B165 : Hid (Abx v8 (v7.heap.size) (.bool c1) (.slice xa2 sz1.length xc2) (.slice ya2 dz1.length yc2)) := B154.out.go hB
  have L166 : Hid (MidC (v5.heap.size) (v6.heap.size) v8 (xa1) (S) (xc1)) := L155.out.go (by omega) hB
  have L167 : Hid (MidC (v5.heap.size) (v6.heap.size) v8 (ya1) (D) (yc1)) := L156.out.go (by omega) hB
  have L168 : Hid (MidC (wo122.heap.size) (v7.heap.size) v8 (xa2) (sz1) (xc2)) := L157.out.go (by omega) hB
  have L169 : Hid (MidC (wo122.heap.size) (v7.heap.size) v8 (ya2) (dz1) (yc2)) := L158.out.go (by omega) hB
  have hb170 : Hid (Below w.heap.size w v8) := hb159.out.trans (hB.mono hb159.out.size)
  clear hB hb159 B150 B151 B152 B153 B154 L155 L156 L157 L158
  clear L168 L169 B165
  have l171 := (B161.out).c0
  have l172 := (B161.out).c1
  have l173 := (B161.out).c2
  have l174 := (B162.out).c0
  have l175 := (B162.out).c1
  have l176 := (B162.out).c2
  go_wp2_with fail
  clear l171 l172 l173 l174 l175 l176
  refine (pt_no c1 sa1 sc1 sz1 da1 dc1 dz1 ba bc bs bs.length rfl c2 sa2 sc2 sz2 da2 dc2 dz2 _ x11 x12 hbl x21 x22 ((HI1.out.1.1.below hb170.out).mono hb170.out.size) ((HI1.out.2.1.1.below hb170.out).mono hb170.out.size) ((HM.out.below hb170.out).mono hb170.out.size) ((HI2.out.1.1.below hb170.out).mono hb170.out.size) ((HI2.out.2.1.1.below hb170.out).mono hb170.out.size) HPt F2.out).mono ?_
  rintro e v9 ⟨xa3, xc3, ya3, yc3, rfl, hB⟩
  have z177 : v8.heap.size ≤ v9.heap.size := hB.size
  have B178 : Hid (Abx v9 (w.heap.size) (.bool c1) (.slice sa1 sz1.length sc1) (.slice da1 dz1.length dc1)) := B161.out.go hB
  have B179 : Hid (Abx v9 (w.heap.size + 1) (.bool c2) (.slice sa2 sz2.length sc2) (.slice da2 dz2.length dc2)) := B162.out.go hB
  have B180 : Hid (Abx v9 (w.heap.size + 1 + 1) (.bool c3) (.slice sa3 sz3.length sc3) (.slice da3 dz3.length dc3)) := B163.out.go hB
  have B181 : Hid (Abx v9 (v6.heap.size) (.bool c1) (.slice xa1 S.length xc1) (.slice ya1 D.length yc1)) := B164.out.go hB
  have L182 : Hid (MidC (v5.heap.size) (v6.heap.size) v9 (xa1) (S) (xc1)) := L166.out.go (by omega) hB
  have L183 : Hid (MidC (v5.heap.size) (v6.heap.size) v9 (ya1) (D) (yc1)) := L167.out.go (by omega) hB
  have hb184 : Hid (Below w.heap.size w v9) := hb170.out.trans (hB.mono hb170.out.size)
  clear hB hb170 B161 B162 B163 B164 L166 L167
  have n185 := Abx.new v9 (.bool false) (.slice xa3 0 xc3) (.slice ya3 0 yc3)
  go_wp2_with fail
  obtain ⟨wo186, hwo186⟩ : ∃ wo186, wo186 = (v9.alloc (.cells #[.bool false, .slice xa3 0 xc3, .slice ya3 0 yc3] 24)) := ⟨_, rfl⟩
  rw [← hwo186]
  have z187 : v9.heap.size + 1 ≤ wo186.heap.size := by rw [hwo186]; simp only [World.size_alloc]; omega
  have B188 : Hid (Abx wo186 (w.heap.size) (.bool c1) (.slice sa1 sz1.length sc1) (.slice da1 dz1.length dc1)) := by rw [hwo186]; exact (B178.out.al (.cells #[.bool false, .slice xa3 0 xc3, .slice ya3 0 yc3] 24))
  have B189 : Hid (Abx wo186 (w.heap.size + 1) (.bool c2) (.slice sa2 sz2.length sc2) (.slice da2 dz2.length dc2)) := by rw [hwo186]; exact (B179.out.al (.cells #[.bool false, .slice xa3 0 xc3, .slice ya3 0 yc3] 24))
  have B190 : Hid (Abx wo186 (w.heap.size + 1 + 1) (.bool c3) (.slice sa3 sz3.length sc3) (.slice da3 dz3.length dc3)) := by rw [hwo186]; exact (B180.out.al (.cells #[.bool false, .slice xa3 0 xc3, .slice ya3 0 yc3] 24))
  have B191 : Hid (Abx wo186 (v6.heap.size) (.bool c1) (.slice xa1 S.length xc1) (.slice ya1 D.length yc1)) := by rw [hwo186]; exact (B181.out.al (.cells #[.bool false, .slice xa3 0 xc3, .slice ya3 0 yc3] 24))
  have B192 : Hid (Abx wo186 (v9.heap.size) (.bool false) (.slice xa3 0 xc3) (.slice ya3 0 yc3)) := by rw [hwo186]; exact n185
  have L193 : Hid (MidC (v5.heap.size) (v6.heap.size) wo186 (xa1) (S) (xc1)) := by rw [hwo186]; exact (L182.out.al (by omega) (.cells #[.bool false, .slice xa3 0 xc3, .slice ya3 0 yc3] 24))
  have L194 : Hid (MidC (v5.heap.size) (v6.heap.size) wo186 (ya1) (D) (yc1)) := by rw [hwo186]; exact (L183.out.al (by omega) (.cells #[.bool false, .slice xa3 0 xc3, .slice ya3 0 yc3] 24))
  have hb195 : Hid (Below w.heap.size w wo186) := by rw [hwo186]; exact (hb184.out.alloc (by omega) (.cells #[.bool false, .slice xa3 0 xc3, .slice ya3 0 yc3] 24))
  have zwo186 : w.heap.size ≤ wo186.heap.size := hb195.out.size
  clear hwo186 n185 hb184 B178 B179 B180 B181 L182 L183
  go_wp2_with fail
  go_ret
  exact ⟨rfl, hb195.out⟩
end Go.Proofs.Ytlflacoiidhgoaa
