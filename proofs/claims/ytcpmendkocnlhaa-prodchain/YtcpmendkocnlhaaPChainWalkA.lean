/-
  The walk of the statement ProdChain, given what the program tells.
-/
import Derived.Test.YtcpmendkocnlhaaPrdx
import Derived.Test.YtcpmendkocnlhaaPrdw
import Derived.Test.YtcpmendkocnlhaaPair
import Derived.Test.YtcpmendkocnlhaaHold
import Derived.Test.YtcpmendkocnlhaaFldx
import Derived.Test.YtcpmendkocnlhaaMidc
import Derived.Test.YtcpmendkocnlhaaSarr
namespace Go.Proofs.Ytcpmendkocnlhaa
open Go.RowKit
set_option linter.unusedVariables false

set_option maxRecDepth 100000 in
set_option maxHeartbeats 2000000 in
theorem chain_s (HNi : CNi) (f g : Int) (hf : In64 f) (hg : In64 g) (c1 : Bool) (sa1 : Option Addr) (sc1 : Nat) (sz1 : List Int) (da1 : Option Addr) (dc1 : Nat) (dz1 : List Int) (c2 : Bool) (sa2 : Option Addr) (sc2 : Nat) (sz2 : List Int) (da2 : Option Addr) (dc2 : Nat) (dz2 : List Int) (c3 : Bool) (sa3 : Option Addr) (sc3 : Nat) (sz3 : List Int) (da3 : Option Addr) (dc3 : Nat) (dz3 : List Int) (w : World) (w8 : IsArrD w sa1 sz1 sc1 da1 dz1 dc1) (w9 : IsArrD w sa2 sz2 sc2 da2 dz2 dc2) (w10 : IsArrD w sa3 sz3 sc3 da3 dz3 dc3) (GS : Hid (¬ Srg f g)) :
    Calls Try.prog 3 #[.int .i64 f, .int .i64 g, .agg #[.bool c1, .slice sa1 sz1.length sc1, .slice da1 dz1.length dc1], .agg #[.bool c2, .slice sa2 sz2.length sc2, .slice da2 dz2.length dc2], .agg #[.bool c3, .slice sa3 sz3.length sc3, .slice da3 dz3.length dc3]] w fun e w' => e = .returned (.bool true) ∧ Below w.heap.size w w' := by
  obtain ⟨x11, x12, x3, x4, s64, T⟩ := w8
  have HI1 : Hid (IsC w.heap.size w sa1 sz1 sc1 ∧ IsC w.heap.size w da1 dz1 dc1 ∧ (∀ j, In64 (nth sz1 j)) ∧ ∀ j, In64 (nth dz1 j)) := ⟨x3, x4, s64, T⟩
  clear x3 x4 T s64
  obtain ⟨x21, x22, x3, x4, s64, T⟩ := w9
  have HI2 : Hid (IsC w.heap.size w sa2 sz2 sc2 ∧ IsC w.heap.size w da2 dz2 dc2 ∧ (∀ j, In64 (nth sz2 j)) ∧ ∀ j, In64 (nth dz2 j)) := ⟨x3, x4, s64, T⟩
  clear x3 x4 T s64
  obtain ⟨x31, x32, x3, x4, s64, T⟩ := w10
  have HI3 : Hid (IsC w.heap.size w sa3 sz3 sc3 ∧ IsC w.heap.size w da3 dz3 dc3 ∧ (∀ j, In64 (nth sz3 j)) ∧ ∀ j, In64 (nth dz3 j)) := ⟨x3, x4, s64, T⟩
  clear x3 x4 T s64
  have n1 := Abx.new w (.bool c1) (.slice sa1 sz1.length sc1) (.slice da1 dz1.length dc1)
  have n2 := Abx.new (w.alloc (.cells #[.bool c1, .slice sa1 sz1.length sc1, .slice da1 dz1.length dc1] 25)) (.bool c2) (.slice sa2 sz2.length sc2) (.slice da2 dz2.length dc2)
  simp only [World.size_alloc] at n2
  have n3 := Abx.new ((w.alloc (.cells #[.bool c1, .slice sa1 sz1.length sc1, .slice da1 dz1.length dc1] 25)).alloc (.cells #[.bool c2, .slice sa2 sz2.length sc2, .slice da2 dz2.length dc2] 25)) (.bool c3) (.slice sa3 sz3.length sc3) (.slice da3 dz3.length dc3)
  simp only [World.size_alloc] at n3
  have n4 := lit_mid (((w.alloc (.cells #[.bool c1, .slice sa1 sz1.length sc1, .slice da1 dz1.length dc1] 25)).alloc (.cells #[.bool c2, .slice sa2 sz2.length sc2, .slice da2 dz2.length dc2] 25)).alloc (.cells #[.bool c3, .slice sa3 sz3.length sc3, .slice da3 dz3.length dc3] 25)) 3 [1, 2, 3] 3 rfl
  simp only [World.size_alloc, List.map_cons, List.map_nil] at n4
  go_enter Try.func3, Try.ntmps3
  go_wp2_with fail
  obtain ⟨wo5, hwo5⟩ : ∃ wo5, wo5 = ((((w.alloc (.cells #[.bool c1, .slice sa1 sz1.length sc1, .slice da1 dz1.length dc1] 25)).alloc (.cells #[.bool c2, .slice sa2 sz2.length sc2, .slice da2 dz2.length dc2] 25)).alloc (.cells #[.bool c3, .slice sa3 sz3.length sc3, .slice da3 dz3.length dc3] 25)).alloc (.cells #[.int .i64 1, .int .i64 2, .int .i64 3] 3)) := ⟨_, rfl⟩
  rw [← hwo5]
  have z6 : w.heap.size + 1 + 1 + 1 + 1 ≤ wo5.heap.size := by rw [hwo5]; simp only [World.size_alloc]; omega
  have B7 : Hid (Abx wo5 (w.heap.size) (.bool c1) (.slice sa1 sz1.length sc1) (.slice da1 dz1.length dc1)) := by rw [hwo5]; exact (((n1.al (.cells #[.bool c2, .slice sa2 sz2.length sc2, .slice da2 dz2.length dc2] 25)).al (.cells #[.bool c3, .slice sa3 sz3.length sc3, .slice da3 dz3.length dc3] 25)).al (.cells #[.int .i64 1, .int .i64 2, .int .i64 3] 3))
  have B8 : Hid (Abx wo5 (w.heap.size + 1) (.bool c2) (.slice sa2 sz2.length sc2) (.slice da2 dz2.length dc2)) := by rw [hwo5]; exact ((n2.al (.cells #[.bool c3, .slice sa3 sz3.length sc3, .slice da3 dz3.length dc3] 25)).al (.cells #[.int .i64 1, .int .i64 2, .int .i64 3] 3))
  have B9 : Hid (Abx wo5 (w.heap.size + 1 + 1) (.bool c3) (.slice sa3 sz3.length sc3) (.slice da3 dz3.length dc3)) := by rw [hwo5]; exact (n3.al (.cells #[.int .i64 1, .int .i64 2, .int .i64 3] 3))
  have L10 : Hid (MidC (w.heap.size + 1 + 1 + 1) (w.heap.size + 1 + 1 + 1 + 1) wo5 (some ⟨w.heap.size + 1 + 1 + 1, 0, none⟩) ([1, 2, 3]) (3)) := by rw [hwo5]; exact n4
  have hb11 : Hid (Below w.heap.size w wo5) := by rw [hwo5]; exact (((((Below.refl w.heap.size w).alloc (by omega) (.cells #[.bool c1, .slice sa1 sz1.length sc1, .slice da1 dz1.length dc1] 25)).alloc (by simp only [World.size_alloc]; omega) (.cells #[.bool c2, .slice sa2 sz2.length sc2, .slice da2 dz2.length dc2] 25)).alloc (by simp only [World.size_alloc]; omega) (.cells #[.bool c3, .slice sa3 sz3.length sc3, .slice da3 dz3.length dc3] 25)).alloc (by simp only [World.size_alloc]; omega) (.cells #[.int .i64 1, .int .i64 2, .int .i64 3] 3))
  have zwo5 : w.heap.size ≤ wo5.heap.size := hb11.out.size
  clear hwo5 n1 n2 n3 n4
  refine (vec_c (some ⟨w.heap.size + 1 + 1 + 1, 0, none⟩) 3 [1, 2, 3] (by simp) _ (L10.out.is (by omega)).1).mono ?_
  rintro e v1 ⟨vap, vcp, gap, gcp, rfl, hVp, hGp, hB⟩
  have z12 : wo5.heap.size ≤ v1.heap.size := hB.size
  have B13 : Hid (Abx v1 (w.heap.size) (.bool c1) (.slice sa1 sz1.length sc1) (.slice da1 dz1.length dc1)) := B7.out.go hB
  have B14 : Hid (Abx v1 (w.heap.size + 1) (.bool c2) (.slice sa2 sz2.length sc2) (.slice da2 dz2.length dc2)) := B8.out.go hB
  have B15 : Hid (Abx v1 (w.heap.size + 1 + 1) (.bool c3) (.slice sa3 sz3.length sc3) (.slice da3 dz3.length dc3)) := B9.out.go hB
  have L16 : Hid (MidC (w.heap.size + 1 + 1 + 1) (w.heap.size + 1 + 1 + 1 + 1) v1 (some ⟨w.heap.size + 1 + 1 + 1, 0, none⟩) ([1, 2, 3]) (3)) := L10.out.go (by omega) hB
  have hb17 : Hid (Below w.heap.size w v1) := hb11.out.trans (hB.mono hb11.out.size)
  have L18 : Hid (MidC (wo5.heap.size) (v1.heap.size) v1 (vap) ([(3 : Int)]) (vcp)) := hVp.midc
  have L19 : Hid (MidC (wo5.heap.size) (v1.heap.size) v1 (gap) ([1, 2, 3]) (gcp)) := hGp.midc
  clear hB hb11 B7 B8 B9 L10 hVp hGp
  clear L16
  have n20 := lit_mid v1 3 [4, 5, 6] 3 rfl
  simp only [List.map_cons, List.map_nil] at n20
  go_wp2_with fail
  obtain ⟨wo21, hwo21⟩ : ∃ wo21, wo21 = (v1.alloc (.cells #[.int .i64 4, .int .i64 5, .int .i64 6] 3)) := ⟨_, rfl⟩
  rw [← hwo21]
  have z22 : v1.heap.size + 1 ≤ wo21.heap.size := by rw [hwo21]; simp only [World.size_alloc]; omega
  have B23 : Hid (Abx wo21 (w.heap.size) (.bool c1) (.slice sa1 sz1.length sc1) (.slice da1 dz1.length dc1)) := by rw [hwo21]; exact (B13.out.al (.cells #[.int .i64 4, .int .i64 5, .int .i64 6] 3))
  have B24 : Hid (Abx wo21 (w.heap.size + 1) (.bool c2) (.slice sa2 sz2.length sc2) (.slice da2 dz2.length dc2)) := by rw [hwo21]; exact (B14.out.al (.cells #[.int .i64 4, .int .i64 5, .int .i64 6] 3))
  have B25 : Hid (Abx wo21 (w.heap.size + 1 + 1) (.bool c3) (.slice sa3 sz3.length sc3) (.slice da3 dz3.length dc3)) := by rw [hwo21]; exact (B15.out.al (.cells #[.int .i64 4, .int .i64 5, .int .i64 6] 3))
  have L26 : Hid (MidC (wo5.heap.size) (v1.heap.size) wo21 (vap) ([(3 : Int)]) (vcp)) := by rw [hwo21]; exact (L18.out.al (by omega) (.cells #[.int .i64 4, .int .i64 5, .int .i64 6] 3))
  have L27 : Hid (MidC (wo5.heap.size) (v1.heap.size) wo21 (gap) ([1, 2, 3]) (gcp)) := by rw [hwo21]; exact (L19.out.al (by omega) (.cells #[.int .i64 4, .int .i64 5, .int .i64 6] 3))
  have L28 : Hid (MidC (v1.heap.size) (v1.heap.size + 1) wo21 (some ⟨v1.heap.size, 0, none⟩) ([4, 5, 6]) (3)) := by rw [hwo21]; exact n20
  have hb29 : Hid (Below w.heap.size w wo21) := by rw [hwo21]; exact (hb17.out.alloc (by omega) (.cells #[.int .i64 4, .int .i64 5, .int .i64 6] 3))
  have zwo21 : w.heap.size ≤ wo21.heap.size := hb29.out.size
  clear hwo21 n20 hb17 B13 B14 B15 L18 L19
  refine (vec_c (some ⟨v1.heap.size, 0, none⟩) 3 [4, 5, 6] (by simp) _ (L28.out.is (by omega)).1).mono ?_
  rintro e v2 ⟨vaq, vcq, gaq, gcq, rfl, hVq, hGq, hB⟩
  have z30 : wo21.heap.size ≤ v2.heap.size := hB.size
  have B31 : Hid (Abx v2 (w.heap.size) (.bool c1) (.slice sa1 sz1.length sc1) (.slice da1 dz1.length dc1)) := B23.out.go hB
  have B32 : Hid (Abx v2 (w.heap.size + 1) (.bool c2) (.slice sa2 sz2.length sc2) (.slice da2 dz2.length dc2)) := B24.out.go hB
  have B33 : Hid (Abx v2 (w.heap.size + 1 + 1) (.bool c3) (.slice sa3 sz3.length sc3) (.slice da3 dz3.length dc3)) := B25.out.go hB
  have L34 : Hid (MidC (wo5.heap.size) (v1.heap.size) v2 (vap) ([(3 : Int)]) (vcp)) := L26.out.go (by omega) hB
  have L35 : Hid (MidC (wo5.heap.size) (v1.heap.size) v2 (gap) ([1, 2, 3]) (gcp)) := L27.out.go (by omega) hB
  have L36 : Hid (MidC (v1.heap.size) (v1.heap.size + 1) v2 (some ⟨v1.heap.size, 0, none⟩) ([4, 5, 6]) (3)) := L28.out.go (by omega) hB
  have hb37 : Hid (Below w.heap.size w v2) := hb29.out.trans (hB.mono hb29.out.size)
  have L38 : Hid (MidC (wo21.heap.size) (v2.heap.size) v2 (vaq) ([(3 : Int)]) (vcq)) := hVq.midc
  have L39 : Hid (MidC (wo21.heap.size) (v2.heap.size) v2 (gaq) ([4, 5, 6]) (gcq)) := hGq.midc
  clear hB hb29 B23 B24 B25 L26 L27 L28 hVq hGq
  clear L36
  go_wp2_with fail
  refine (niw_ok 1 3 false vap vcp [(3 : Int)] 1 rfl gap gcp [1, 2, 3] 3 rfl false vaq vcq [(3 : Int)] 1 rfl gaq gcq [4, 5, 6] 3 rfl _ (by unfold In64; decide) (by unfold In64; decide) (by decide) (by decide) (L34.out.is (by omega)) (L35.out.is (by omega)).1 (lit12 (by decide)) (by decide) (by decide) (L38.out.is (by omega)) (L39.out.is (by omega)).1 (lit12 (by decide)) [] [32] HNi (by show inE 1 3 false [(3 : Int)] [1, 2, 3] false [(3 : Int)] [4, 5, 6] = 0 ∧ inS [(3 : Int)] [(3 : Int)] = [] ∧ inD 1 3 false [(3 : Int)] [1, 2, 3] false [(3 : Int)] [4, 5, 6] = [32]; decide +kernel)).mono ?_
  rintro e v3 ⟨f1, g1, f2, g2, rfl, hX0, hY0, hB⟩
  have z40 : v2.heap.size ≤ v3.heap.size := hB.size
  have B41 : Hid (Abx v3 (w.heap.size) (.bool c1) (.slice sa1 sz1.length sc1) (.slice da1 dz1.length dc1)) := B31.out.go hB
  have B42 : Hid (Abx v3 (w.heap.size + 1) (.bool c2) (.slice sa2 sz2.length sc2) (.slice da2 dz2.length dc2)) := B32.out.go hB
  have B43 : Hid (Abx v3 (w.heap.size + 1 + 1) (.bool c3) (.slice sa3 sz3.length sc3) (.slice da3 dz3.length dc3)) := B33.out.go hB
  have L44 : Hid (MidC (wo5.heap.size) (v1.heap.size) v3 (vap) ([(3 : Int)]) (vcp)) := L34.out.go (by omega) hB
  have L45 : Hid (MidC (wo5.heap.size) (v1.heap.size) v3 (gap) ([1, 2, 3]) (gcp)) := L35.out.go (by omega) hB
  have L46 : Hid (MidC (wo21.heap.size) (v2.heap.size) v3 (vaq) ([(3 : Int)]) (vcq)) := L38.out.go (by omega) hB
  have L47 : Hid (MidC (wo21.heap.size) (v2.heap.size) v3 (gaq) ([4, 5, 6]) (gcq)) := L39.out.go (by omega) hB
  have hb48 : Hid (Below w.heap.size w v3) := hb37.out.trans (hB.mono hb37.out.size)
  have L49 : Hid (MidC (v2.heap.size) (v3.heap.size) v3 (f1) ([]) (g1)) := hX0.midc
  have L50 : Hid (MidC (v2.heap.size) (v3.heap.size) v3 (f2) ([32]) (g2)) := hY0.midc
  clear hB hb37 B31 B32 B33 L34 L35 L38 L39 hX0 hY0
  clear L44 L45 L46 L47
  obtain ⟨b51, ob51, rfl, _, _, _, _⟩ := L50.out.at (i := 0) (by decide)
  have n52 := Abx.new v3 (.bool false) (.slice f1 0 g1) (.slice (some ⟨b51, ob51, none⟩) 1 g2)
  have l53 := (n52).c0
  have l54 := (n52).c1
  have l55 := (n52).c2
  obtain ⟨_, _, l56e, _, _, l56, _⟩ := ((L50.out.al (by omega) (.cells #[.bool false, .slice f1 0 g1, .slice (some ⟨b51, ob51, none⟩) 1 g2] 25))).at (i := 0) (by decide)
  cases l56e
  try simp only [Nat.add_zero] at l56
  go_wp2_with fail
  obtain ⟨wo57, hwo57⟩ : ∃ wo57, wo57 = (v3.alloc (.cells #[.bool false, .slice f1 0 g1, .slice (some ⟨b51, ob51, none⟩) 1 g2] 25)) := ⟨_, rfl⟩
  rw [← hwo57]
  have z58 : v3.heap.size + 1 ≤ wo57.heap.size := by rw [hwo57]; simp only [World.size_alloc]; omega
  have B59 : Hid (Abx wo57 (w.heap.size) (.bool c1) (.slice sa1 sz1.length sc1) (.slice da1 dz1.length dc1)) := by rw [hwo57]; exact (B41.out.al (.cells #[.bool false, .slice f1 0 g1, .slice (some ⟨b51, ob51, none⟩) 1 g2] 25))
  have B60 : Hid (Abx wo57 (w.heap.size + 1) (.bool c2) (.slice sa2 sz2.length sc2) (.slice da2 dz2.length dc2)) := by rw [hwo57]; exact (B42.out.al (.cells #[.bool false, .slice f1 0 g1, .slice (some ⟨b51, ob51, none⟩) 1 g2] 25))
  have B61 : Hid (Abx wo57 (w.heap.size + 1 + 1) (.bool c3) (.slice sa3 sz3.length sc3) (.slice da3 dz3.length dc3)) := by rw [hwo57]; exact (B43.out.al (.cells #[.bool false, .slice f1 0 g1, .slice (some ⟨b51, ob51, none⟩) 1 g2] 25))
  have B62 : Hid (Abx wo57 (v3.heap.size) (.bool false) (.slice f1 0 g1) (.slice (some ⟨b51, ob51, none⟩) 1 g2)) := by rw [hwo57]; exact n52
  have L63 : Hid (MidC (v2.heap.size) (v3.heap.size) wo57 (f1) ([]) (g1)) := by rw [hwo57]; exact (L49.out.al (by omega) (.cells #[.bool false, .slice f1 0 g1, .slice (some ⟨b51, ob51, none⟩) 1 g2] 25))
  have L64 : Hid (MidC (v2.heap.size) (v3.heap.size) wo57 (some ⟨b51, ob51, none⟩) ([32]) (g2)) := by rw [hwo57]; exact (L50.out.al (by omega) (.cells #[.bool false, .slice f1 0 g1, .slice (some ⟨b51, ob51, none⟩) 1 g2] 25))
  have hb65 : Hid (Below w.heap.size w wo57) := by rw [hwo57]; exact (hb48.out.alloc (by omega) (.cells #[.bool false, .slice f1 0 g1, .slice (some ⟨b51, ob51, none⟩) 1 g2] 25))
  have zwo57 : w.heap.size ≤ wo57.heap.size := hb65.out.size
  clear hwo57 n52 l53 l54 l55 l56 hb48 B41 B42 B43 L49 L50
  clear L63 L64 B62
  have hb0 : Below wo57.heap.size wo57 wo57.drew := (Below.refl _ wo57).drew
  refine anyC_begin (fun w' => w'.cell? ⟨w.heap.size, 0, none⟩ = some (.bool c1) ∧ w'.cell? ⟨w.heap.size, 1, none⟩ = some (.slice sa1 sz1.length sc1) ∧ w'.cell? ⟨w.heap.size, 2, none⟩ = some (.slice da1 dz1.length dc1) ∧ w'.cell? ⟨w.heap.size + 1, 0, none⟩ = some (.bool c2) ∧ w'.cell? ⟨w.heap.size + 1, 1, none⟩ = some (.slice sa2 sz2.length sc2) ∧ w'.cell? ⟨w.heap.size + 1, 2, none⟩ = some (.slice da2 dz2.length dc2) ∧ w'.cell? ⟨w.heap.size + 1 + 1, 0, none⟩ = some (.bool c3) ∧ w'.cell? ⟨w.heap.size + 1 + 1, 1, none⟩ = some (.slice sa3 sz3.length sc3) ∧ w'.cell? ⟨w.heap.size + 1 + 1, 2, none⟩ = some (.slice da3 dz3.length dc3)) 41 #[false, false, false, false, false, false, false, false, false, false, false, false, false, false, false, false, false, false, false, false, false, false, false, false, false, false, false, false, false, false, false, false, false, false, false, false, false, false, false, false, false] (by kernel_rfl) rfl rfl ?_
  refine anyC_put 0 43 ?rv10 #[true, false, false, false, false, false, false, false, false, false, false, false, false, false, false, false, false, false, false, false, false, false, false, false, false, false, false, false, false, false, false, false, false, false, false, false, false, false, false, false, false] rfl rfl rfl (by kernel_rfl) (by kernel_rfl) (by kernel_rfl) (fun _ _ _ h => h) ?ry10 (⟨(B59.out.go hb0).c0, (B59.out.go hb0).c1, (B59.out.go hb0).c2, (B60.out.go hb0).c0, (B60.out.go hb0).c1, (B60.out.go hb0).c2, (B61.out.go hb0).c0, (B61.out.go hb0).c1, (B61.out.go hb0).c2⟩) ?rm10
  case ry10 => first | exact Or.inl ⟨by rfl, by intro w'; go_simp; first | done | rfl⟩
  case rm10 =>
  simp only [Act.put, List.setIfInBounds_toArray, List.set_cons_zero, List.set_cons_succ]
  refine anyC_put 1 44 ?rv11 #[true, true, false, false, false, false, false, false, false, false, false, false, false, false, false, false, false, false, false, false, false, false, false, false, false, false, false, false, false, false, false, false, false, false, false, false, false, false, false, false, false] rfl rfl rfl (by kernel_rfl) (by kernel_rfl) (by kernel_rfl) (fun _ _ _ h => h) ?ry11 (⟨(B59.out.go hb0).c0, (B59.out.go hb0).c1, (B59.out.go hb0).c2, (B60.out.go hb0).c0, (B60.out.go hb0).c1, (B60.out.go hb0).c2, (B61.out.go hb0).c0, (B61.out.go hb0).c1, (B61.out.go hb0).c2⟩) ?rm11
  case ry11 => first | exact Or.inl ⟨by rfl, by intro w'; go_simp; first | done | rfl⟩
  case rm11 =>
  simp only [Act.put, List.setIfInBounds_toArray, List.set_cons_zero, List.set_cons_succ]
  refine anyC_one 2 #[true, true, true, false, false, false, false, false, false, false, false, false, false, false, false, false, false, false, false, false, false, false, false, false, false, false, false, false, false, false, false, false, false, false, false, false, false, false, false, false, false] (by kernel_rfl) rfl rfl (fun K hK => ?_)
  go_simp
  go_wp2_with (go_at_call 9; refine (sring_any f g _).mono ?_; rintro e ysr ⟨rfl, hysr⟩; obtain rfl := hysr.symm; rw [srB_no GS.out])
  refine hK.out _ _ (⟨(B59.out.go hb0).c0, (B59.out.go hb0).c1, (B59.out.go hb0).c2, (B60.out.go hb0).c0, (B60.out.go hb0).c1, (B60.out.go hb0).c2, (B61.out.go hb0).c0, (B61.out.go hb0).c1, (B61.out.go hb0).c2⟩) ?_
  clear hK K
  refine anyC_put 3 46 ?rv13 #[true, true, true, true, false, false, false, false, false, false, false, false, false, false, false, false, false, false, false, false, false, false, false, false, false, false, false, false, false, false, false, false, false, false, false, false, false, false, false, false, false] rfl rfl rfl (by kernel_rfl) (by kernel_rfl) (by kernel_rfl) (fun _ _ _ h => h) ?ry13 (⟨(B59.out.go hb0).c0, (B59.out.go hb0).c1, (B59.out.go hb0).c2, (B60.out.go hb0).c0, (B60.out.go hb0).c1, (B60.out.go hb0).c2, (B61.out.go hb0).c0, (B61.out.go hb0).c1, (B61.out.go hb0).c2⟩) ?rm13
  case ry13 => first | exact Or.inl ⟨by rfl, by intro w'; go_simp; first | done | rfl⟩
  case rm13 =>
  simp only [Act.put, List.setIfInBounds_toArray, List.set_cons_zero, List.set_cons_succ]
  refine anyC_put 4 47 ?rv14 #[true, true, true, true, true, false, false, false, false, false, false, false, false, false, false, false, false, false, false, false, false, false, false, false, false, false, false, false, false, false, false, false, false, false, false, false, false, false, false, false, false] rfl rfl rfl (by kernel_rfl) (by kernel_rfl) (by kernel_rfl) (fun _ _ _ h => h) ?ry14 (⟨(B59.out.go hb0).c0, (B59.out.go hb0).c1, (B59.out.go hb0).c2, (B60.out.go hb0).c0, (B60.out.go hb0).c1, (B60.out.go hb0).c2, (B61.out.go hb0).c0, (B61.out.go hb0).c1, (B61.out.go hb0).c2⟩) ?rm14
  case ry14 => first | exact Or.inl ⟨by rfl, by intro w'; go_simp; first | done | rfl⟩
  case rm14 =>
  simp only [Act.put, List.setIfInBounds_toArray, List.set_cons_zero, List.set_cons_succ]
  refine anyC_take 5 48 ?rv15 #[true, true, true, true, true, true, false, false, false, false, false, false, false, false, false, false, false, false, false, false, false, false, false, false, false, false, false, false, false, false, false, false, false, false, false, false, false, false, false, false, false] rfl rfl rfl (by kernel_rfl) (by kernel_rfl) (by kernel_rfl) (fun _ _ _ h => h) ?ry15 (⟨(B59.out.go hb0).c0, (B59.out.go hb0).c1, (B59.out.go hb0).c2, (B60.out.go hb0).c0, (B60.out.go hb0).c1, (B60.out.go hb0).c2, (B61.out.go hb0).c0, (B61.out.go hb0).c1, (B61.out.go hb0).c2⟩) ?rm15
  case ry15 => first | exact Or.inl ⟨by rfl, by intro w' hw'; (try dsimp only at hw'); go_simp; first | done | rfl⟩ | exact Or.inr ⟨by rfl, rfl⟩ | exact Or.inr ⟨by rfl, by rfl⟩
  case rm15 =>
  simp only [Act.put, List.setIfInBounds_toArray, List.set_cons_zero, List.set_cons_succ]
  refine anyC_one 6 #[true, true, true, true, true, true, true, false, false, false, false, false, false, false, false, false, false, false, false, false, false, false, false, false, false, false, false, false, false, false, false, false, false, false, false, false, false, false, false, false, false] (by kernel_rfl) rfl rfl (fun K hK => ?_)
  go_simp
  refine hK.out _ _ (⟨(B59.out.go hb0).c0, (B59.out.go hb0).c1, (B59.out.go hb0).c2, (B60.out.go hb0).c0, (B60.out.go hb0).c1, (B60.out.go hb0).c2, (B61.out.go hb0).c0, (B61.out.go hb0).c1, (B61.out.go hb0).c2⟩) ?_
  clear hK K
  refine anyC_put 7 50 ?rv17 #[true, true, true, true, true, true, true, true, false, false, false, false, false, false, false, false, false, false, false, false, false, false, false, false, false, false, false, false, false, false, false, false, false, false, false, false, false, false, false, false, false] rfl rfl rfl (by kernel_rfl) (by kernel_rfl) (by kernel_rfl) (fun _ _ _ h => h) ?ry17 (⟨(B59.out.go hb0).c0, (B59.out.go hb0).c1, (B59.out.go hb0).c2, (B60.out.go hb0).c0, (B60.out.go hb0).c1, (B60.out.go hb0).c2, (B61.out.go hb0).c0, (B61.out.go hb0).c1, (B61.out.go hb0).c2⟩) ?rm17
  case ry17 => first | exact Or.inl ⟨by rfl, by intro w'; go_simp; first | done | rfl⟩ | exact Or.inr ⟨by rfl, rfl⟩ | exact Or.inr ⟨by rfl, by rfl⟩
  case rm17 =>
  simp only [Act.put, List.setIfInBounds_toArray, List.set_cons_zero, List.set_cons_succ]
  refine anyC_put 8 51 ?rv18 #[true, true, true, true, true, true, true, true, true, false, false, false, false, false, false, false, false, false, false, false, false, false, false, false, false, false, false, false, false, false, false, false, false, false, false, false, false, false, false, false, false] rfl rfl rfl (by kernel_rfl) (by kernel_rfl) (by kernel_rfl) (fun _ _ _ h => h) ?ry18 (⟨(B59.out.go hb0).c0, (B59.out.go hb0).c1, (B59.out.go hb0).c2, (B60.out.go hb0).c0, (B60.out.go hb0).c1, (B60.out.go hb0).c2, (B61.out.go hb0).c0, (B61.out.go hb0).c1, (B61.out.go hb0).c2⟩) ?rm18
  case ry18 => first | exact Or.inl ⟨by rfl, by intro w'; go_simp; first | done | rfl⟩
  case rm18 =>
  simp only [Act.put, List.setIfInBounds_toArray, List.set_cons_zero, List.set_cons_succ]
  refine anyC_put 9 52 ?rv19 #[true, true, true, true, true, true, true, true, true, true, false, false, false, false, false, false, false, false, false, false, false, false, false, false, false, false, false, false, false, false, false, false, false, false, false, false, false, false, false, false, false] rfl rfl rfl (by kernel_rfl) (by kernel_rfl) (by kernel_rfl) (fun _ _ _ h => h) ?ry19 (⟨(B59.out.go hb0).c0, (B59.out.go hb0).c1, (B59.out.go hb0).c2, (B60.out.go hb0).c0, (B60.out.go hb0).c1, (B60.out.go hb0).c2, (B61.out.go hb0).c0, (B61.out.go hb0).c1, (B61.out.go hb0).c2⟩) ?rm19
  case ry19 => first | exact Or.inl ⟨by rfl, by intro w'; go_simp; first | done | rfl⟩
  case rm19 =>
  simp only [Act.put, List.setIfInBounds_toArray, List.set_cons_zero, List.set_cons_succ]
  refine anyC_take 10 53 ?rv20 #[true, true, true, true, true, true, true, true, true, true, true, false, false, false, false, false, false, false, false, false, false, false, false, false, false, false, false, false, false, false, false, false, false, false, false, false, false, false, false, false, false] rfl rfl rfl (by kernel_rfl) (by kernel_rfl) (by kernel_rfl) (fun _ _ _ h => h) ?ry20 (⟨(B59.out.go hb0).c0, (B59.out.go hb0).c1, (B59.out.go hb0).c2, (B60.out.go hb0).c0, (B60.out.go hb0).c1, (B60.out.go hb0).c2, (B61.out.go hb0).c0, (B61.out.go hb0).c1, (B61.out.go hb0).c2⟩) ?rm20
  case ry20 => first | exact Or.inl ⟨by rfl, by intro w' hw'; (try dsimp only at hw'); go_simp; first | done | rfl⟩ | exact Or.inr ⟨by rfl, rfl⟩ | exact Or.inr ⟨by rfl, by rfl⟩
  case rm20 =>
  simp only [Act.put, List.setIfInBounds_toArray, List.set_cons_zero, List.set_cons_succ]
  refine anyC_one 11 #[true, true, true, true, true, true, true, true, true, true, true, true, false, false, false, false, false, false, false, false, false, false, false, false, false, false, false, false, false, false, false, false, false, false, false, false, false, false, false, false, false] (by kernel_rfl) rfl rfl (fun K hK => ?_)
  go_simp
  refine hK.out _ _ (⟨(B59.out.go hb0).c0, (B59.out.go hb0).c1, (B59.out.go hb0).c2, (B60.out.go hb0).c0, (B60.out.go hb0).c1, (B60.out.go hb0).c2, (B61.out.go hb0).c0, (B61.out.go hb0).c1, (B61.out.go hb0).c2⟩) ?_
  clear hK K
  refine anyC_put 12 55 ?rv22 #[true, true, true, true, true, true, true, true, true, true, true, true, true, false, false, false, false, false, false, false, false, false, false, false, false, false, false, false, false, false, false, false, false, false, false, false, false, false, false, false, false] rfl rfl rfl (by kernel_rfl) (by kernel_rfl) (by kernel_rfl) (fun _ _ _ h => h) ?ry22 (⟨(B59.out.go hb0).c0, (B59.out.go hb0).c1, (B59.out.go hb0).c2, (B60.out.go hb0).c0, (B60.out.go hb0).c1, (B60.out.go hb0).c2, (B61.out.go hb0).c0, (B61.out.go hb0).c1, (B61.out.go hb0).c2⟩) ?rm22
  case ry22 => first | exact Or.inl ⟨by rfl, by intro w'; go_simp; first | done | rfl⟩ | exact Or.inr ⟨by rfl, rfl⟩ | exact Or.inr ⟨by rfl, by rfl⟩
  case rm22 =>
  simp only [Act.put, List.setIfInBounds_toArray, List.set_cons_zero, List.set_cons_succ]
  refine anyC_put 13 56 ?rv23 #[true, true, true, true, true, true, true, true, true, true, true, true, true, true, false, false, false, false, false, false, false, false, false, false, false, false, false, false, false, false, false, false, false, false, false, false, false, false, false, false, false] rfl rfl rfl (by kernel_rfl) (by kernel_rfl) (by kernel_rfl) (fun _ _ _ h => h) ?ry23 (⟨(B59.out.go hb0).c0, (B59.out.go hb0).c1, (B59.out.go hb0).c2, (B60.out.go hb0).c0, (B60.out.go hb0).c1, (B60.out.go hb0).c2, (B61.out.go hb0).c0, (B61.out.go hb0).c1, (B61.out.go hb0).c2⟩) ?rm23
  case ry23 => first | exact Or.inl ⟨by rfl, by intro w'; go_simp; first | done | rfl⟩
  case rm23 =>
  simp only [Act.put, List.setIfInBounds_toArray, List.set_cons_zero, List.set_cons_succ]
  refine anyC_put 14 57 ?rv24 #[true, true, true, true, true, true, true, true, true, true, true, true, true, true, true, false, false, false, false, false, false, false, false, false, false, false, false, false, false, false, false, false, false, false, false, false, false, false, false, false, false] rfl rfl rfl (by kernel_rfl) (by kernel_rfl) (by kernel_rfl) (fun _ _ _ h => h) ?ry24 (⟨(B59.out.go hb0).c0, (B59.out.go hb0).c1, (B59.out.go hb0).c2, (B60.out.go hb0).c0, (B60.out.go hb0).c1, (B60.out.go hb0).c2, (B61.out.go hb0).c0, (B61.out.go hb0).c1, (B61.out.go hb0).c2⟩) ?rm24
  case ry24 => first | exact Or.inl ⟨by rfl, by intro w'; go_simp; first | done | rfl⟩
  case rm24 =>
  simp only [Act.put, List.setIfInBounds_toArray, List.set_cons_zero, List.set_cons_succ]
  refine anyC_take 15 58 ?rv25 #[true, true, true, true, true, true, true, true, true, true, true, true, true, true, true, true, false, false, false, false, false, false, false, false, false, false, false, false, false, false, false, false, false, false, false, false, false, false, false, false, false] rfl rfl rfl (by kernel_rfl) (by kernel_rfl) (by kernel_rfl) (fun _ _ _ h => h) ?ry25 (⟨(B59.out.go hb0).c0, (B59.out.go hb0).c1, (B59.out.go hb0).c2, (B60.out.go hb0).c0, (B60.out.go hb0).c1, (B60.out.go hb0).c2, (B61.out.go hb0).c0, (B61.out.go hb0).c1, (B61.out.go hb0).c2⟩) ?rm25
  case ry25 => first | exact Or.inl ⟨by rfl, by intro w' hw'; (try dsimp only at hw'); go_simp; first | done | rfl⟩ | exact Or.inr ⟨by rfl, rfl⟩ | exact Or.inr ⟨by rfl, by rfl⟩
  case rm25 =>
  simp only [Act.put, List.setIfInBounds_toArray, List.set_cons_zero, List.set_cons_succ]
  refine anyC_one 16 #[true, true, true, true, true, true, true, true, true, true, true, true, true, true, true, true, true, false, false, false, false, false, false, false, false, false, false, false, false, false, false, false, false, false, false, false, false, false, false, false, false] (by kernel_rfl) rfl rfl (fun K hK => ?_)
  go_simp
  refine hK.out _ _ (⟨(B59.out.go hb0).c0, (B59.out.go hb0).c1, (B59.out.go hb0).c2, (B60.out.go hb0).c0, (B60.out.go hb0).c1, (B60.out.go hb0).c2, (B61.out.go hb0).c0, (B61.out.go hb0).c1, (B61.out.go hb0).c2⟩) ?_
  clear hK K
  refine anyC_put 17 60 ?rv27 #[true, true, true, true, true, true, true, true, true, true, true, true, true, true, true, true, true, true, false, false, false, false, false, false, false, false, false, false, false, false, false, false, false, false, false, false, false, false, false, false, false] rfl rfl rfl (by kernel_rfl) (by kernel_rfl) (by kernel_rfl) (fun _ _ _ h => h) ?ry27 (⟨(B59.out.go hb0).c0, (B59.out.go hb0).c1, (B59.out.go hb0).c2, (B60.out.go hb0).c0, (B60.out.go hb0).c1, (B60.out.go hb0).c2, (B61.out.go hb0).c0, (B61.out.go hb0).c1, (B61.out.go hb0).c2⟩) ?rm27
  case ry27 => first | exact Or.inl ⟨by rfl, by intro w'; go_simp; first | done | rfl⟩ | exact Or.inr ⟨by rfl, rfl⟩ | exact Or.inr ⟨by rfl, by rfl⟩
  case rm27 =>
  simp only [Act.put, List.setIfInBounds_toArray, List.set_cons_zero, List.set_cons_succ]
  refine anyC_put 18 61 ?rv28 #[true, true, true, true, true, true, true, true, true, true, true, true, true, true, true, true, true, true, true, false, false, false, false, false, false, false, false, false, false, false, false, false, false, false, false, false, false, false, false, false, false] rfl rfl rfl (by kernel_rfl) (by kernel_rfl) (by kernel_rfl) (fun _ _ _ h => h) ?ry28 (⟨(B59.out.go hb0).c0, (B59.out.go hb0).c1, (B59.out.go hb0).c2, (B60.out.go hb0).c0, (B60.out.go hb0).c1, (B60.out.go hb0).c2, (B61.out.go hb0).c0, (B61.out.go hb0).c1, (B61.out.go hb0).c2⟩) ?rm28
  case ry28 => first | exact Or.inl ⟨by rfl, by intro w'; go_simp; first | done | rfl⟩
  case rm28 =>
  simp only [Act.put, List.setIfInBounds_toArray, List.set_cons_zero, List.set_cons_succ]
  refine anyC_put 19 62 ?rv29 #[true, true, true, true, true, true, true, true, true, true, true, true, true, true, true, true, true, true, true, true, false, false, false, false, false, false, false, false, false, false, false, false, false, false, false, false, false, false, false, false, false] rfl rfl rfl (by kernel_rfl) (by kernel_rfl) (by kernel_rfl) (fun _ _ _ h => h) ?ry29 (⟨(B59.out.go hb0).c0, (B59.out.go hb0).c1, (B59.out.go hb0).c2, (B60.out.go hb0).c0, (B60.out.go hb0).c1, (B60.out.go hb0).c2, (B61.out.go hb0).c0, (B61.out.go hb0).c1, (B61.out.go hb0).c2⟩) ?rm29
  case ry29 => first | exact Or.inl ⟨by rfl, by intro w'; go_simp; first | done | rfl⟩
  case rm29 =>
  simp only [Act.put, List.setIfInBounds_toArray, List.set_cons_zero, List.set_cons_succ]
  refine anyC_put 20 63 ?rv30 #[true, true, true, true, true, true, true, true, true, true, true, true, true, true, true, true, true, true, true, true, true, false, false, false, false, false, false, false, false, false, false, false, false, false, false, false, false, false, false, false, false] rfl rfl rfl (by kernel_rfl) (by kernel_rfl) (by kernel_rfl) (fun _ _ _ h => h) ?ry30 (⟨(B59.out.go hb0).c0, (B59.out.go hb0).c1, (B59.out.go hb0).c2, (B60.out.go hb0).c0, (B60.out.go hb0).c1, (B60.out.go hb0).c2, (B61.out.go hb0).c0, (B61.out.go hb0).c1, (B61.out.go hb0).c2⟩) ?rm30
  case ry30 => first | exact Or.inl ⟨by rfl, by intro w'; go_simp; first | done | rfl⟩ | exact Or.inr ⟨by rfl, rfl⟩ | exact Or.inr ⟨by rfl, by rfl⟩
  case rm30 =>
  simp only [Act.put, List.setIfInBounds_toArray, List.set_cons_zero, List.set_cons_succ]
  refine anyC_take 21 64 ?rv31 #[true, true, true, true, true, true, true, true, true, true, true, true, true, true, true, true, true, true, true, true, true, true, false, false, false, false, false, false, false, false, false, false, false, false, false, false, false, false, false, false, false] rfl rfl rfl (by kernel_rfl) (by kernel_rfl) (by kernel_rfl) (fun _ _ _ h => h) ?ry31 (⟨(B59.out.go hb0).c0, (B59.out.go hb0).c1, (B59.out.go hb0).c2, (B60.out.go hb0).c0, (B60.out.go hb0).c1, (B60.out.go hb0).c2, (B61.out.go hb0).c0, (B61.out.go hb0).c1, (B61.out.go hb0).c2⟩) ?rm31
  case ry31 => first | exact Or.inl ⟨by rfl, by intro w' hw'; (try dsimp only at hw'); go_simp; first | done | rfl⟩ | exact Or.inr ⟨by rfl, rfl⟩ | exact Or.inr ⟨by rfl, by rfl⟩
  case rm31 =>
  simp only [Act.put, List.setIfInBounds_toArray, List.set_cons_zero, List.set_cons_succ]
  refine anyC_put 22 65 ?rv32 #[true, true, true, true, true, true, true, true, true, true, true, true, true, true, true, true, true, true, true, true, true, true, true, false, false, false, false, false, false, false, false, false, false, false, false, false, false, false, false, false, false] rfl rfl rfl (by kernel_rfl) (by kernel_rfl) (by kernel_rfl) (fun _ _ _ h => h) ?ry32 (⟨(B59.out.go hb0).c0, (B59.out.go hb0).c1, (B59.out.go hb0).c2, (B60.out.go hb0).c0, (B60.out.go hb0).c1, (B60.out.go hb0).c2, (B61.out.go hb0).c0, (B61.out.go hb0).c1, (B61.out.go hb0).c2⟩) ?rm32
  case ry32 => first | exact Or.inl ⟨by rfl, by intro w'; go_simp; first | done | rfl⟩ | exact Or.inr ⟨by rfl, rfl⟩ | exact Or.inr ⟨by rfl, by rfl⟩
  case rm32 =>
  simp only [Act.put, List.setIfInBounds_toArray, List.set_cons_zero, List.set_cons_succ]
  refine anyC_take 23 66 ?rv33 #[true, true, true, true, true, true, true, true, true, true, true, true, true, true, true, true, true, true, true, true, true, true, true, true, false, false, false, false, false, false, false, false, false, false, false, false, false, false, false, false, false] rfl rfl rfl (by kernel_rfl) (by kernel_rfl) (by kernel_rfl) (fun _ _ _ h => h) ?ry33 (⟨(B59.out.go hb0).c0, (B59.out.go hb0).c1, (B59.out.go hb0).c2, (B60.out.go hb0).c0, (B60.out.go hb0).c1, (B60.out.go hb0).c2, (B61.out.go hb0).c0, (B61.out.go hb0).c1, (B61.out.go hb0).c2⟩) ?rm33
  case ry33 => first | exact Or.inl ⟨by rfl, by intro w' hw'; (try dsimp only at hw'); go_simp; first | done | rfl⟩ | exact Or.inr ⟨by rfl, rfl⟩ | exact Or.inr ⟨by rfl, by rfl⟩
  case rm33 =>
  simp only [Act.put, List.setIfInBounds_toArray, List.set_cons_zero, List.set_cons_succ]
  refine anyC_put 24 67 ?rv34 #[true, true, true, true, true, true, true, true, true, true, true, true, true, true, true, true, true, true, true, true, true, true, true, true, true, false, false, false, false, false, false, false, false, false, false, false, false, false, false, false, false] rfl rfl rfl (by kernel_rfl) (by kernel_rfl) (by kernel_rfl) (fun _ _ _ h => h) ?ry34 (⟨(B59.out.go hb0).c0, (B59.out.go hb0).c1, (B59.out.go hb0).c2, (B60.out.go hb0).c0, (B60.out.go hb0).c1, (B60.out.go hb0).c2, (B61.out.go hb0).c0, (B61.out.go hb0).c1, (B61.out.go hb0).c2⟩) ?rm34
  case ry34 => first | exact Or.inl ⟨by rfl, by intro w'; go_simp; first | done | rfl⟩ | exact Or.inr ⟨by rfl, rfl⟩ | exact Or.inr ⟨by rfl, by rfl⟩
  case rm34 =>
  simp only [Act.put, List.setIfInBounds_toArray, List.set_cons_zero, List.set_cons_succ]
  refine anyC_take 25 68 ?rv35 #[true, true, true, true, true, true, true, true, true, true, true, true, true, true, true, true, true, true, true, true, true, true, true, true, true, true, false, false, false, false, false, false, false, false, false, false, false, false, false, false, false] rfl rfl rfl (by kernel_rfl) (by kernel_rfl) (by kernel_rfl) (fun _ _ _ h => h) ?ry35 (⟨(B59.out.go hb0).c0, (B59.out.go hb0).c1, (B59.out.go hb0).c2, (B60.out.go hb0).c0, (B60.out.go hb0).c1, (B60.out.go hb0).c2, (B61.out.go hb0).c0, (B61.out.go hb0).c1, (B61.out.go hb0).c2⟩) ?rm35
  case ry35 => first | exact Or.inl ⟨by rfl, by intro w' hw'; (try dsimp only at hw'); go_simp; first | done | rfl⟩ | exact Or.inr ⟨by rfl, rfl⟩ | exact Or.inr ⟨by rfl, by rfl⟩
  case rm35 =>
  simp only [Act.put, List.setIfInBounds_toArray, List.set_cons_zero, List.set_cons_succ]
  refine anyC_put 26 69 ?rv36 #[true, true, true, true, true, true, true, true, true, true, true, true, true, true, true, true, true, true, true, true, true, true, true, true, true, true, true, false, false, false, false, false, false, false, false, false, false, false, false, false, false] rfl rfl rfl (by kernel_rfl) (by kernel_rfl) (by kernel_rfl) (fun _ _ _ h => h) ?ry36 (⟨(B59.out.go hb0).c0, (B59.out.go hb0).c1, (B59.out.go hb0).c2, (B60.out.go hb0).c0, (B60.out.go hb0).c1, (B60.out.go hb0).c2, (B61.out.go hb0).c0, (B61.out.go hb0).c1, (B61.out.go hb0).c2⟩) ?rm36
  case ry36 => first | exact Or.inl ⟨by rfl, by intro w'; go_simp; first | done | rfl⟩ | exact Or.inr ⟨by rfl, rfl⟩ | exact Or.inr ⟨by rfl, by rfl⟩
  case rm36 =>
  simp only [Act.put, List.setIfInBounds_toArray, List.set_cons_zero, List.set_cons_succ]
  refine anyC_take 27 70 ?rv37 #[true, true, true, true, true, true, true, true, true, true, true, true, true, true, true, true, true, true, true, true, true, true, true, true, true, true, true, true, false, false, false, false, false, false, false, false, false, false, false, false, false] rfl rfl rfl (by kernel_rfl) (by kernel_rfl) (by kernel_rfl) (fun _ _ _ h => h) ?ry37 (⟨(B59.out.go hb0).c0, (B59.out.go hb0).c1, (B59.out.go hb0).c2, (B60.out.go hb0).c0, (B60.out.go hb0).c1, (B60.out.go hb0).c2, (B61.out.go hb0).c0, (B61.out.go hb0).c1, (B61.out.go hb0).c2⟩) ?rm37
  case ry37 => first | exact Or.inl ⟨by rfl, by intro w' hw'; (try dsimp only at hw'); go_simp; first | done | rfl⟩ | exact Or.inr ⟨by rfl, rfl⟩ | exact Or.inr ⟨by rfl, by rfl⟩
  case rm37 =>
  simp only [Act.put, List.setIfInBounds_toArray, List.set_cons_zero, List.set_cons_succ]
  refine anyC_put 28 71 ?rv38 #[true, true, true, true, true, true, true, true, true, true, true, true, true, true, true, true, true, true, true, true, true, true, true, true, true, true, true, true, true, false, false, false, false, false, false, false, false, false, false, false, false] rfl rfl rfl (by kernel_rfl) (by kernel_rfl) (by kernel_rfl) (fun _ _ _ h => h) ?ry38 (⟨(B59.out.go hb0).c0, (B59.out.go hb0).c1, (B59.out.go hb0).c2, (B60.out.go hb0).c0, (B60.out.go hb0).c1, (B60.out.go hb0).c2, (B61.out.go hb0).c0, (B61.out.go hb0).c1, (B61.out.go hb0).c2⟩) ?rm38
  case ry38 => first | exact Or.inl ⟨by rfl, by intro w'; go_simp; first | done | rfl⟩ | exact Or.inr ⟨by rfl, rfl⟩ | exact Or.inr ⟨by rfl, by rfl⟩
  case rm38 =>
  simp only [Act.put, List.setIfInBounds_toArray, List.set_cons_zero, List.set_cons_succ]
  refine anyC_put 29 72 ?rv39 #[true, true, true, true, true, true, true, true, true, true, true, true, true, true, true, true, true, true, true, true, true, true, true, true, true, true, true, true, true, true, false, false, false, false, false, false, false, false, false, false, false] rfl rfl rfl (by kernel_rfl) (by kernel_rfl) (by kernel_rfl) (fun _ _ _ h => h) ?ry39 (⟨(B59.out.go hb0).c0, (B59.out.go hb0).c1, (B59.out.go hb0).c2, (B60.out.go hb0).c0, (B60.out.go hb0).c1, (B60.out.go hb0).c2, (B61.out.go hb0).c0, (B61.out.go hb0).c1, (B61.out.go hb0).c2⟩) ?rm39
  case ry39 => first | exact Or.inl ⟨by rfl, by intro w'; go_simp; first | done | rfl⟩
  case rm39 =>
  simp only [Act.put, List.setIfInBounds_toArray, List.set_cons_zero, List.set_cons_succ]
  refine anyC_put 30 73 ?rv40 #[true, true, true, true, true, true, true, true, true, true, true, true, true, true, true, true, true, true, true, true, true, true, true, true, true, true, true, true, true, true, true, false, false, false, false, false, false, false, false, false, false] rfl rfl rfl (by kernel_rfl) (by kernel_rfl) (by kernel_rfl) (fun _ _ _ h => h) ?ry40 (⟨(B59.out.go hb0).c0, (B59.out.go hb0).c1, (B59.out.go hb0).c2, (B60.out.go hb0).c0, (B60.out.go hb0).c1, (B60.out.go hb0).c2, (B61.out.go hb0).c0, (B61.out.go hb0).c1, (B61.out.go hb0).c2⟩) ?rm40
  case ry40 => first | exact Or.inl ⟨by rfl, by intro w'; go_simp; first | done | rfl⟩
  case rm40 =>
  simp only [Act.put, List.setIfInBounds_toArray, List.set_cons_zero, List.set_cons_succ]
  refine anyC_put 31 74 ?rv41 #[true, true, true, true, true, true, true, true, true, true, true, true, true, true, true, true, true, true, true, true, true, true, true, true, true, true, true, true, true, true, true, true, false, false, false, false, false, false, false, false, false] rfl rfl rfl (by kernel_rfl) (by kernel_rfl) (by kernel_rfl) (fun _ _ _ h => h) ?ry41 (⟨(B59.out.go hb0).c0, (B59.out.go hb0).c1, (B59.out.go hb0).c2, (B60.out.go hb0).c0, (B60.out.go hb0).c1, (B60.out.go hb0).c2, (B61.out.go hb0).c0, (B61.out.go hb0).c1, (B61.out.go hb0).c2⟩) ?rm41
  case ry41 => first | exact Or.inl ⟨by rfl, by intro w'; go_simp; first | done | rfl⟩ | exact Or.inr ⟨by rfl, rfl⟩ | exact Or.inr ⟨by rfl, by rfl⟩
  case rm41 =>
  simp only [Act.put, List.setIfInBounds_toArray, List.set_cons_zero, List.set_cons_succ]
  refine anyC_take 32 75 ?rv42 #[true, true, true, true, true, true, true, true, true, true, true, true, true, true, true, true, true, true, true, true, true, true, true, true, true, true, true, true, true, true, true, true, true, false, false, false, false, false, false, false, false] rfl rfl rfl (by kernel_rfl) (by kernel_rfl) (by kernel_rfl) (fun _ _ _ h => h) ?ry42 (⟨(B59.out.go hb0).c0, (B59.out.go hb0).c1, (B59.out.go hb0).c2, (B60.out.go hb0).c0, (B60.out.go hb0).c1, (B60.out.go hb0).c2, (B61.out.go hb0).c0, (B61.out.go hb0).c1, (B61.out.go hb0).c2⟩) ?rm42
  case ry42 => first | exact Or.inl ⟨by rfl, by intro w' hw'; (try dsimp only at hw'); go_simp; first | done | rfl⟩ | exact Or.inr ⟨by rfl, rfl⟩ | exact Or.inr ⟨by rfl, by rfl⟩
  case rm42 =>
  simp only [Act.put, List.setIfInBounds_toArray, List.set_cons_zero, List.set_cons_succ]
  refine anyC_put 33 76 ?rv43 #[true, true, true, true, true, true, true, true, true, true, true, true, true, true, true, true, true, true, true, true, true, true, true, true, true, true, true, true, true, true, true, true, true, true, false, false, false, false, false, false, false] rfl rfl rfl (by kernel_rfl) (by kernel_rfl) (by kernel_rfl) (fun _ _ _ h => h) ?ry43 (⟨(B59.out.go hb0).c0, (B59.out.go hb0).c1, (B59.out.go hb0).c2, (B60.out.go hb0).c0, (B60.out.go hb0).c1, (B60.out.go hb0).c2, (B61.out.go hb0).c0, (B61.out.go hb0).c1, (B61.out.go hb0).c2⟩) ?rm43
  case ry43 => first | exact Or.inl ⟨by rfl, by intro w'; go_simp; first | done | rfl⟩ | exact Or.inr ⟨by rfl, rfl⟩ | exact Or.inr ⟨by rfl, by rfl⟩
  case rm43 =>
  simp only [Act.put, List.setIfInBounds_toArray, List.set_cons_zero, List.set_cons_succ]
  refine anyC_take 34 77 ?rv44 #[true, true, true, true, true, true, true, true, true, true, true, true, true, true, true, true, true, true, true, true, true, true, true, true, true, true, true, true, true, true, true, true, true, true, true, false, false, false, false, false, false] rfl rfl rfl (by kernel_rfl) (by kernel_rfl) (by kernel_rfl) (fun _ _ _ h => h) ?ry44 (⟨(B59.out.go hb0).c0, (B59.out.go hb0).c1, (B59.out.go hb0).c2, (B60.out.go hb0).c0, (B60.out.go hb0).c1, (B60.out.go hb0).c2, (B61.out.go hb0).c0, (B61.out.go hb0).c1, (B61.out.go hb0).c2⟩) ?rm44
  case ry44 => first | exact Or.inl ⟨by rfl, by intro w' hw'; (try dsimp only at hw'); go_simp; first | done | rfl⟩ | exact Or.inr ⟨by rfl, rfl⟩ | exact Or.inr ⟨by rfl, by rfl⟩
  case rm44 =>
  simp only [Act.put, List.setIfInBounds_toArray, List.set_cons_zero, List.set_cons_succ]
  refine anyC_put 35 78 ?rv45 #[true, true, true, true, true, true, true, true, true, true, true, true, true, true, true, true, true, true, true, true, true, true, true, true, true, true, true, true, true, true, true, true, true, true, true, true, false, false, false, false, false] rfl rfl rfl (by kernel_rfl) (by kernel_rfl) (by kernel_rfl) (fun _ _ _ h => h) ?ry45 (⟨(B59.out.go hb0).c0, (B59.out.go hb0).c1, (B59.out.go hb0).c2, (B60.out.go hb0).c0, (B60.out.go hb0).c1, (B60.out.go hb0).c2, (B61.out.go hb0).c0, (B61.out.go hb0).c1, (B61.out.go hb0).c2⟩) ?rm45
  case ry45 => first | exact Or.inl ⟨by rfl, by intro w'; go_simp; first | done | rfl⟩ | exact Or.inr ⟨by rfl, rfl⟩ | exact Or.inr ⟨by rfl, by rfl⟩
  case rm45 =>
  simp only [Act.put, List.setIfInBounds_toArray, List.set_cons_zero, List.set_cons_succ]
  refine anyC_take 36 79 ?rv46 #[true, true, true, true, true, true, true, true, true, true, true, true, true, true, true, true, true, true, true, true, true, true, true, true, true, true, true, true, true, true, true, true, true, true, true, true, true, false, false, false, false] rfl rfl rfl (by kernel_rfl) (by kernel_rfl) (by kernel_rfl) (fun _ _ _ h => h) ?ry46 (⟨(B59.out.go hb0).c0, (B59.out.go hb0).c1, (B59.out.go hb0).c2, (B60.out.go hb0).c0, (B60.out.go hb0).c1, (B60.out.go hb0).c2, (B61.out.go hb0).c0, (B61.out.go hb0).c1, (B61.out.go hb0).c2⟩) ?rm46
  case ry46 => first | exact Or.inl ⟨by rfl, by intro w' hw'; (try dsimp only at hw'); go_simp; first | done | rfl⟩ | exact Or.inr ⟨by rfl, rfl⟩ | exact Or.inr ⟨by rfl, by rfl⟩
  case rm46 =>
  simp only [Act.put, List.setIfInBounds_toArray, List.set_cons_zero, List.set_cons_succ]
  refine anyC_put 37 80 ?rv47 #[true, true, true, true, true, true, true, true, true, true, true, true, true, true, true, true, true, true, true, true, true, true, true, true, true, true, true, true, true, true, true, true, true, true, true, true, true, true, false, false, false] rfl rfl rfl (by kernel_rfl) (by kernel_rfl) (by kernel_rfl) (fun _ _ _ h => h) ?ry47 (⟨(B59.out.go hb0).c0, (B59.out.go hb0).c1, (B59.out.go hb0).c2, (B60.out.go hb0).c0, (B60.out.go hb0).c1, (B60.out.go hb0).c2, (B61.out.go hb0).c0, (B61.out.go hb0).c1, (B61.out.go hb0).c2⟩) ?rm47
  case ry47 => first | exact Or.inl ⟨by rfl, by intro w'; go_simp; first | done | rfl⟩ | exact Or.inr ⟨by rfl, rfl⟩ | exact Or.inr ⟨by rfl, by rfl⟩
  case rm47 =>
  simp only [Act.put, List.setIfInBounds_toArray, List.set_cons_zero, List.set_cons_succ]
  refine anyC_take 38 81 ?rv48 #[true, true, true, true, true, true, true, true, true, true, true, true, true, true, true, true, true, true, true, true, true, true, true, true, true, true, true, true, true, true, true, true, true, true, true, true, true, true, true, false, false] rfl rfl rfl (by kernel_rfl) (by kernel_rfl) (by kernel_rfl) (fun _ _ _ h => h) ?ry48 (⟨(B59.out.go hb0).c0, (B59.out.go hb0).c1, (B59.out.go hb0).c2, (B60.out.go hb0).c0, (B60.out.go hb0).c1, (B60.out.go hb0).c2, (B61.out.go hb0).c0, (B61.out.go hb0).c1, (B61.out.go hb0).c2⟩) ?rm48
  case ry48 => first | exact Or.inl ⟨by rfl, by intro w' hw'; (try dsimp only at hw'); go_simp; first | done | rfl⟩ | exact Or.inr ⟨by rfl, rfl⟩ | exact Or.inr ⟨by rfl, by rfl⟩
  case rm48 =>
  simp only [Act.put, List.setIfInBounds_toArray, List.set_cons_zero, List.set_cons_succ]
  refine anyC_put 39 82 ?rv49 #[true, true, true, true, true, true, true, true, true, true, true, true, true, true, true, true, true, true, true, true, true, true, true, true, true, true, true, true, true, true, true, true, true, true, true, true, true, true, true, true, false] rfl rfl rfl (by kernel_rfl) (by kernel_rfl) (by kernel_rfl) (fun _ _ _ h => h) ?ry49 (⟨(B59.out.go hb0).c0, (B59.out.go hb0).c1, (B59.out.go hb0).c2, (B60.out.go hb0).c0, (B60.out.go hb0).c1, (B60.out.go hb0).c2, (B61.out.go hb0).c0, (B61.out.go hb0).c1, (B61.out.go hb0).c2⟩) ?rm49
  case ry49 => first | exact Or.inl ⟨by rfl, by intro w'; go_simp; first | done | rfl⟩ | exact Or.inr ⟨by rfl, rfl⟩ | exact Or.inr ⟨by rfl, by rfl⟩
  case rm49 =>
  simp only [Act.put, List.setIfInBounds_toArray, List.set_cons_zero, List.set_cons_succ]
  refine anyC_put 40 83 ?rv50 #[true, true, true, true, true, true, true, true, true, true, true, true, true, true, true, true, true, true, true, true, true, true, true, true, true, true, true, true, true, true, true, true, true, true, true, true, true, true, true, true, true] rfl rfl rfl (by kernel_rfl) (by kernel_rfl) (by kernel_rfl) (fun _ _ _ h => h) ?ry50 (⟨(B59.out.go hb0).c0, (B59.out.go hb0).c1, (B59.out.go hb0).c2, (B60.out.go hb0).c0, (B60.out.go hb0).c1, (B60.out.go hb0).c2, (B61.out.go hb0).c0, (B61.out.go hb0).c1, (B61.out.go hb0).c2⟩) ?rm50
  case ry50 => first | exact Or.inl ⟨by rfl, by intro w'; go_simp; first | done | rfl⟩
  case rm50 =>
  simp only [Act.put, List.setIfInBounds_toArray, List.set_cons_zero, List.set_cons_succ]
  refine anyC_done (by kernel_rfl) ?_
  have hB := hb0
  have z66 : wo57.heap.size ≤ wo57.drew.heap.size := hB.size
  have B67 : Hid (Abx wo57.drew (w.heap.size) (.bool c1) (.slice sa1 sz1.length sc1) (.slice da1 dz1.length dc1)) := B59.out.go hB
  have B68 : Hid (Abx wo57.drew (w.heap.size + 1) (.bool c2) (.slice sa2 sz2.length sc2) (.slice da2 dz2.length dc2)) := B60.out.go hB
  have B69 : Hid (Abx wo57.drew (w.heap.size + 1 + 1) (.bool c3) (.slice sa3 sz3.length sc3) (.slice da3 dz3.length dc3)) := B61.out.go hB
  have hb70 : Hid (Below w.heap.size w wo57.drew) := hb65.out.trans (hB.mono hb65.out.size)
  clear hB hb65 B59 B60 B61
  go_wp2_with fail
  go_ret
  exact ⟨rfl, hb70.out⟩
set_option maxRecDepth 100000 in
set_option maxHeartbeats 2000000 in
theorem chain_g1 (HNi : CNi) (f g : Int) (hf : In64 f) (hg : In64 g) (c1 : Bool) (sa1 : Option Addr) (sc1 : Nat) (sz1 : List Int) (da1 : Option Addr) (dc1 : Nat) (dz1 : List Int) (c2 : Bool) (sa2 : Option Addr) (sc2 : Nat) (sz2 : List Int) (da2 : Option Addr) (dc2 : Nat) (dz2 : List Int) (c3 : Bool) (sa3 : Option Addr) (sc3 : Nat) (sz3 : List Int) (da3 : Option Addr) (dc3 : Nat) (dz3 : List Int) (w : World) (w8 : IsArrD w sa1 sz1 sc1 da1 dz1 dc1) (w9 : IsArrD w sa2 sz2 sc2 da2 dz2 dc2) (w10 : IsArrD w sa3 sz3 sc3 da3 dz3 dc3) (GS : Hid (Srg f g)) (G1 : Hid (¬ GrdP 16 c1 sz1 dz1)) :
    Calls Try.prog 3 #[.int .i64 f, .int .i64 g, .agg #[.bool c1, .slice sa1 sz1.length sc1, .slice da1 dz1.length dc1], .agg #[.bool c2, .slice sa2 sz2.length sc2, .slice da2 dz2.length dc2], .agg #[.bool c3, .slice sa3 sz3.length sc3, .slice da3 dz3.length dc3]] w fun e w' => e = .returned (.bool true) ∧ Below w.heap.size w w' := by
  obtain ⟨x11, x12, x3, x4, s64, T⟩ := w8
  have HI1 : Hid (IsC w.heap.size w sa1 sz1 sc1 ∧ IsC w.heap.size w da1 dz1 dc1 ∧ (∀ j, In64 (nth sz1 j)) ∧ ∀ j, In64 (nth dz1 j)) := ⟨x3, x4, s64, T⟩
  clear x3 x4 T s64
  obtain ⟨x21, x22, x3, x4, s64, T⟩ := w9
  have HI2 : Hid (IsC w.heap.size w sa2 sz2 sc2 ∧ IsC w.heap.size w da2 dz2 dc2 ∧ (∀ j, In64 (nth sz2 j)) ∧ ∀ j, In64 (nth dz2 j)) := ⟨x3, x4, s64, T⟩
  clear x3 x4 T s64
  obtain ⟨x31, x32, x3, x4, s64, T⟩ := w10
  have HI3 : Hid (IsC w.heap.size w sa3 sz3 sc3 ∧ IsC w.heap.size w da3 dz3 dc3 ∧ (∀ j, In64 (nth sz3 j)) ∧ ∀ j, In64 (nth dz3 j)) := ⟨x3, x4, s64, T⟩
  clear x3 x4 T s64
  have n1 := Abx.new w (.bool c1) (.slice sa1 sz1.length sc1) (.slice da1 dz1.length dc1)
  have n2 := Abx.new (w.alloc (.cells #[.bool c1, .slice sa1 sz1.length sc1, .slice da1 dz1.length dc1] 25)) (.bool c2) (.slice sa2 sz2.length sc2) (.slice da2 dz2.length dc2)
  simp only [World.size_alloc] at n2
  have n3 := Abx.new ((w.alloc (.cells #[.bool c1, .slice sa1 sz1.length sc1, .slice da1 dz1.length dc1] 25)).alloc (.cells #[.bool c2, .slice sa2 sz2.length sc2, .slice da2 dz2.length dc2] 25)) (.bool c3) (.slice sa3 sz3.length sc3) (.slice da3 dz3.length dc3)
  simp only [World.size_alloc] at n3
  have n4 := lit_mid (((w.alloc (.cells #[.bool c1, .slice sa1 sz1.length sc1, .slice da1 dz1.length dc1] 25)).alloc (.cells #[.bool c2, .slice sa2 sz2.length sc2, .slice da2 dz2.length dc2] 25)).alloc (.cells #[.bool c3, .slice sa3 sz3.length sc3, .slice da3 dz3.length dc3] 25)) 3 [1, 2, 3] 3 rfl
  simp only [World.size_alloc, List.map_cons, List.map_nil] at n4
  go_enter Try.func3, Try.ntmps3
  go_wp2_with fail
  obtain ⟨wo5, hwo5⟩ : ∃ wo5, wo5 = ((((w.alloc (.cells #[.bool c1, .slice sa1 sz1.length sc1, .slice da1 dz1.length dc1] 25)).alloc (.cells #[.bool c2, .slice sa2 sz2.length sc2, .slice da2 dz2.length dc2] 25)).alloc (.cells #[.bool c3, .slice sa3 sz3.length sc3, .slice da3 dz3.length dc3] 25)).alloc (.cells #[.int .i64 1, .int .i64 2, .int .i64 3] 3)) := ⟨_, rfl⟩
  rw [← hwo5]
  have z6 : w.heap.size + 1 + 1 + 1 + 1 ≤ wo5.heap.size := by rw [hwo5]; simp only [World.size_alloc]; omega
  have B7 : Hid (Abx wo5 (w.heap.size) (.bool c1) (.slice sa1 sz1.length sc1) (.slice da1 dz1.length dc1)) := by rw [hwo5]; exact (((n1.al (.cells #[.bool c2, .slice sa2 sz2.length sc2, .slice da2 dz2.length dc2] 25)).al (.cells #[.bool c3, .slice sa3 sz3.length sc3, .slice da3 dz3.length dc3] 25)).al (.cells #[.int .i64 1, .int .i64 2, .int .i64 3] 3))
  have B8 : Hid (Abx wo5 (w.heap.size + 1) (.bool c2) (.slice sa2 sz2.length sc2) (.slice da2 dz2.length dc2)) := by rw [hwo5]; exact ((n2.al (.cells #[.bool c3, .slice sa3 sz3.length sc3, .slice da3 dz3.length dc3] 25)).al (.cells #[.int .i64 1, .int .i64 2, .int .i64 3] 3))
  have B9 : Hid (Abx wo5 (w.heap.size + 1 + 1) (.bool c3) (.slice sa3 sz3.length sc3) (.slice da3 dz3.length dc3)) := by rw [hwo5]; exact (n3.al (.cells #[.int .i64 1, .int .i64 2, .int .i64 3] 3))
  have L10 : Hid (MidC (w.heap.size + 1 + 1 + 1) (w.heap.size + 1 + 1 + 1 + 1) wo5 (some ⟨w.heap.size + 1 + 1 + 1, 0, none⟩) ([1, 2, 3]) (3)) := by rw [hwo5]; exact n4
  have hb11 : Hid (Below w.heap.size w wo5) := by rw [hwo5]; exact (((((Below.refl w.heap.size w).alloc (by omega) (.cells #[.bool c1, .slice sa1 sz1.length sc1, .slice da1 dz1.length dc1] 25)).alloc (by simp only [World.size_alloc]; omega) (.cells #[.bool c2, .slice sa2 sz2.length sc2, .slice da2 dz2.length dc2] 25)).alloc (by simp only [World.size_alloc]; omega) (.cells #[.bool c3, .slice sa3 sz3.length sc3, .slice da3 dz3.length dc3] 25)).alloc (by simp only [World.size_alloc]; omega) (.cells #[.int .i64 1, .int .i64 2, .int .i64 3] 3))
  have zwo5 : w.heap.size ≤ wo5.heap.size := hb11.out.size
  clear hwo5 n1 n2 n3 n4
  refine (vec_c (some ⟨w.heap.size + 1 + 1 + 1, 0, none⟩) 3 [1, 2, 3] (by simp) _ (L10.out.is (by omega)).1).mono ?_
  rintro e v1 ⟨vap, vcp, gap, gcp, rfl, hVp, hGp, hB⟩
  have z12 : wo5.heap.size ≤ v1.heap.size := hB.size
  have B13 : Hid (Abx v1 (w.heap.size) (.bool c1) (.slice sa1 sz1.length sc1) (.slice da1 dz1.length dc1)) := B7.out.go hB
  have B14 : Hid (Abx v1 (w.heap.size + 1) (.bool c2) (.slice sa2 sz2.length sc2) (.slice da2 dz2.length dc2)) := B8.out.go hB
  have B15 : Hid (Abx v1 (w.heap.size + 1 + 1) (.bool c3) (.slice sa3 sz3.length sc3) (.slice da3 dz3.length dc3)) := B9.out.go hB
  have L16 : Hid (MidC (w.heap.size + 1 + 1 + 1) (w.heap.size + 1 + 1 + 1 + 1) v1 (some ⟨w.heap.size + 1 + 1 + 1, 0, none⟩) ([1, 2, 3]) (3)) := L10.out.go (by omega) hB
  have hb17 : Hid (Below w.heap.size w v1) := hb11.out.trans (hB.mono hb11.out.size)
  have L18 : Hid (MidC (wo5.heap.size) (v1.heap.size) v1 (vap) ([(3 : Int)]) (vcp)) := hVp.midc
  have L19 : Hid (MidC (wo5.heap.size) (v1.heap.size) v1 (gap) ([1, 2, 3]) (gcp)) := hGp.midc
  clear hB hb11 B7 B8 B9 L10 hVp hGp
  clear L16
  have n20 := lit_mid v1 3 [4, 5, 6] 3 rfl
  simp only [List.map_cons, List.map_nil] at n20
  go_wp2_with fail
  obtain ⟨wo21, hwo21⟩ : ∃ wo21, wo21 = (v1.alloc (.cells #[.int .i64 4, .int .i64 5, .int .i64 6] 3)) := ⟨_, rfl⟩
  rw [← hwo21]
  have z22 : v1.heap.size + 1 ≤ wo21.heap.size := by rw [hwo21]; simp only [World.size_alloc]; omega
  have B23 : Hid (Abx wo21 (w.heap.size) (.bool c1) (.slice sa1 sz1.length sc1) (.slice da1 dz1.length dc1)) := by rw [hwo21]; exact (B13.out.al (.cells #[.int .i64 4, .int .i64 5, .int .i64 6] 3))
  have B24 : Hid (Abx wo21 (w.heap.size + 1) (.bool c2) (.slice sa2 sz2.length sc2) (.slice da2 dz2.length dc2)) := by rw [hwo21]; exact (B14.out.al (.cells #[.int .i64 4, .int .i64 5, .int .i64 6] 3))
  have B25 : Hid (Abx wo21 (w.heap.size + 1 + 1) (.bool c3) (.slice sa3 sz3.length sc3) (.slice da3 dz3.length dc3)) := by rw [hwo21]; exact (B15.out.al (.cells #[.int .i64 4, .int .i64 5, .int .i64 6] 3))
  have L26 : Hid (MidC (wo5.heap.size) (v1.heap.size) wo21 (vap) ([(3 : Int)]) (vcp)) := by rw [hwo21]; exact (L18.out.al (by omega) (.cells #[.int .i64 4, .int .i64 5, .int .i64 6] 3))
  have L27 : Hid (MidC (wo5.heap.size) (v1.heap.size) wo21 (gap) ([1, 2, 3]) (gcp)) := by rw [hwo21]; exact (L19.out.al (by omega) (.cells #[.int .i64 4, .int .i64 5, .int .i64 6] 3))
  have L28 : Hid (MidC (v1.heap.size) (v1.heap.size + 1) wo21 (some ⟨v1.heap.size, 0, none⟩) ([4, 5, 6]) (3)) := by rw [hwo21]; exact n20
  have hb29 : Hid (Below w.heap.size w wo21) := by rw [hwo21]; exact (hb17.out.alloc (by omega) (.cells #[.int .i64 4, .int .i64 5, .int .i64 6] 3))
  have zwo21 : w.heap.size ≤ wo21.heap.size := hb29.out.size
  clear hwo21 n20 hb17 B13 B14 B15 L18 L19
  refine (vec_c (some ⟨v1.heap.size, 0, none⟩) 3 [4, 5, 6] (by simp) _ (L28.out.is (by omega)).1).mono ?_
  rintro e v2 ⟨vaq, vcq, gaq, gcq, rfl, hVq, hGq, hB⟩
  have z30 : wo21.heap.size ≤ v2.heap.size := hB.size
  have B31 : Hid (Abx v2 (w.heap.size) (.bool c1) (.slice sa1 sz1.length sc1) (.slice da1 dz1.length dc1)) := B23.out.go hB
  have B32 : Hid (Abx v2 (w.heap.size + 1) (.bool c2) (.slice sa2 sz2.length sc2) (.slice da2 dz2.length dc2)) := B24.out.go hB
  have B33 : Hid (Abx v2 (w.heap.size + 1 + 1) (.bool c3) (.slice sa3 sz3.length sc3) (.slice da3 dz3.length dc3)) := B25.out.go hB
  have L34 : Hid (MidC (wo5.heap.size) (v1.heap.size) v2 (vap) ([(3 : Int)]) (vcp)) := L26.out.go (by omega) hB
  have L35 : Hid (MidC (wo5.heap.size) (v1.heap.size) v2 (gap) ([1, 2, 3]) (gcp)) := L27.out.go (by omega) hB
  have L36 : Hid (MidC (v1.heap.size) (v1.heap.size + 1) v2 (some ⟨v1.heap.size, 0, none⟩) ([4, 5, 6]) (3)) := L28.out.go (by omega) hB
  have hb37 : Hid (Below w.heap.size w v2) := hb29.out.trans (hB.mono hb29.out.size)
  have L38 : Hid (MidC (wo21.heap.size) (v2.heap.size) v2 (vaq) ([(3 : Int)]) (vcq)) := hVq.midc
  have L39 : Hid (MidC (wo21.heap.size) (v2.heap.size) v2 (gaq) ([4, 5, 6]) (gcq)) := hGq.midc
  clear hB hb29 B23 B24 B25 L26 L27 L28 hVq hGq
  clear L36
  go_wp2_with fail
  refine (niw_ok 1 3 false vap vcp [(3 : Int)] 1 rfl gap gcp [1, 2, 3] 3 rfl false vaq vcq [(3 : Int)] 1 rfl gaq gcq [4, 5, 6] 3 rfl _ (by unfold In64; decide) (by unfold In64; decide) (by decide) (by decide) (L34.out.is (by omega)) (L35.out.is (by omega)).1 (lit12 (by decide)) (by decide) (by decide) (L38.out.is (by omega)) (L39.out.is (by omega)).1 (lit12 (by decide)) [] [32] HNi (by show inE 1 3 false [(3 : Int)] [1, 2, 3] false [(3 : Int)] [4, 5, 6] = 0 ∧ inS [(3 : Int)] [(3 : Int)] = [] ∧ inD 1 3 false [(3 : Int)] [1, 2, 3] false [(3 : Int)] [4, 5, 6] = [32]; decide +kernel)).mono ?_
  rintro e v3 ⟨f1, g1, f2, g2, rfl, hX0, hY0, hB⟩
  have z40 : v2.heap.size ≤ v3.heap.size := hB.size
  have B41 : Hid (Abx v3 (w.heap.size) (.bool c1) (.slice sa1 sz1.length sc1) (.slice da1 dz1.length dc1)) := B31.out.go hB
  have B42 : Hid (Abx v3 (w.heap.size + 1) (.bool c2) (.slice sa2 sz2.length sc2) (.slice da2 dz2.length dc2)) := B32.out.go hB
  have B43 : Hid (Abx v3 (w.heap.size + 1 + 1) (.bool c3) (.slice sa3 sz3.length sc3) (.slice da3 dz3.length dc3)) := B33.out.go hB
  have L44 : Hid (MidC (wo5.heap.size) (v1.heap.size) v3 (vap) ([(3 : Int)]) (vcp)) := L34.out.go (by omega) hB
  have L45 : Hid (MidC (wo5.heap.size) (v1.heap.size) v3 (gap) ([1, 2, 3]) (gcp)) := L35.out.go (by omega) hB
  have L46 : Hid (MidC (wo21.heap.size) (v2.heap.size) v3 (vaq) ([(3 : Int)]) (vcq)) := L38.out.go (by omega) hB
  have L47 : Hid (MidC (wo21.heap.size) (v2.heap.size) v3 (gaq) ([4, 5, 6]) (gcq)) := L39.out.go (by omega) hB
  have hb48 : Hid (Below w.heap.size w v3) := hb37.out.trans (hB.mono hb37.out.size)
  have L49 : Hid (MidC (v2.heap.size) (v3.heap.size) v3 (f1) ([]) (g1)) := hX0.midc
  have L50 : Hid (MidC (v2.heap.size) (v3.heap.size) v3 (f2) ([32]) (g2)) := hY0.midc
  clear hB hb37 B31 B32 B33 L34 L35 L38 L39 hX0 hY0
  clear L44 L45 L46 L47
  obtain ⟨b51, ob51, rfl, _, _, _, _⟩ := L50.out.at (i := 0) (by decide)
  have n52 := Abx.new v3 (.bool false) (.slice f1 0 g1) (.slice (some ⟨b51, ob51, none⟩) 1 g2)
  have l53 := (n52).c0
  have l54 := (n52).c1
  have l55 := (n52).c2
  obtain ⟨_, _, l56e, _, _, l56, _⟩ := ((L50.out.al (by omega) (.cells #[.bool false, .slice f1 0 g1, .slice (some ⟨b51, ob51, none⟩) 1 g2] 25))).at (i := 0) (by decide)
  cases l56e
  try simp only [Nat.add_zero] at l56
  go_wp2_with fail
  obtain ⟨wo57, hwo57⟩ : ∃ wo57, wo57 = (v3.alloc (.cells #[.bool false, .slice f1 0 g1, .slice (some ⟨b51, ob51, none⟩) 1 g2] 25)) := ⟨_, rfl⟩
  rw [← hwo57]
  have z58 : v3.heap.size + 1 ≤ wo57.heap.size := by rw [hwo57]; simp only [World.size_alloc]; omega
  have B59 : Hid (Abx wo57 (w.heap.size) (.bool c1) (.slice sa1 sz1.length sc1) (.slice da1 dz1.length dc1)) := by rw [hwo57]; exact (B41.out.al (.cells #[.bool false, .slice f1 0 g1, .slice (some ⟨b51, ob51, none⟩) 1 g2] 25))
  have B60 : Hid (Abx wo57 (w.heap.size + 1) (.bool c2) (.slice sa2 sz2.length sc2) (.slice da2 dz2.length dc2)) := by rw [hwo57]; exact (B42.out.al (.cells #[.bool false, .slice f1 0 g1, .slice (some ⟨b51, ob51, none⟩) 1 g2] 25))
  have B61 : Hid (Abx wo57 (w.heap.size + 1 + 1) (.bool c3) (.slice sa3 sz3.length sc3) (.slice da3 dz3.length dc3)) := by rw [hwo57]; exact (B43.out.al (.cells #[.bool false, .slice f1 0 g1, .slice (some ⟨b51, ob51, none⟩) 1 g2] 25))
  have B62 : Hid (Abx wo57 (v3.heap.size) (.bool false) (.slice f1 0 g1) (.slice (some ⟨b51, ob51, none⟩) 1 g2)) := by rw [hwo57]; exact n52
  have L63 : Hid (MidC (v2.heap.size) (v3.heap.size) wo57 (f1) ([]) (g1)) := by rw [hwo57]; exact (L49.out.al (by omega) (.cells #[.bool false, .slice f1 0 g1, .slice (some ⟨b51, ob51, none⟩) 1 g2] 25))
  have L64 : Hid (MidC (v2.heap.size) (v3.heap.size) wo57 (some ⟨b51, ob51, none⟩) ([32]) (g2)) := by rw [hwo57]; exact (L50.out.al (by omega) (.cells #[.bool false, .slice f1 0 g1, .slice (some ⟨b51, ob51, none⟩) 1 g2] 25))
  have hb65 : Hid (Below w.heap.size w wo57) := by rw [hwo57]; exact (hb48.out.alloc (by omega) (.cells #[.bool false, .slice f1 0 g1, .slice (some ⟨b51, ob51, none⟩) 1 g2] 25))
  have zwo57 : w.heap.size ≤ wo57.heap.size := hb65.out.size
  clear hwo57 n52 l53 l54 l55 l56 hb48 B41 B42 B43 L49 L50
  clear L63 L64 B62
  have hb0 : Below wo57.heap.size wo57 wo57.drew := (Below.refl _ wo57).drew
  refine anyC_begin (fun w' => w'.cell? ⟨w.heap.size, 0, none⟩ = some (.bool c1) ∧ w'.cell? ⟨w.heap.size, 1, none⟩ = some (.slice sa1 sz1.length sc1) ∧ w'.cell? ⟨w.heap.size, 2, none⟩ = some (.slice da1 dz1.length dc1) ∧ w'.cell? ⟨w.heap.size + 1, 0, none⟩ = some (.bool c2) ∧ w'.cell? ⟨w.heap.size + 1, 1, none⟩ = some (.slice sa2 sz2.length sc2) ∧ w'.cell? ⟨w.heap.size + 1, 2, none⟩ = some (.slice da2 dz2.length dc2) ∧ w'.cell? ⟨w.heap.size + 1 + 1, 0, none⟩ = some (.bool c3) ∧ w'.cell? ⟨w.heap.size + 1 + 1, 1, none⟩ = some (.slice sa3 sz3.length sc3) ∧ w'.cell? ⟨w.heap.size + 1 + 1, 2, none⟩ = some (.slice da3 dz3.length dc3)) 41 #[false, false, false, false, false, false, false, false, false, false, false, false, false, false, false, false, false, false, false, false, false, false, false, false, false, false, false, false, false, false, false, false, false, false, false, false, false, false, false, false, false] (by kernel_rfl) rfl rfl ?_
  refine anyC_put 0 43 ?rv51 #[true, false, false, false, false, false, false, false, false, false, false, false, false, false, false, false, false, false, false, false, false, false, false, false, false, false, false, false, false, false, false, false, false, false, false, false, false, false, false, false, false] rfl rfl rfl (by kernel_rfl) (by kernel_rfl) (by kernel_rfl) (fun _ _ _ h => h) ?ry51 (⟨(B59.out.go hb0).c0, (B59.out.go hb0).c1, (B59.out.go hb0).c2, (B60.out.go hb0).c0, (B60.out.go hb0).c1, (B60.out.go hb0).c2, (B61.out.go hb0).c0, (B61.out.go hb0).c1, (B61.out.go hb0).c2⟩) ?rm51
  case ry51 => first | exact Or.inl ⟨by rfl, by intro w'; go_simp; first | done | rfl⟩
  case rm51 =>
  simp only [Act.put, List.setIfInBounds_toArray, List.set_cons_zero, List.set_cons_succ]
  refine anyC_put 1 44 ?rv52 #[true, true, false, false, false, false, false, false, false, false, false, false, false, false, false, false, false, false, false, false, false, false, false, false, false, false, false, false, false, false, false, false, false, false, false, false, false, false, false, false, false] rfl rfl rfl (by kernel_rfl) (by kernel_rfl) (by kernel_rfl) (fun _ _ _ h => h) ?ry52 (⟨(B59.out.go hb0).c0, (B59.out.go hb0).c1, (B59.out.go hb0).c2, (B60.out.go hb0).c0, (B60.out.go hb0).c1, (B60.out.go hb0).c2, (B61.out.go hb0).c0, (B61.out.go hb0).c1, (B61.out.go hb0).c2⟩) ?rm52
  case ry52 => first | exact Or.inl ⟨by rfl, by intro w'; go_simp; first | done | rfl⟩
  case rm52 =>
  simp only [Act.put, List.setIfInBounds_toArray, List.set_cons_zero, List.set_cons_succ]
  refine anyC_one 2 #[true, true, true, false, false, false, false, false, false, false, false, false, false, false, false, false, false, false, false, false, false, false, false, false, false, false, false, false, false, false, false, false, false, false, false, false, false, false, false, false, false] (by kernel_rfl) rfl rfl (fun K hK => ?_)
  go_simp
  go_wp2_with (go_at_call 9; refine (sring_any f g _).mono ?_; rintro e ysr ⟨rfl, hysr⟩; obtain rfl := hysr.symm; rw [srB_yes GS.out])
  refine hK.out _ _ (⟨(B59.out.go hb0).c0, (B59.out.go hb0).c1, (B59.out.go hb0).c2, (B60.out.go hb0).c0, (B60.out.go hb0).c1, (B60.out.go hb0).c2, (B61.out.go hb0).c0, (B61.out.go hb0).c1, (B61.out.go hb0).c2⟩) ?_
  clear hK K
  refine anyC_put 3 46 ?rv54 #[true, true, true, true, false, false, false, false, false, false, false, false, false, false, false, false, false, false, false, false, false, false, false, false, false, false, false, false, false, false, false, false, false, false, false, false, false, false, false, false, false] rfl rfl rfl (by kernel_rfl) (by kernel_rfl) (by kernel_rfl) (fun _ _ _ h => h) ?ry54 (⟨(B59.out.go hb0).c0, (B59.out.go hb0).c1, (B59.out.go hb0).c2, (B60.out.go hb0).c0, (B60.out.go hb0).c1, (B60.out.go hb0).c2, (B61.out.go hb0).c0, (B61.out.go hb0).c1, (B61.out.go hb0).c2⟩) ?rm54
  case ry54 => first | exact Or.inl ⟨by rfl, by intro w'; go_simp; first | done | rfl⟩
  case rm54 =>
  simp only [Act.put, List.setIfInBounds_toArray, List.set_cons_zero, List.set_cons_succ]
  refine anyC_put 4 47 ?rv55 #[true, true, true, true, true, false, false, false, false, false, false, false, false, false, false, false, false, false, false, false, false, false, false, false, false, false, false, false, false, false, false, false, false, false, false, false, false, false, false, false, false] rfl rfl rfl (by kernel_rfl) (by kernel_rfl) (by kernel_rfl) (fun _ _ _ h => h) ?ry55 (⟨(B59.out.go hb0).c0, (B59.out.go hb0).c1, (B59.out.go hb0).c2, (B60.out.go hb0).c0, (B60.out.go hb0).c1, (B60.out.go hb0).c2, (B61.out.go hb0).c0, (B61.out.go hb0).c1, (B61.out.go hb0).c2⟩) ?rm55
  case ry55 => first | exact Or.inl ⟨by rfl, by intro w'; go_simp; first | done | rfl⟩
  case rm55 =>
  simp only [Act.put, List.setIfInBounds_toArray, List.set_cons_zero, List.set_cons_succ]
  refine anyC_take 5 48 ?rv56 #[true, true, true, true, true, true, false, false, false, false, false, false, false, false, false, false, false, false, false, false, false, false, false, false, false, false, false, false, false, false, false, false, false, false, false, false, false, false, false, false, false] rfl rfl rfl (by kernel_rfl) (by kernel_rfl) (by kernel_rfl) (fun _ _ _ h => h) ?ry56 (⟨(B59.out.go hb0).c0, (B59.out.go hb0).c1, (B59.out.go hb0).c2, (B60.out.go hb0).c0, (B60.out.go hb0).c1, (B60.out.go hb0).c2, (B61.out.go hb0).c0, (B61.out.go hb0).c1, (B61.out.go hb0).c2⟩) ?rm56
  case ry56 => first | exact Or.inl ⟨by rfl, by intro w' hw'; (try dsimp only at hw'); go_simp; first | done | rfl⟩ | exact Or.inr ⟨by rfl, rfl⟩ | exact Or.inr ⟨by rfl, by rfl⟩
  case rm56 =>
  simp only [Act.put, List.setIfInBounds_toArray, List.set_cons_zero, List.set_cons_succ]
  refine anyC_one 6 #[true, true, true, true, true, true, true, false, false, false, false, false, false, false, false, false, false, false, false, false, false, false, false, false, false, false, false, false, false, false, false, false, false, false, false, false, false, false, false, false, false] (by kernel_rfl) rfl rfl (fun K hK => ?_)
  go_simp
  go_wp2_with (go_at_call 10; refine (grid_no 16 (by decide) c1 sa1 sc1 sz1 da1 dc1 dz1 _ ((HI1.out.1.1.below (hb65.out.trans (hb0.mono hb65.out.size))).mono (hb65.out.trans (hb0.mono hb65.out.size)).size) G1.out).mono ?_; rintro e y1 ⟨rfl, hBy1⟩)
  have hby1 : Below wo57.heap.size wo57 y1 := hb0.trans (hBy1.mono hb0.size)
  refine hK.out _ _ (⟨(B59.out.go hby1).c0, (B59.out.go hby1).c1, (B59.out.go hby1).c2, (B60.out.go hby1).c0, (B60.out.go hby1).c1, (B60.out.go hby1).c2, (B61.out.go hby1).c0, (B61.out.go hby1).c1, (B61.out.go hby1).c2⟩) ?_
  clear hK K
  refine anyC_put 7 50 ?rv58 #[true, true, true, true, true, true, true, true, false, false, false, false, false, false, false, false, false, false, false, false, false, false, false, false, false, false, false, false, false, false, false, false, false, false, false, false, false, false, false, false, false] rfl rfl rfl (by kernel_rfl) (by kernel_rfl) (by kernel_rfl) (fun _ _ _ h => h) ?ry58 (⟨(B59.out.go hby1).c0, (B59.out.go hby1).c1, (B59.out.go hby1).c2, (B60.out.go hby1).c0, (B60.out.go hby1).c1, (B60.out.go hby1).c2, (B61.out.go hby1).c0, (B61.out.go hby1).c1, (B61.out.go hby1).c2⟩) ?rm58
  case ry58 => first | exact Or.inl ⟨by rfl, by intro w'; go_simp; first | done | rfl⟩ | exact Or.inr ⟨by rfl, rfl⟩ | exact Or.inr ⟨by rfl, by rfl⟩
  case rm58 =>
  simp only [Act.put, List.setIfInBounds_toArray, List.set_cons_zero, List.set_cons_succ]
  refine anyC_put 8 51 ?rv59 #[true, true, true, true, true, true, true, true, true, false, false, false, false, false, false, false, false, false, false, false, false, false, false, false, false, false, false, false, false, false, false, false, false, false, false, false, false, false, false, false, false] rfl rfl rfl (by kernel_rfl) (by kernel_rfl) (by kernel_rfl) (fun _ _ _ h => h) ?ry59 (⟨(B59.out.go hby1).c0, (B59.out.go hby1).c1, (B59.out.go hby1).c2, (B60.out.go hby1).c0, (B60.out.go hby1).c1, (B60.out.go hby1).c2, (B61.out.go hby1).c0, (B61.out.go hby1).c1, (B61.out.go hby1).c2⟩) ?rm59
  case ry59 => first | exact Or.inl ⟨by rfl, by intro w'; go_simp; first | done | rfl⟩
  case rm59 =>
  simp only [Act.put, List.setIfInBounds_toArray, List.set_cons_zero, List.set_cons_succ]
  refine anyC_put 9 52 ?rv60 #[true, true, true, true, true, true, true, true, true, true, false, false, false, false, false, false, false, false, false, false, false, false, false, false, false, false, false, false, false, false, false, false, false, false, false, false, false, false, false, false, false] rfl rfl rfl (by kernel_rfl) (by kernel_rfl) (by kernel_rfl) (fun _ _ _ h => h) ?ry60 (⟨(B59.out.go hby1).c0, (B59.out.go hby1).c1, (B59.out.go hby1).c2, (B60.out.go hby1).c0, (B60.out.go hby1).c1, (B60.out.go hby1).c2, (B61.out.go hby1).c0, (B61.out.go hby1).c1, (B61.out.go hby1).c2⟩) ?rm60
  case ry60 => first | exact Or.inl ⟨by rfl, by intro w'; go_simp; first | done | rfl⟩
  case rm60 =>
  simp only [Act.put, List.setIfInBounds_toArray, List.set_cons_zero, List.set_cons_succ]
  refine anyC_take 10 53 ?rv61 #[true, true, true, true, true, true, true, true, true, true, true, false, false, false, false, false, false, false, false, false, false, false, false, false, false, false, false, false, false, false, false, false, false, false, false, false, false, false, false, false, false] rfl rfl rfl (by kernel_rfl) (by kernel_rfl) (by kernel_rfl) (fun _ _ _ h => h) ?ry61 (⟨(B59.out.go hby1).c0, (B59.out.go hby1).c1, (B59.out.go hby1).c2, (B60.out.go hby1).c0, (B60.out.go hby1).c1, (B60.out.go hby1).c2, (B61.out.go hby1).c0, (B61.out.go hby1).c1, (B61.out.go hby1).c2⟩) ?rm61
  case ry61 => first | exact Or.inl ⟨by rfl, by intro w' hw'; (try dsimp only at hw'); go_simp; first | done | rfl⟩ | exact Or.inr ⟨by rfl, rfl⟩ | exact Or.inr ⟨by rfl, by rfl⟩
  case rm61 =>
  simp only [Act.put, List.setIfInBounds_toArray, List.set_cons_zero, List.set_cons_succ]
  refine anyC_one 11 #[true, true, true, true, true, true, true, true, true, true, true, true, false, false, false, false, false, false, false, false, false, false, false, false, false, false, false, false, false, false, false, false, false, false, false, false, false, false, false, false, false] (by kernel_rfl) rfl rfl (fun K hK => ?_)
  go_simp
  refine hK.out _ _ (⟨(B59.out.go hby1).c0, (B59.out.go hby1).c1, (B59.out.go hby1).c2, (B60.out.go hby1).c0, (B60.out.go hby1).c1, (B60.out.go hby1).c2, (B61.out.go hby1).c0, (B61.out.go hby1).c1, (B61.out.go hby1).c2⟩) ?_
  clear hK K
  refine anyC_put 12 55 ?rv63 #[true, true, true, true, true, true, true, true, true, true, true, true, true, false, false, false, false, false, false, false, false, false, false, false, false, false, false, false, false, false, false, false, false, false, false, false, false, false, false, false, false] rfl rfl rfl (by kernel_rfl) (by kernel_rfl) (by kernel_rfl) (fun _ _ _ h => h) ?ry63 (⟨(B59.out.go hby1).c0, (B59.out.go hby1).c1, (B59.out.go hby1).c2, (B60.out.go hby1).c0, (B60.out.go hby1).c1, (B60.out.go hby1).c2, (B61.out.go hby1).c0, (B61.out.go hby1).c1, (B61.out.go hby1).c2⟩) ?rm63
  case ry63 => first | exact Or.inl ⟨by rfl, by intro w'; go_simp; first | done | rfl⟩ | exact Or.inr ⟨by rfl, rfl⟩ | exact Or.inr ⟨by rfl, by rfl⟩
  case rm63 =>
  simp only [Act.put, List.setIfInBounds_toArray, List.set_cons_zero, List.set_cons_succ]
  refine anyC_put 13 56 ?rv64 #[true, true, true, true, true, true, true, true, true, true, true, true, true, true, false, false, false, false, false, false, false, false, false, false, false, false, false, false, false, false, false, false, false, false, false, false, false, false, false, false, false] rfl rfl rfl (by kernel_rfl) (by kernel_rfl) (by kernel_rfl) (fun _ _ _ h => h) ?ry64 (⟨(B59.out.go hby1).c0, (B59.out.go hby1).c1, (B59.out.go hby1).c2, (B60.out.go hby1).c0, (B60.out.go hby1).c1, (B60.out.go hby1).c2, (B61.out.go hby1).c0, (B61.out.go hby1).c1, (B61.out.go hby1).c2⟩) ?rm64
  case ry64 => first | exact Or.inl ⟨by rfl, by intro w'; go_simp; first | done | rfl⟩
  case rm64 =>
  simp only [Act.put, List.setIfInBounds_toArray, List.set_cons_zero, List.set_cons_succ]
  refine anyC_put 14 57 ?rv65 #[true, true, true, true, true, true, true, true, true, true, true, true, true, true, true, false, false, false, false, false, false, false, false, false, false, false, false, false, false, false, false, false, false, false, false, false, false, false, false, false, false] rfl rfl rfl (by kernel_rfl) (by kernel_rfl) (by kernel_rfl) (fun _ _ _ h => h) ?ry65 (⟨(B59.out.go hby1).c0, (B59.out.go hby1).c1, (B59.out.go hby1).c2, (B60.out.go hby1).c0, (B60.out.go hby1).c1, (B60.out.go hby1).c2, (B61.out.go hby1).c0, (B61.out.go hby1).c1, (B61.out.go hby1).c2⟩) ?rm65
  case ry65 => first | exact Or.inl ⟨by rfl, by intro w'; go_simp; first | done | rfl⟩
  case rm65 =>
  simp only [Act.put, List.setIfInBounds_toArray, List.set_cons_zero, List.set_cons_succ]
  refine anyC_take 15 58 ?rv66 #[true, true, true, true, true, true, true, true, true, true, true, true, true, true, true, true, false, false, false, false, false, false, false, false, false, false, false, false, false, false, false, false, false, false, false, false, false, false, false, false, false] rfl rfl rfl (by kernel_rfl) (by kernel_rfl) (by kernel_rfl) (fun _ _ _ h => h) ?ry66 (⟨(B59.out.go hby1).c0, (B59.out.go hby1).c1, (B59.out.go hby1).c2, (B60.out.go hby1).c0, (B60.out.go hby1).c1, (B60.out.go hby1).c2, (B61.out.go hby1).c0, (B61.out.go hby1).c1, (B61.out.go hby1).c2⟩) ?rm66
  case ry66 => first | exact Or.inl ⟨by rfl, by intro w' hw'; (try dsimp only at hw'); go_simp; first | done | rfl⟩ | exact Or.inr ⟨by rfl, rfl⟩ | exact Or.inr ⟨by rfl, by rfl⟩
  case rm66 =>
  simp only [Act.put, List.setIfInBounds_toArray, List.set_cons_zero, List.set_cons_succ]
  refine anyC_one 16 #[true, true, true, true, true, true, true, true, true, true, true, true, true, true, true, true, true, false, false, false, false, false, false, false, false, false, false, false, false, false, false, false, false, false, false, false, false, false, false, false, false] (by kernel_rfl) rfl rfl (fun K hK => ?_)
  go_simp
  refine hK.out _ _ (⟨(B59.out.go hby1).c0, (B59.out.go hby1).c1, (B59.out.go hby1).c2, (B60.out.go hby1).c0, (B60.out.go hby1).c1, (B60.out.go hby1).c2, (B61.out.go hby1).c0, (B61.out.go hby1).c1, (B61.out.go hby1).c2⟩) ?_
  clear hK K
  refine anyC_put 17 60 ?rv68 #[true, true, true, true, true, true, true, true, true, true, true, true, true, true, true, true, true, true, false, false, false, false, false, false, false, false, false, false, false, false, false, false, false, false, false, false, false, false, false, false, false] rfl rfl rfl (by kernel_rfl) (by kernel_rfl) (by kernel_rfl) (fun _ _ _ h => h) ?ry68 (⟨(B59.out.go hby1).c0, (B59.out.go hby1).c1, (B59.out.go hby1).c2, (B60.out.go hby1).c0, (B60.out.go hby1).c1, (B60.out.go hby1).c2, (B61.out.go hby1).c0, (B61.out.go hby1).c1, (B61.out.go hby1).c2⟩) ?rm68
  case ry68 => first | exact Or.inl ⟨by rfl, by intro w'; go_simp; first | done | rfl⟩ | exact Or.inr ⟨by rfl, rfl⟩ | exact Or.inr ⟨by rfl, by rfl⟩
  case rm68 =>
  simp only [Act.put, List.setIfInBounds_toArray, List.set_cons_zero, List.set_cons_succ]
  refine anyC_put 18 61 ?rv69 #[true, true, true, true, true, true, true, true, true, true, true, true, true, true, true, true, true, true, true, false, false, false, false, false, false, false, false, false, false, false, false, false, false, false, false, false, false, false, false, false, false] rfl rfl rfl (by kernel_rfl) (by kernel_rfl) (by kernel_rfl) (fun _ _ _ h => h) ?ry69 (⟨(B59.out.go hby1).c0, (B59.out.go hby1).c1, (B59.out.go hby1).c2, (B60.out.go hby1).c0, (B60.out.go hby1).c1, (B60.out.go hby1).c2, (B61.out.go hby1).c0, (B61.out.go hby1).c1, (B61.out.go hby1).c2⟩) ?rm69
  case ry69 => first | exact Or.inl ⟨by rfl, by intro w'; go_simp; first | done | rfl⟩
  case rm69 =>
  simp only [Act.put, List.setIfInBounds_toArray, List.set_cons_zero, List.set_cons_succ]
  refine anyC_put 19 62 ?rv70 #[true, true, true, true, true, true, true, true, true, true, true, true, true, true, true, true, true, true, true, true, false, false, false, false, false, false, false, false, false, false, false, false, false, false, false, false, false, false, false, false, false] rfl rfl rfl (by kernel_rfl) (by kernel_rfl) (by kernel_rfl) (fun _ _ _ h => h) ?ry70 (⟨(B59.out.go hby1).c0, (B59.out.go hby1).c1, (B59.out.go hby1).c2, (B60.out.go hby1).c0, (B60.out.go hby1).c1, (B60.out.go hby1).c2, (B61.out.go hby1).c0, (B61.out.go hby1).c1, (B61.out.go hby1).c2⟩) ?rm70
  case ry70 => first | exact Or.inl ⟨by rfl, by intro w'; go_simp; first | done | rfl⟩
  case rm70 =>
  simp only [Act.put, List.setIfInBounds_toArray, List.set_cons_zero, List.set_cons_succ]
  refine anyC_put 20 63 ?rv71 #[true, true, true, true, true, true, true, true, true, true, true, true, true, true, true, true, true, true, true, true, true, false, false, false, false, false, false, false, false, false, false, false, false, false, false, false, false, false, false, false, false] rfl rfl rfl (by kernel_rfl) (by kernel_rfl) (by kernel_rfl) (fun _ _ _ h => h) ?ry71 (⟨(B59.out.go hby1).c0, (B59.out.go hby1).c1, (B59.out.go hby1).c2, (B60.out.go hby1).c0, (B60.out.go hby1).c1, (B60.out.go hby1).c2, (B61.out.go hby1).c0, (B61.out.go hby1).c1, (B61.out.go hby1).c2⟩) ?rm71
  case ry71 => first | exact Or.inl ⟨by rfl, by intro w'; go_simp; first | done | rfl⟩ | exact Or.inr ⟨by rfl, rfl⟩ | exact Or.inr ⟨by rfl, by rfl⟩
  case rm71 =>
  simp only [Act.put, List.setIfInBounds_toArray, List.set_cons_zero, List.set_cons_succ]
  refine anyC_take 21 64 ?rv72 #[true, true, true, true, true, true, true, true, true, true, true, true, true, true, true, true, true, true, true, true, true, true, false, false, false, false, false, false, false, false, false, false, false, false, false, false, false, false, false, false, false] rfl rfl rfl (by kernel_rfl) (by kernel_rfl) (by kernel_rfl) (fun _ _ _ h => h) ?ry72 (⟨(B59.out.go hby1).c0, (B59.out.go hby1).c1, (B59.out.go hby1).c2, (B60.out.go hby1).c0, (B60.out.go hby1).c1, (B60.out.go hby1).c2, (B61.out.go hby1).c0, (B61.out.go hby1).c1, (B61.out.go hby1).c2⟩) ?rm72
  case ry72 => first | exact Or.inl ⟨by rfl, by intro w' hw'; (try dsimp only at hw'); go_simp; first | done | rfl⟩ | exact Or.inr ⟨by rfl, rfl⟩ | exact Or.inr ⟨by rfl, by rfl⟩
  case rm72 =>
  simp only [Act.put, List.setIfInBounds_toArray, List.set_cons_zero, List.set_cons_succ]
  refine anyC_put 22 65 ?rv73 #[true, true, true, true, true, true, true, true, true, true, true, true, true, true, true, true, true, true, true, true, true, true, true, false, false, false, false, false, false, false, false, false, false, false, false, false, false, false, false, false, false] rfl rfl rfl (by kernel_rfl) (by kernel_rfl) (by kernel_rfl) (fun _ _ _ h => h) ?ry73 (⟨(B59.out.go hby1).c0, (B59.out.go hby1).c1, (B59.out.go hby1).c2, (B60.out.go hby1).c0, (B60.out.go hby1).c1, (B60.out.go hby1).c2, (B61.out.go hby1).c0, (B61.out.go hby1).c1, (B61.out.go hby1).c2⟩) ?rm73
  case ry73 => first | exact Or.inl ⟨by rfl, by intro w'; go_simp; first | done | rfl⟩ | exact Or.inr ⟨by rfl, rfl⟩ | exact Or.inr ⟨by rfl, by rfl⟩
  case rm73 =>
  simp only [Act.put, List.setIfInBounds_toArray, List.set_cons_zero, List.set_cons_succ]
  refine anyC_take 23 66 ?rv74 #[true, true, true, true, true, true, true, true, true, true, true, true, true, true, true, true, true, true, true, true, true, true, true, true, false, false, false, false, false, false, false, false, false, false, false, false, false, false, false, false, false] rfl rfl rfl (by kernel_rfl) (by kernel_rfl) (by kernel_rfl) (fun _ _ _ h => h) ?ry74 (⟨(B59.out.go hby1).c0, (B59.out.go hby1).c1, (B59.out.go hby1).c2, (B60.out.go hby1).c0, (B60.out.go hby1).c1, (B60.out.go hby1).c2, (B61.out.go hby1).c0, (B61.out.go hby1).c1, (B61.out.go hby1).c2⟩) ?rm74
  case ry74 => first | exact Or.inl ⟨by rfl, by intro w' hw'; (try dsimp only at hw'); go_simp; first | done | rfl⟩ | exact Or.inr ⟨by rfl, rfl⟩ | exact Or.inr ⟨by rfl, by rfl⟩
  case rm74 =>
  simp only [Act.put, List.setIfInBounds_toArray, List.set_cons_zero, List.set_cons_succ]
  refine anyC_put 24 67 ?rv75 #[true, true, true, true, true, true, true, true, true, true, true, true, true, true, true, true, true, true, true, true, true, true, true, true, true, false, false, false, false, false, false, false, false, false, false, false, false, false, false, false, false] rfl rfl rfl (by kernel_rfl) (by kernel_rfl) (by kernel_rfl) (fun _ _ _ h => h) ?ry75 (⟨(B59.out.go hby1).c0, (B59.out.go hby1).c1, (B59.out.go hby1).c2, (B60.out.go hby1).c0, (B60.out.go hby1).c1, (B60.out.go hby1).c2, (B61.out.go hby1).c0, (B61.out.go hby1).c1, (B61.out.go hby1).c2⟩) ?rm75
  case ry75 => first | exact Or.inl ⟨by rfl, by intro w'; go_simp; first | done | rfl⟩ | exact Or.inr ⟨by rfl, rfl⟩ | exact Or.inr ⟨by rfl, by rfl⟩
  case rm75 =>
  simp only [Act.put, List.setIfInBounds_toArray, List.set_cons_zero, List.set_cons_succ]
  refine anyC_take 25 68 ?rv76 #[true, true, true, true, true, true, true, true, true, true, true, true, true, true, true, true, true, true, true, true, true, true, true, true, true, true, false, false, false, false, false, false, false, false, false, false, false, false, false, false, false] rfl rfl rfl (by kernel_rfl) (by kernel_rfl) (by kernel_rfl) (fun _ _ _ h => h) ?ry76 (⟨(B59.out.go hby1).c0, (B59.out.go hby1).c1, (B59.out.go hby1).c2, (B60.out.go hby1).c0, (B60.out.go hby1).c1, (B60.out.go hby1).c2, (B61.out.go hby1).c0, (B61.out.go hby1).c1, (B61.out.go hby1).c2⟩) ?rm76
  case ry76 => first | exact Or.inl ⟨by rfl, by intro w' hw'; (try dsimp only at hw'); go_simp; first | done | rfl⟩ | exact Or.inr ⟨by rfl, rfl⟩ | exact Or.inr ⟨by rfl, by rfl⟩
  case rm76 =>
  simp only [Act.put, List.setIfInBounds_toArray, List.set_cons_zero, List.set_cons_succ]
  refine anyC_put 26 69 ?rv77 #[true, true, true, true, true, true, true, true, true, true, true, true, true, true, true, true, true, true, true, true, true, true, true, true, true, true, true, false, false, false, false, false, false, false, false, false, false, false, false, false, false] rfl rfl rfl (by kernel_rfl) (by kernel_rfl) (by kernel_rfl) (fun _ _ _ h => h) ?ry77 (⟨(B59.out.go hby1).c0, (B59.out.go hby1).c1, (B59.out.go hby1).c2, (B60.out.go hby1).c0, (B60.out.go hby1).c1, (B60.out.go hby1).c2, (B61.out.go hby1).c0, (B61.out.go hby1).c1, (B61.out.go hby1).c2⟩) ?rm77
  case ry77 => first | exact Or.inl ⟨by rfl, by intro w'; go_simp; first | done | rfl⟩ | exact Or.inr ⟨by rfl, rfl⟩ | exact Or.inr ⟨by rfl, by rfl⟩
  case rm77 =>
  simp only [Act.put, List.setIfInBounds_toArray, List.set_cons_zero, List.set_cons_succ]
  refine anyC_take 27 70 ?rv78 #[true, true, true, true, true, true, true, true, true, true, true, true, true, true, true, true, true, true, true, true, true, true, true, true, true, true, true, true, false, false, false, false, false, false, false, false, false, false, false, false, false] rfl rfl rfl (by kernel_rfl) (by kernel_rfl) (by kernel_rfl) (fun _ _ _ h => h) ?ry78 (⟨(B59.out.go hby1).c0, (B59.out.go hby1).c1, (B59.out.go hby1).c2, (B60.out.go hby1).c0, (B60.out.go hby1).c1, (B60.out.go hby1).c2, (B61.out.go hby1).c0, (B61.out.go hby1).c1, (B61.out.go hby1).c2⟩) ?rm78
  case ry78 => first | exact Or.inl ⟨by rfl, by intro w' hw'; (try dsimp only at hw'); go_simp; first | done | rfl⟩ | exact Or.inr ⟨by rfl, rfl⟩ | exact Or.inr ⟨by rfl, by rfl⟩
  case rm78 =>
  simp only [Act.put, List.setIfInBounds_toArray, List.set_cons_zero, List.set_cons_succ]
  refine anyC_put 28 71 ?rv79 #[true, true, true, true, true, true, true, true, true, true, true, true, true, true, true, true, true, true, true, true, true, true, true, true, true, true, true, true, true, false, false, false, false, false, false, false, false, false, false, false, false] rfl rfl rfl (by kernel_rfl) (by kernel_rfl) (by kernel_rfl) (fun _ _ _ h => h) ?ry79 (⟨(B59.out.go hby1).c0, (B59.out.go hby1).c1, (B59.out.go hby1).c2, (B60.out.go hby1).c0, (B60.out.go hby1).c1, (B60.out.go hby1).c2, (B61.out.go hby1).c0, (B61.out.go hby1).c1, (B61.out.go hby1).c2⟩) ?rm79
  case ry79 => first | exact Or.inl ⟨by rfl, by intro w'; go_simp; first | done | rfl⟩ | exact Or.inr ⟨by rfl, rfl⟩ | exact Or.inr ⟨by rfl, by rfl⟩
  case rm79 =>
  simp only [Act.put, List.setIfInBounds_toArray, List.set_cons_zero, List.set_cons_succ]
  refine anyC_put 29 72 ?rv80 #[true, true, true, true, true, true, true, true, true, true, true, true, true, true, true, true, true, true, true, true, true, true, true, true, true, true, true, true, true, true, false, false, false, false, false, false, false, false, false, false, false] rfl rfl rfl (by kernel_rfl) (by kernel_rfl) (by kernel_rfl) (fun _ _ _ h => h) ?ry80 (⟨(B59.out.go hby1).c0, (B59.out.go hby1).c1, (B59.out.go hby1).c2, (B60.out.go hby1).c0, (B60.out.go hby1).c1, (B60.out.go hby1).c2, (B61.out.go hby1).c0, (B61.out.go hby1).c1, (B61.out.go hby1).c2⟩) ?rm80
  case ry80 => first | exact Or.inl ⟨by rfl, by intro w'; go_simp; first | done | rfl⟩
  case rm80 =>
  simp only [Act.put, List.setIfInBounds_toArray, List.set_cons_zero, List.set_cons_succ]
  refine anyC_put 30 73 ?rv81 #[true, true, true, true, true, true, true, true, true, true, true, true, true, true, true, true, true, true, true, true, true, true, true, true, true, true, true, true, true, true, true, false, false, false, false, false, false, false, false, false, false] rfl rfl rfl (by kernel_rfl) (by kernel_rfl) (by kernel_rfl) (fun _ _ _ h => h) ?ry81 (⟨(B59.out.go hby1).c0, (B59.out.go hby1).c1, (B59.out.go hby1).c2, (B60.out.go hby1).c0, (B60.out.go hby1).c1, (B60.out.go hby1).c2, (B61.out.go hby1).c0, (B61.out.go hby1).c1, (B61.out.go hby1).c2⟩) ?rm81
  case ry81 => first | exact Or.inl ⟨by rfl, by intro w'; go_simp; first | done | rfl⟩
  case rm81 =>
  simp only [Act.put, List.setIfInBounds_toArray, List.set_cons_zero, List.set_cons_succ]
  refine anyC_put 31 74 ?rv82 #[true, true, true, true, true, true, true, true, true, true, true, true, true, true, true, true, true, true, true, true, true, true, true, true, true, true, true, true, true, true, true, true, false, false, false, false, false, false, false, false, false] rfl rfl rfl (by kernel_rfl) (by kernel_rfl) (by kernel_rfl) (fun _ _ _ h => h) ?ry82 (⟨(B59.out.go hby1).c0, (B59.out.go hby1).c1, (B59.out.go hby1).c2, (B60.out.go hby1).c0, (B60.out.go hby1).c1, (B60.out.go hby1).c2, (B61.out.go hby1).c0, (B61.out.go hby1).c1, (B61.out.go hby1).c2⟩) ?rm82
  case ry82 => first | exact Or.inl ⟨by rfl, by intro w'; go_simp; first | done | rfl⟩ | exact Or.inr ⟨by rfl, rfl⟩ | exact Or.inr ⟨by rfl, by rfl⟩
  case rm82 =>
  simp only [Act.put, List.setIfInBounds_toArray, List.set_cons_zero, List.set_cons_succ]
  refine anyC_take 32 75 ?rv83 #[true, true, true, true, true, true, true, true, true, true, true, true, true, true, true, true, true, true, true, true, true, true, true, true, true, true, true, true, true, true, true, true, true, false, false, false, false, false, false, false, false] rfl rfl rfl (by kernel_rfl) (by kernel_rfl) (by kernel_rfl) (fun _ _ _ h => h) ?ry83 (⟨(B59.out.go hby1).c0, (B59.out.go hby1).c1, (B59.out.go hby1).c2, (B60.out.go hby1).c0, (B60.out.go hby1).c1, (B60.out.go hby1).c2, (B61.out.go hby1).c0, (B61.out.go hby1).c1, (B61.out.go hby1).c2⟩) ?rm83
  case ry83 => first | exact Or.inl ⟨by rfl, by intro w' hw'; (try dsimp only at hw'); go_simp; first | done | rfl⟩ | exact Or.inr ⟨by rfl, rfl⟩ | exact Or.inr ⟨by rfl, by rfl⟩
  case rm83 =>
  simp only [Act.put, List.setIfInBounds_toArray, List.set_cons_zero, List.set_cons_succ]
  refine anyC_put 33 76 ?rv84 #[true, true, true, true, true, true, true, true, true, true, true, true, true, true, true, true, true, true, true, true, true, true, true, true, true, true, true, true, true, true, true, true, true, true, false, false, false, false, false, false, false] rfl rfl rfl (by kernel_rfl) (by kernel_rfl) (by kernel_rfl) (fun _ _ _ h => h) ?ry84 (⟨(B59.out.go hby1).c0, (B59.out.go hby1).c1, (B59.out.go hby1).c2, (B60.out.go hby1).c0, (B60.out.go hby1).c1, (B60.out.go hby1).c2, (B61.out.go hby1).c0, (B61.out.go hby1).c1, (B61.out.go hby1).c2⟩) ?rm84
  case ry84 => first | exact Or.inl ⟨by rfl, by intro w'; go_simp; first | done | rfl⟩ | exact Or.inr ⟨by rfl, rfl⟩ | exact Or.inr ⟨by rfl, by rfl⟩
  case rm84 =>
  simp only [Act.put, List.setIfInBounds_toArray, List.set_cons_zero, List.set_cons_succ]
  refine anyC_take 34 77 ?rv85 #[true, true, true, true, true, true, true, true, true, true, true, true, true, true, true, true, true, true, true, true, true, true, true, true, true, true, true, true, true, true, true, true, true, true, true, false, false, false, false, false, false] rfl rfl rfl (by kernel_rfl) (by kernel_rfl) (by kernel_rfl) (fun _ _ _ h => h) ?ry85 (⟨(B59.out.go hby1).c0, (B59.out.go hby1).c1, (B59.out.go hby1).c2, (B60.out.go hby1).c0, (B60.out.go hby1).c1, (B60.out.go hby1).c2, (B61.out.go hby1).c0, (B61.out.go hby1).c1, (B61.out.go hby1).c2⟩) ?rm85
  case ry85 => first | exact Or.inl ⟨by rfl, by intro w' hw'; (try dsimp only at hw'); go_simp; first | done | rfl⟩ | exact Or.inr ⟨by rfl, rfl⟩ | exact Or.inr ⟨by rfl, by rfl⟩
  case rm85 =>
  simp only [Act.put, List.setIfInBounds_toArray, List.set_cons_zero, List.set_cons_succ]
  refine anyC_put 35 78 ?rv86 #[true, true, true, true, true, true, true, true, true, true, true, true, true, true, true, true, true, true, true, true, true, true, true, true, true, true, true, true, true, true, true, true, true, true, true, true, false, false, false, false, false] rfl rfl rfl (by kernel_rfl) (by kernel_rfl) (by kernel_rfl) (fun _ _ _ h => h) ?ry86 (⟨(B59.out.go hby1).c0, (B59.out.go hby1).c1, (B59.out.go hby1).c2, (B60.out.go hby1).c0, (B60.out.go hby1).c1, (B60.out.go hby1).c2, (B61.out.go hby1).c0, (B61.out.go hby1).c1, (B61.out.go hby1).c2⟩) ?rm86
  case ry86 => first | exact Or.inl ⟨by rfl, by intro w'; go_simp; first | done | rfl⟩ | exact Or.inr ⟨by rfl, rfl⟩ | exact Or.inr ⟨by rfl, by rfl⟩
  case rm86 =>
  simp only [Act.put, List.setIfInBounds_toArray, List.set_cons_zero, List.set_cons_succ]
  refine anyC_take 36 79 ?rv87 #[true, true, true, true, true, true, true, true, true, true, true, true, true, true, true, true, true, true, true, true, true, true, true, true, true, true, true, true, true, true, true, true, true, true, true, true, true, false, false, false, false] rfl rfl rfl (by kernel_rfl) (by kernel_rfl) (by kernel_rfl) (fun _ _ _ h => h) ?ry87 (⟨(B59.out.go hby1).c0, (B59.out.go hby1).c1, (B59.out.go hby1).c2, (B60.out.go hby1).c0, (B60.out.go hby1).c1, (B60.out.go hby1).c2, (B61.out.go hby1).c0, (B61.out.go hby1).c1, (B61.out.go hby1).c2⟩) ?rm87
  case ry87 => first | exact Or.inl ⟨by rfl, by intro w' hw'; (try dsimp only at hw'); go_simp; first | done | rfl⟩ | exact Or.inr ⟨by rfl, rfl⟩ | exact Or.inr ⟨by rfl, by rfl⟩
  case rm87 =>
  simp only [Act.put, List.setIfInBounds_toArray, List.set_cons_zero, List.set_cons_succ]
  refine anyC_put 37 80 ?rv88 #[true, true, true, true, true, true, true, true, true, true, true, true, true, true, true, true, true, true, true, true, true, true, true, true, true, true, true, true, true, true, true, true, true, true, true, true, true, true, false, false, false] rfl rfl rfl (by kernel_rfl) (by kernel_rfl) (by kernel_rfl) (fun _ _ _ h => h) ?ry88 (⟨(B59.out.go hby1).c0, (B59.out.go hby1).c1, (B59.out.go hby1).c2, (B60.out.go hby1).c0, (B60.out.go hby1).c1, (B60.out.go hby1).c2, (B61.out.go hby1).c0, (B61.out.go hby1).c1, (B61.out.go hby1).c2⟩) ?rm88
  case ry88 => first | exact Or.inl ⟨by rfl, by intro w'; go_simp; first | done | rfl⟩ | exact Or.inr ⟨by rfl, rfl⟩ | exact Or.inr ⟨by rfl, by rfl⟩
  case rm88 =>
  simp only [Act.put, List.setIfInBounds_toArray, List.set_cons_zero, List.set_cons_succ]
  refine anyC_take 38 81 ?rv89 #[true, true, true, true, true, true, true, true, true, true, true, true, true, true, true, true, true, true, true, true, true, true, true, true, true, true, true, true, true, true, true, true, true, true, true, true, true, true, true, false, false] rfl rfl rfl (by kernel_rfl) (by kernel_rfl) (by kernel_rfl) (fun _ _ _ h => h) ?ry89 (⟨(B59.out.go hby1).c0, (B59.out.go hby1).c1, (B59.out.go hby1).c2, (B60.out.go hby1).c0, (B60.out.go hby1).c1, (B60.out.go hby1).c2, (B61.out.go hby1).c0, (B61.out.go hby1).c1, (B61.out.go hby1).c2⟩) ?rm89
  case ry89 => first | exact Or.inl ⟨by rfl, by intro w' hw'; (try dsimp only at hw'); go_simp; first | done | rfl⟩ | exact Or.inr ⟨by rfl, rfl⟩ | exact Or.inr ⟨by rfl, by rfl⟩
  case rm89 =>
  simp only [Act.put, List.setIfInBounds_toArray, List.set_cons_zero, List.set_cons_succ]
  refine anyC_put 39 82 ?rv90 #[true, true, true, true, true, true, true, true, true, true, true, true, true, true, true, true, true, true, true, true, true, true, true, true, true, true, true, true, true, true, true, true, true, true, true, true, true, true, true, true, false] rfl rfl rfl (by kernel_rfl) (by kernel_rfl) (by kernel_rfl) (fun _ _ _ h => h) ?ry90 (⟨(B59.out.go hby1).c0, (B59.out.go hby1).c1, (B59.out.go hby1).c2, (B60.out.go hby1).c0, (B60.out.go hby1).c1, (B60.out.go hby1).c2, (B61.out.go hby1).c0, (B61.out.go hby1).c1, (B61.out.go hby1).c2⟩) ?rm90
  case ry90 => first | exact Or.inl ⟨by rfl, by intro w'; go_simp; first | done | rfl⟩ | exact Or.inr ⟨by rfl, rfl⟩ | exact Or.inr ⟨by rfl, by rfl⟩
  case rm90 =>
  simp only [Act.put, List.setIfInBounds_toArray, List.set_cons_zero, List.set_cons_succ]
  refine anyC_put 40 83 ?rv91 #[true, true, true, true, true, true, true, true, true, true, true, true, true, true, true, true, true, true, true, true, true, true, true, true, true, true, true, true, true, true, true, true, true, true, true, true, true, true, true, true, true] rfl rfl rfl (by kernel_rfl) (by kernel_rfl) (by kernel_rfl) (fun _ _ _ h => h) ?ry91 (⟨(B59.out.go hby1).c0, (B59.out.go hby1).c1, (B59.out.go hby1).c2, (B60.out.go hby1).c0, (B60.out.go hby1).c1, (B60.out.go hby1).c2, (B61.out.go hby1).c0, (B61.out.go hby1).c1, (B61.out.go hby1).c2⟩) ?rm91
  case ry91 => first | exact Or.inl ⟨by rfl, by intro w'; go_simp; first | done | rfl⟩
  case rm91 =>
  simp only [Act.put, List.setIfInBounds_toArray, List.set_cons_zero, List.set_cons_succ]
  refine anyC_done (by kernel_rfl) ?_
  have hB := hby1
  have z66 : wo57.heap.size ≤ y1.heap.size := hB.size
  have B67 : Hid (Abx y1 (w.heap.size) (.bool c1) (.slice sa1 sz1.length sc1) (.slice da1 dz1.length dc1)) := B59.out.go hB
  have B68 : Hid (Abx y1 (w.heap.size + 1) (.bool c2) (.slice sa2 sz2.length sc2) (.slice da2 dz2.length dc2)) := B60.out.go hB
  have B69 : Hid (Abx y1 (w.heap.size + 1 + 1) (.bool c3) (.slice sa3 sz3.length sc3) (.slice da3 dz3.length dc3)) := B61.out.go hB
  have hb70 : Hid (Below w.heap.size w y1) := hb65.out.trans (hB.mono hb65.out.size)
  clear hB hb65 B59 B60 B61
  go_wp2_with fail
  go_ret
  exact ⟨rfl, hb70.out⟩
set_option maxRecDepth 100000 in
set_option maxHeartbeats 2000000 in
theorem chain_g2 (HNi : CNi) (f g : Int) (hf : In64 f) (hg : In64 g) (c1 : Bool) (sa1 : Option Addr) (sc1 : Nat) (sz1 : List Int) (da1 : Option Addr) (dc1 : Nat) (dz1 : List Int) (c2 : Bool) (sa2 : Option Addr) (sc2 : Nat) (sz2 : List Int) (da2 : Option Addr) (dc2 : Nat) (dz2 : List Int) (c3 : Bool) (sa3 : Option Addr) (sc3 : Nat) (sz3 : List Int) (da3 : Option Addr) (dc3 : Nat) (dz3 : List Int) (w : World) (w8 : IsArrD w sa1 sz1 sc1 da1 dz1 dc1) (w9 : IsArrD w sa2 sz2 sc2 da2 dz2 dc2) (w10 : IsArrD w sa3 sz3 sc3 da3 dz3 dc3) (GS : Hid (Srg f g)) (G1 : Hid (GrdP 16 c1 sz1 dz1)) (G2 : Hid (¬ GrdP 16 c2 sz2 dz2)) :
    Calls Try.prog 3 #[.int .i64 f, .int .i64 g, .agg #[.bool c1, .slice sa1 sz1.length sc1, .slice da1 dz1.length dc1], .agg #[.bool c2, .slice sa2 sz2.length sc2, .slice da2 dz2.length dc2], .agg #[.bool c3, .slice sa3 sz3.length sc3, .slice da3 dz3.length dc3]] w fun e w' => e = .returned (.bool true) ∧ Below w.heap.size w w' := by
  obtain ⟨x11, x12, x3, x4, s64, T⟩ := w8
  have HI1 : Hid (IsC w.heap.size w sa1 sz1 sc1 ∧ IsC w.heap.size w da1 dz1 dc1 ∧ (∀ j, In64 (nth sz1 j)) ∧ ∀ j, In64 (nth dz1 j)) := ⟨x3, x4, s64, T⟩
  clear x3 x4 T s64
  obtain ⟨x21, x22, x3, x4, s64, T⟩ := w9
  have HI2 : Hid (IsC w.heap.size w sa2 sz2 sc2 ∧ IsC w.heap.size w da2 dz2 dc2 ∧ (∀ j, In64 (nth sz2 j)) ∧ ∀ j, In64 (nth dz2 j)) := ⟨x3, x4, s64, T⟩
  clear x3 x4 T s64
  obtain ⟨x31, x32, x3, x4, s64, T⟩ := w10
  have HI3 : Hid (IsC w.heap.size w sa3 sz3 sc3 ∧ IsC w.heap.size w da3 dz3 dc3 ∧ (∀ j, In64 (nth sz3 j)) ∧ ∀ j, In64 (nth dz3 j)) := ⟨x3, x4, s64, T⟩
  clear x3 x4 T s64
  have n1 := Abx.new w (.bool c1) (.slice sa1 sz1.length sc1) (.slice da1 dz1.length dc1)
  have n2 := Abx.new (w.alloc (.cells #[.bool c1, .slice sa1 sz1.length sc1, .slice da1 dz1.length dc1] 25)) (.bool c2) (.slice sa2 sz2.length sc2) (.slice da2 dz2.length dc2)
  simp only [World.size_alloc] at n2
  have n3 := Abx.new ((w.alloc (.cells #[.bool c1, .slice sa1 sz1.length sc1, .slice da1 dz1.length dc1] 25)).alloc (.cells #[.bool c2, .slice sa2 sz2.length sc2, .slice da2 dz2.length dc2] 25)) (.bool c3) (.slice sa3 sz3.length sc3) (.slice da3 dz3.length dc3)
  simp only [World.size_alloc] at n3
  have n4 := lit_mid (((w.alloc (.cells #[.bool c1, .slice sa1 sz1.length sc1, .slice da1 dz1.length dc1] 25)).alloc (.cells #[.bool c2, .slice sa2 sz2.length sc2, .slice da2 dz2.length dc2] 25)).alloc (.cells #[.bool c3, .slice sa3 sz3.length sc3, .slice da3 dz3.length dc3] 25)) 3 [1, 2, 3] 3 rfl
  simp only [World.size_alloc, List.map_cons, List.map_nil] at n4
  go_enter Try.func3, Try.ntmps3
  go_wp2_with fail
  obtain ⟨wo5, hwo5⟩ : ∃ wo5, wo5 = ((((w.alloc (.cells #[.bool c1, .slice sa1 sz1.length sc1, .slice da1 dz1.length dc1] 25)).alloc (.cells #[.bool c2, .slice sa2 sz2.length sc2, .slice da2 dz2.length dc2] 25)).alloc (.cells #[.bool c3, .slice sa3 sz3.length sc3, .slice da3 dz3.length dc3] 25)).alloc (.cells #[.int .i64 1, .int .i64 2, .int .i64 3] 3)) := ⟨_, rfl⟩
  rw [← hwo5]
  have z6 : w.heap.size + 1 + 1 + 1 + 1 ≤ wo5.heap.size := by rw [hwo5]; simp only [World.size_alloc]; omega
  have B7 : Hid (Abx wo5 (w.heap.size) (.bool c1) (.slice sa1 sz1.length sc1) (.slice da1 dz1.length dc1)) := by rw [hwo5]; exact (((n1.al (.cells #[.bool c2, .slice sa2 sz2.length sc2, .slice da2 dz2.length dc2] 25)).al (.cells #[.bool c3, .slice sa3 sz3.length sc3, .slice da3 dz3.length dc3] 25)).al (.cells #[.int .i64 1, .int .i64 2, .int .i64 3] 3))
  have B8 : Hid (Abx wo5 (w.heap.size + 1) (.bool c2) (.slice sa2 sz2.length sc2) (.slice da2 dz2.length dc2)) := by rw [hwo5]; exact ((n2.al (.cells #[.bool c3, .slice sa3 sz3.length sc3, .slice da3 dz3.length dc3] 25)).al (.cells #[.int .i64 1, .int .i64 2, .int .i64 3] 3))
  have B9 : Hid (Abx wo5 (w.heap.size + 1 + 1) (.bool c3) (.slice sa3 sz3.length sc3) (.slice da3 dz3.length dc3)) := by rw [hwo5]; exact (n3.al (.cells #[.int .i64 1, .int .i64 2, .int .i64 3] 3))
  have L10 : Hid (MidC (w.heap.size + 1 + 1 + 1) (w.heap.size + 1 + 1 + 1 + 1) wo5 (some ⟨w.heap.size + 1 + 1 + 1, 0, none⟩) ([1, 2, 3]) (3)) := by rw [hwo5]; exact n4
  have hb11 : Hid (Below w.heap.size w wo5) := by rw [hwo5]; exact (((((Below.refl w.heap.size w).alloc (by omega) (.cells #[.bool c1, .slice sa1 sz1.length sc1, .slice da1 dz1.length dc1] 25)).alloc (by simp only [World.size_alloc]; omega) (.cells #[.bool c2, .slice sa2 sz2.length sc2, .slice da2 dz2.length dc2] 25)).alloc (by simp only [World.size_alloc]; omega) (.cells #[.bool c3, .slice sa3 sz3.length sc3, .slice da3 dz3.length dc3] 25)).alloc (by simp only [World.size_alloc]; omega) (.cells #[.int .i64 1, .int .i64 2, .int .i64 3] 3))
  have zwo5 : w.heap.size ≤ wo5.heap.size := hb11.out.size
  clear hwo5 n1 n2 n3 n4
  refine (vec_c (some ⟨w.heap.size + 1 + 1 + 1, 0, none⟩) 3 [1, 2, 3] (by simp) _ (L10.out.is (by omega)).1).mono ?_
  rintro e v1 ⟨vap, vcp, gap, gcp, rfl, hVp, hGp, hB⟩
  have z12 : wo5.heap.size ≤ v1.heap.size := hB.size
  have B13 : Hid (Abx v1 (w.heap.size) (.bool c1) (.slice sa1 sz1.length sc1) (.slice da1 dz1.length dc1)) := B7.out.go hB
  have B14 : Hid (Abx v1 (w.heap.size + 1) (.bool c2) (.slice sa2 sz2.length sc2) (.slice da2 dz2.length dc2)) := B8.out.go hB
  have B15 : Hid (Abx v1 (w.heap.size + 1 + 1) (.bool c3) (.slice sa3 sz3.length sc3) (.slice da3 dz3.length dc3)) := B9.out.go hB
  have L16 : Hid (MidC (w.heap.size + 1 + 1 + 1) (w.heap.size + 1 + 1 + 1 + 1) v1 (some ⟨w.heap.size + 1 + 1 + 1, 0, none⟩) ([1, 2, 3]) (3)) := L10.out.go (by omega) hB
  have hb17 : Hid (Below w.heap.size w v1) := hb11.out.trans (hB.mono hb11.out.size)
  have L18 : Hid (MidC (wo5.heap.size) (v1.heap.size) v1 (vap) ([(3 : Int)]) (vcp)) := hVp.midc
  have L19 : Hid (MidC (wo5.heap.size) (v1.heap.size) v1 (gap) ([1, 2, 3]) (gcp)) := hGp.midc
  clear hB hb11 B7 B8 B9 L10 hVp hGp
  clear L16
  have n20 := lit_mid v1 3 [4, 5, 6] 3 rfl
  simp only [List.map_cons, List.map_nil] at n20
  go_wp2_with fail
  obtain ⟨wo21, hwo21⟩ : ∃ wo21, wo21 = (v1.alloc (.cells #[.int .i64 4, .int .i64 5, .int .i64 6] 3)) := ⟨_, rfl⟩
  rw [← hwo21]
  have z22 : v1.heap.size + 1 ≤ wo21.heap.size := by rw [hwo21]; simp only [World.size_alloc]; omega
  have B23 : Hid (Abx wo21 (w.heap.size) (.bool c1) (.slice sa1 sz1.length sc1) (.slice da1 dz1.length dc1)) := by rw [hwo21]; exact (B13.out.al (.cells #[.int .i64 4, .int .i64 5, .int .i64 6] 3))
  have B24 : Hid (Abx wo21 (w.heap.size + 1) (.bool c2) (.slice sa2 sz2.length sc2) (.slice da2 dz2.length dc2)) := by rw [hwo21]; exact (B14.out.al (.cells #[.int .i64 4, .int .i64 5, .int .i64 6] 3))
  have B25 : Hid (Abx wo21 (w.heap.size + 1 + 1) (.bool c3) (.slice sa3 sz3.length sc3) (.slice da3 dz3.length dc3)) := by rw [hwo21]; exact (B15.out.al (.cells #[.int .i64 4, .int .i64 5, .int .i64 6] 3))
  have L26 : Hid (MidC (wo5.heap.size) (v1.heap.size) wo21 (vap) ([(3 : Int)]) (vcp)) := by rw [hwo21]; exact (L18.out.al (by omega) (.cells #[.int .i64 4, .int .i64 5, .int .i64 6] 3))
  have L27 : Hid (MidC (wo5.heap.size) (v1.heap.size) wo21 (gap) ([1, 2, 3]) (gcp)) := by rw [hwo21]; exact (L19.out.al (by omega) (.cells #[.int .i64 4, .int .i64 5, .int .i64 6] 3))
  have L28 : Hid (MidC (v1.heap.size) (v1.heap.size + 1) wo21 (some ⟨v1.heap.size, 0, none⟩) ([4, 5, 6]) (3)) := by rw [hwo21]; exact n20
  have hb29 : Hid (Below w.heap.size w wo21) := by rw [hwo21]; exact (hb17.out.alloc (by omega) (.cells #[.int .i64 4, .int .i64 5, .int .i64 6] 3))
  have zwo21 : w.heap.size ≤ wo21.heap.size := hb29.out.size
  clear hwo21 n20 hb17 B13 B14 B15 L18 L19
  refine (vec_c (some ⟨v1.heap.size, 0, none⟩) 3 [4, 5, 6] (by simp) _ (L28.out.is (by omega)).1).mono ?_
  rintro e v2 ⟨vaq, vcq, gaq, gcq, rfl, hVq, hGq, hB⟩
  have z30 : wo21.heap.size ≤ v2.heap.size := hB.size
  have B31 : Hid (Abx v2 (w.heap.size) (.bool c1) (.slice sa1 sz1.length sc1) (.slice da1 dz1.length dc1)) := B23.out.go hB
  have B32 : Hid (Abx v2 (w.heap.size + 1) (.bool c2) (.slice sa2 sz2.length sc2) (.slice da2 dz2.length dc2)) := B24.out.go hB
  have B33 : Hid (Abx v2 (w.heap.size + 1 + 1) (.bool c3) (.slice sa3 sz3.length sc3) (.slice da3 dz3.length dc3)) := B25.out.go hB
  have L34 : Hid (MidC (wo5.heap.size) (v1.heap.size) v2 (vap) ([(3 : Int)]) (vcp)) := L26.out.go (by omega) hB
  have L35 : Hid (MidC (wo5.heap.size) (v1.heap.size) v2 (gap) ([1, 2, 3]) (gcp)) := L27.out.go (by omega) hB
  have L36 : Hid (MidC (v1.heap.size) (v1.heap.size + 1) v2 (some ⟨v1.heap.size, 0, none⟩) ([4, 5, 6]) (3)) := L28.out.go (by omega) hB
  have hb37 : Hid (Below w.heap.size w v2) := hb29.out.trans (hB.mono hb29.out.size)
  have L38 : Hid (MidC (wo21.heap.size) (v2.heap.size) v2 (vaq) ([(3 : Int)]) (vcq)) := hVq.midc
  have L39 : Hid (MidC (wo21.heap.size) (v2.heap.size) v2 (gaq) ([4, 5, 6]) (gcq)) := hGq.midc
  clear hB hb29 B23 B24 B25 L26 L27 L28 hVq hGq
  clear L36
  go_wp2_with fail
  refine (niw_ok 1 3 false vap vcp [(3 : Int)] 1 rfl gap gcp [1, 2, 3] 3 rfl false vaq vcq [(3 : Int)] 1 rfl gaq gcq [4, 5, 6] 3 rfl _ (by unfold In64; decide) (by unfold In64; decide) (by decide) (by decide) (L34.out.is (by omega)) (L35.out.is (by omega)).1 (lit12 (by decide)) (by decide) (by decide) (L38.out.is (by omega)) (L39.out.is (by omega)).1 (lit12 (by decide)) [] [32] HNi (by show inE 1 3 false [(3 : Int)] [1, 2, 3] false [(3 : Int)] [4, 5, 6] = 0 ∧ inS [(3 : Int)] [(3 : Int)] = [] ∧ inD 1 3 false [(3 : Int)] [1, 2, 3] false [(3 : Int)] [4, 5, 6] = [32]; decide +kernel)).mono ?_
  rintro e v3 ⟨f1, g1, f2, g2, rfl, hX0, hY0, hB⟩
  have z40 : v2.heap.size ≤ v3.heap.size := hB.size
  have B41 : Hid (Abx v3 (w.heap.size) (.bool c1) (.slice sa1 sz1.length sc1) (.slice da1 dz1.length dc1)) := B31.out.go hB
  have B42 : Hid (Abx v3 (w.heap.size + 1) (.bool c2) (.slice sa2 sz2.length sc2) (.slice da2 dz2.length dc2)) := B32.out.go hB
  have B43 : Hid (Abx v3 (w.heap.size + 1 + 1) (.bool c3) (.slice sa3 sz3.length sc3) (.slice da3 dz3.length dc3)) := B33.out.go hB
  have L44 : Hid (MidC (wo5.heap.size) (v1.heap.size) v3 (vap) ([(3 : Int)]) (vcp)) := L34.out.go (by omega) hB
  have L45 : Hid (MidC (wo5.heap.size) (v1.heap.size) v3 (gap) ([1, 2, 3]) (gcp)) := L35.out.go (by omega) hB
  have L46 : Hid (MidC (wo21.heap.size) (v2.heap.size) v3 (vaq) ([(3 : Int)]) (vcq)) := L38.out.go (by omega) hB
  have L47 : Hid (MidC (wo21.heap.size) (v2.heap.size) v3 (gaq) ([4, 5, 6]) (gcq)) := L39.out.go (by omega) hB
  have hb48 : Hid (Below w.heap.size w v3) := hb37.out.trans (hB.mono hb37.out.size)
  have L49 : Hid (MidC (v2.heap.size) (v3.heap.size) v3 (f1) ([]) (g1)) := hX0.midc
  have L50 : Hid (MidC (v2.heap.size) (v3.heap.size) v3 (f2) ([32]) (g2)) := hY0.midc
  clear hB hb37 B31 B32 B33 L34 L35 L38 L39 hX0 hY0
  clear L44 L45 L46 L47
  obtain ⟨b51, ob51, rfl, _, _, _, _⟩ := L50.out.at (i := 0) (by decide)
  have n52 := Abx.new v3 (.bool false) (.slice f1 0 g1) (.slice (some ⟨b51, ob51, none⟩) 1 g2)
  have l53 := (n52).c0
  have l54 := (n52).c1
  have l55 := (n52).c2
  obtain ⟨_, _, l56e, _, _, l56, _⟩ := ((L50.out.al (by omega) (.cells #[.bool false, .slice f1 0 g1, .slice (some ⟨b51, ob51, none⟩) 1 g2] 25))).at (i := 0) (by decide)
  cases l56e
  try simp only [Nat.add_zero] at l56
  go_wp2_with fail
  obtain ⟨wo57, hwo57⟩ : ∃ wo57, wo57 = (v3.alloc (.cells #[.bool false, .slice f1 0 g1, .slice (some ⟨b51, ob51, none⟩) 1 g2] 25)) := ⟨_, rfl⟩
  rw [← hwo57]
  have z58 : v3.heap.size + 1 ≤ wo57.heap.size := by rw [hwo57]; simp only [World.size_alloc]; omega
  have B59 : Hid (Abx wo57 (w.heap.size) (.bool c1) (.slice sa1 sz1.length sc1) (.slice da1 dz1.length dc1)) := by rw [hwo57]; exact (B41.out.al (.cells #[.bool false, .slice f1 0 g1, .slice (some ⟨b51, ob51, none⟩) 1 g2] 25))
  have B60 : Hid (Abx wo57 (w.heap.size + 1) (.bool c2) (.slice sa2 sz2.length sc2) (.slice da2 dz2.length dc2)) := by rw [hwo57]; exact (B42.out.al (.cells #[.bool false, .slice f1 0 g1, .slice (some ⟨b51, ob51, none⟩) 1 g2] 25))
  have B61 : Hid (Abx wo57 (w.heap.size + 1 + 1) (.bool c3) (.slice sa3 sz3.length sc3) (.slice da3 dz3.length dc3)) := by rw [hwo57]; exact (B43.out.al (.cells #[.bool false, .slice f1 0 g1, .slice (some ⟨b51, ob51, none⟩) 1 g2] 25))
  have B62 : Hid (Abx wo57 (v3.heap.size) (.bool false) (.slice f1 0 g1) (.slice (some ⟨b51, ob51, none⟩) 1 g2)) := by rw [hwo57]; exact n52
  have L63 : Hid (MidC (v2.heap.size) (v3.heap.size) wo57 (f1) ([]) (g1)) := by rw [hwo57]; exact (L49.out.al (by omega) (.cells #[.bool false, .slice f1 0 g1, .slice (some ⟨b51, ob51, none⟩) 1 g2] 25))
  have L64 : Hid (MidC (v2.heap.size) (v3.heap.size) wo57 (some ⟨b51, ob51, none⟩) ([32]) (g2)) := by rw [hwo57]; exact (L50.out.al (by omega) (.cells #[.bool false, .slice f1 0 g1, .slice (some ⟨b51, ob51, none⟩) 1 g2] 25))
  have hb65 : Hid (Below w.heap.size w wo57) := by rw [hwo57]; exact (hb48.out.alloc (by omega) (.cells #[.bool false, .slice f1 0 g1, .slice (some ⟨b51, ob51, none⟩) 1 g2] 25))
  have zwo57 : w.heap.size ≤ wo57.heap.size := hb65.out.size
  clear hwo57 n52 l53 l54 l55 l56 hb48 B41 B42 B43 L49 L50
  clear L63 L64 B62
  have hb0 : Below wo57.heap.size wo57 wo57.drew := (Below.refl _ wo57).drew
  refine anyC_begin (fun w' => w'.cell? ⟨w.heap.size, 0, none⟩ = some (.bool c1) ∧ w'.cell? ⟨w.heap.size, 1, none⟩ = some (.slice sa1 sz1.length sc1) ∧ w'.cell? ⟨w.heap.size, 2, none⟩ = some (.slice da1 dz1.length dc1) ∧ w'.cell? ⟨w.heap.size + 1, 0, none⟩ = some (.bool c2) ∧ w'.cell? ⟨w.heap.size + 1, 1, none⟩ = some (.slice sa2 sz2.length sc2) ∧ w'.cell? ⟨w.heap.size + 1, 2, none⟩ = some (.slice da2 dz2.length dc2) ∧ w'.cell? ⟨w.heap.size + 1 + 1, 0, none⟩ = some (.bool c3) ∧ w'.cell? ⟨w.heap.size + 1 + 1, 1, none⟩ = some (.slice sa3 sz3.length sc3) ∧ w'.cell? ⟨w.heap.size + 1 + 1, 2, none⟩ = some (.slice da3 dz3.length dc3)) 41 #[false, false, false, false, false, false, false, false, false, false, false, false, false, false, false, false, false, false, false, false, false, false, false, false, false, false, false, false, false, false, false, false, false, false, false, false, false, false, false, false, false] (by kernel_rfl) rfl rfl ?_
  refine anyC_put 0 43 ?rv92 #[true, false, false, false, false, false, false, false, false, false, false, false, false, false, false, false, false, false, false, false, false, false, false, false, false, false, false, false, false, false, false, false, false, false, false, false, false, false, false, false, false] rfl rfl rfl (by kernel_rfl) (by kernel_rfl) (by kernel_rfl) (fun _ _ _ h => h) ?ry92 (⟨(B59.out.go hb0).c0, (B59.out.go hb0).c1, (B59.out.go hb0).c2, (B60.out.go hb0).c0, (B60.out.go hb0).c1, (B60.out.go hb0).c2, (B61.out.go hb0).c0, (B61.out.go hb0).c1, (B61.out.go hb0).c2⟩) ?rm92
  case ry92 => first | exact Or.inl ⟨by rfl, by intro w'; go_simp; first | done | rfl⟩
  case rm92 =>
  simp only [Act.put, List.setIfInBounds_toArray, List.set_cons_zero, List.set_cons_succ]
  refine anyC_put 1 44 ?rv93 #[true, true, false, false, false, false, false, false, false, false, false, false, false, false, false, false, false, false, false, false, false, false, false, false, false, false, false, false, false, false, false, false, false, false, false, false, false, false, false, false, false] rfl rfl rfl (by kernel_rfl) (by kernel_rfl) (by kernel_rfl) (fun _ _ _ h => h) ?ry93 (⟨(B59.out.go hb0).c0, (B59.out.go hb0).c1, (B59.out.go hb0).c2, (B60.out.go hb0).c0, (B60.out.go hb0).c1, (B60.out.go hb0).c2, (B61.out.go hb0).c0, (B61.out.go hb0).c1, (B61.out.go hb0).c2⟩) ?rm93
  case ry93 => first | exact Or.inl ⟨by rfl, by intro w'; go_simp; first | done | rfl⟩
  case rm93 =>
  simp only [Act.put, List.setIfInBounds_toArray, List.set_cons_zero, List.set_cons_succ]
  refine anyC_one 2 #[true, true, true, false, false, false, false, false, false, false, false, false, false, false, false, false, false, false, false, false, false, false, false, false, false, false, false, false, false, false, false, false, false, false, false, false, false, false, false, false, false] (by kernel_rfl) rfl rfl (fun K hK => ?_)
  go_simp
  go_wp2_with (go_at_call 9; refine (sring_any f g _).mono ?_; rintro e ysr ⟨rfl, hysr⟩; obtain rfl := hysr.symm; rw [srB_yes GS.out])
  refine hK.out _ _ (⟨(B59.out.go hb0).c0, (B59.out.go hb0).c1, (B59.out.go hb0).c2, (B60.out.go hb0).c0, (B60.out.go hb0).c1, (B60.out.go hb0).c2, (B61.out.go hb0).c0, (B61.out.go hb0).c1, (B61.out.go hb0).c2⟩) ?_
  clear hK K
  refine anyC_put 3 46 ?rv95 #[true, true, true, true, false, false, false, false, false, false, false, false, false, false, false, false, false, false, false, false, false, false, false, false, false, false, false, false, false, false, false, false, false, false, false, false, false, false, false, false, false] rfl rfl rfl (by kernel_rfl) (by kernel_rfl) (by kernel_rfl) (fun _ _ _ h => h) ?ry95 (⟨(B59.out.go hb0).c0, (B59.out.go hb0).c1, (B59.out.go hb0).c2, (B60.out.go hb0).c0, (B60.out.go hb0).c1, (B60.out.go hb0).c2, (B61.out.go hb0).c0, (B61.out.go hb0).c1, (B61.out.go hb0).c2⟩) ?rm95
  case ry95 => first | exact Or.inl ⟨by rfl, by intro w'; go_simp; first | done | rfl⟩
  case rm95 =>
  simp only [Act.put, List.setIfInBounds_toArray, List.set_cons_zero, List.set_cons_succ]
  refine anyC_put 4 47 ?rv96 #[true, true, true, true, true, false, false, false, false, false, false, false, false, false, false, false, false, false, false, false, false, false, false, false, false, false, false, false, false, false, false, false, false, false, false, false, false, false, false, false, false] rfl rfl rfl (by kernel_rfl) (by kernel_rfl) (by kernel_rfl) (fun _ _ _ h => h) ?ry96 (⟨(B59.out.go hb0).c0, (B59.out.go hb0).c1, (B59.out.go hb0).c2, (B60.out.go hb0).c0, (B60.out.go hb0).c1, (B60.out.go hb0).c2, (B61.out.go hb0).c0, (B61.out.go hb0).c1, (B61.out.go hb0).c2⟩) ?rm96
  case ry96 => first | exact Or.inl ⟨by rfl, by intro w'; go_simp; first | done | rfl⟩
  case rm96 =>
  simp only [Act.put, List.setIfInBounds_toArray, List.set_cons_zero, List.set_cons_succ]
  refine anyC_take 5 48 ?rv97 #[true, true, true, true, true, true, false, false, false, false, false, false, false, false, false, false, false, false, false, false, false, false, false, false, false, false, false, false, false, false, false, false, false, false, false, false, false, false, false, false, false] rfl rfl rfl (by kernel_rfl) (by kernel_rfl) (by kernel_rfl) (fun _ _ _ h => h) ?ry97 (⟨(B59.out.go hb0).c0, (B59.out.go hb0).c1, (B59.out.go hb0).c2, (B60.out.go hb0).c0, (B60.out.go hb0).c1, (B60.out.go hb0).c2, (B61.out.go hb0).c0, (B61.out.go hb0).c1, (B61.out.go hb0).c2⟩) ?rm97
  case ry97 => first | exact Or.inl ⟨by rfl, by intro w' hw'; (try dsimp only at hw'); go_simp; first | done | rfl⟩ | exact Or.inr ⟨by rfl, rfl⟩ | exact Or.inr ⟨by rfl, by rfl⟩
  case rm97 =>
  simp only [Act.put, List.setIfInBounds_toArray, List.set_cons_zero, List.set_cons_succ]
  refine anyC_one 6 #[true, true, true, true, true, true, true, false, false, false, false, false, false, false, false, false, false, false, false, false, false, false, false, false, false, false, false, false, false, false, false, false, false, false, false, false, false, false, false, false, false] (by kernel_rfl) rfl rfl (fun K hK => ?_)
  go_simp
  go_wp2_with (go_at_call 10; refine (grid_yes 16 (by decide) c1 sa1 sc1 sz1 da1 dc1 dz1 _ ((HI1.out.1.1.below (hb65.out.trans (hb0.mono hb65.out.size))).mono (hb65.out.trans (hb0.mono hb65.out.size)).size) G1.out).mono ?_; rintro e y1 ⟨rfl, hBy1⟩)
  have hby1 : Below wo57.heap.size wo57 y1 := hb0.trans (hBy1.mono hb0.size)
  refine hK.out _ _ (⟨(B59.out.go hby1).c0, (B59.out.go hby1).c1, (B59.out.go hby1).c2, (B60.out.go hby1).c0, (B60.out.go hby1).c1, (B60.out.go hby1).c2, (B61.out.go hby1).c0, (B61.out.go hby1).c1, (B61.out.go hby1).c2⟩) ?_
  clear hK K
  refine anyC_put 7 50 ?rv99 #[true, true, true, true, true, true, true, true, false, false, false, false, false, false, false, false, false, false, false, false, false, false, false, false, false, false, false, false, false, false, false, false, false, false, false, false, false, false, false, false, false] rfl rfl rfl (by kernel_rfl) (by kernel_rfl) (by kernel_rfl) (fun _ _ _ h => h) ?ry99 (⟨(B59.out.go hby1).c0, (B59.out.go hby1).c1, (B59.out.go hby1).c2, (B60.out.go hby1).c0, (B60.out.go hby1).c1, (B60.out.go hby1).c2, (B61.out.go hby1).c0, (B61.out.go hby1).c1, (B61.out.go hby1).c2⟩) ?rm99
  case ry99 => first | exact Or.inl ⟨by rfl, by intro w'; go_simp; first | done | rfl⟩ | exact Or.inr ⟨by rfl, rfl⟩ | exact Or.inr ⟨by rfl, by rfl⟩
  case rm99 =>
  simp only [Act.put, List.setIfInBounds_toArray, List.set_cons_zero, List.set_cons_succ]
  refine anyC_put 8 51 ?rv100 #[true, true, true, true, true, true, true, true, true, false, false, false, false, false, false, false, false, false, false, false, false, false, false, false, false, false, false, false, false, false, false, false, false, false, false, false, false, false, false, false, false] rfl rfl rfl (by kernel_rfl) (by kernel_rfl) (by kernel_rfl) (fun _ _ _ h => h) ?ry100 (⟨(B59.out.go hby1).c0, (B59.out.go hby1).c1, (B59.out.go hby1).c2, (B60.out.go hby1).c0, (B60.out.go hby1).c1, (B60.out.go hby1).c2, (B61.out.go hby1).c0, (B61.out.go hby1).c1, (B61.out.go hby1).c2⟩) ?rm100
  case ry100 => first | exact Or.inl ⟨by rfl, by intro w'; go_simp; first | done | rfl⟩
  case rm100 =>
  simp only [Act.put, List.setIfInBounds_toArray, List.set_cons_zero, List.set_cons_succ]
  refine anyC_put 9 52 ?rv101 #[true, true, true, true, true, true, true, true, true, true, false, false, false, false, false, false, false, false, false, false, false, false, false, false, false, false, false, false, false, false, false, false, false, false, false, false, false, false, false, false, false] rfl rfl rfl (by kernel_rfl) (by kernel_rfl) (by kernel_rfl) (fun _ _ _ h => h) ?ry101 (⟨(B59.out.go hby1).c0, (B59.out.go hby1).c1, (B59.out.go hby1).c2, (B60.out.go hby1).c0, (B60.out.go hby1).c1, (B60.out.go hby1).c2, (B61.out.go hby1).c0, (B61.out.go hby1).c1, (B61.out.go hby1).c2⟩) ?rm101
  case ry101 => first | exact Or.inl ⟨by rfl, by intro w'; go_simp; first | done | rfl⟩
  case rm101 =>
  simp only [Act.put, List.setIfInBounds_toArray, List.set_cons_zero, List.set_cons_succ]
  refine anyC_take 10 53 ?rv102 #[true, true, true, true, true, true, true, true, true, true, true, false, false, false, false, false, false, false, false, false, false, false, false, false, false, false, false, false, false, false, false, false, false, false, false, false, false, false, false, false, false] rfl rfl rfl (by kernel_rfl) (by kernel_rfl) (by kernel_rfl) (fun _ _ _ h => h) ?ry102 (⟨(B59.out.go hby1).c0, (B59.out.go hby1).c1, (B59.out.go hby1).c2, (B60.out.go hby1).c0, (B60.out.go hby1).c1, (B60.out.go hby1).c2, (B61.out.go hby1).c0, (B61.out.go hby1).c1, (B61.out.go hby1).c2⟩) ?rm102
  case ry102 => first | exact Or.inl ⟨by rfl, by intro w' hw'; (try dsimp only at hw'); go_simp; first | done | rfl⟩ | exact Or.inr ⟨by rfl, rfl⟩ | exact Or.inr ⟨by rfl, by rfl⟩
  case rm102 =>
  simp only [Act.put, List.setIfInBounds_toArray, List.set_cons_zero, List.set_cons_succ]
  refine anyC_one 11 #[true, true, true, true, true, true, true, true, true, true, true, true, false, false, false, false, false, false, false, false, false, false, false, false, false, false, false, false, false, false, false, false, false, false, false, false, false, false, false, false, false] (by kernel_rfl) rfl rfl (fun K hK => ?_)
  go_simp
  go_wp2_with (go_at_call 10; refine (grid_no 16 (by decide) c2 sa2 sc2 sz2 da2 dc2 dz2 _ ((HI2.out.1.1.below (hb65.out.trans (hby1.mono hb65.out.size))).mono (hb65.out.trans (hby1.mono hb65.out.size)).size) G2.out).mono ?_; rintro e y2 ⟨rfl, hBy2⟩)
  have hby2 : Below wo57.heap.size wo57 y2 := hby1.trans (hBy2.mono hby1.size)
  refine hK.out _ _ (⟨(B59.out.go hby2).c0, (B59.out.go hby2).c1, (B59.out.go hby2).c2, (B60.out.go hby2).c0, (B60.out.go hby2).c1, (B60.out.go hby2).c2, (B61.out.go hby2).c0, (B61.out.go hby2).c1, (B61.out.go hby2).c2⟩) ?_
  clear hK K
  refine anyC_put 12 55 ?rv104 #[true, true, true, true, true, true, true, true, true, true, true, true, true, false, false, false, false, false, false, false, false, false, false, false, false, false, false, false, false, false, false, false, false, false, false, false, false, false, false, false, false] rfl rfl rfl (by kernel_rfl) (by kernel_rfl) (by kernel_rfl) (fun _ _ _ h => h) ?ry104 (⟨(B59.out.go hby2).c0, (B59.out.go hby2).c1, (B59.out.go hby2).c2, (B60.out.go hby2).c0, (B60.out.go hby2).c1, (B60.out.go hby2).c2, (B61.out.go hby2).c0, (B61.out.go hby2).c1, (B61.out.go hby2).c2⟩) ?rm104
  case ry104 => first | exact Or.inl ⟨by rfl, by intro w'; go_simp; first | done | rfl⟩ | exact Or.inr ⟨by rfl, rfl⟩ | exact Or.inr ⟨by rfl, by rfl⟩
  case rm104 =>
  simp only [Act.put, List.setIfInBounds_toArray, List.set_cons_zero, List.set_cons_succ]
  refine anyC_put 13 56 ?rv105 #[true, true, true, true, true, true, true, true, true, true, true, true, true, true, false, false, false, false, false, false, false, false, false, false, false, false, false, false, false, false, false, false, false, false, false, false, false, false, false, false, false] rfl rfl rfl (by kernel_rfl) (by kernel_rfl) (by kernel_rfl) (fun _ _ _ h => h) ?ry105 (⟨(B59.out.go hby2).c0, (B59.out.go hby2).c1, (B59.out.go hby2).c2, (B60.out.go hby2).c0, (B60.out.go hby2).c1, (B60.out.go hby2).c2, (B61.out.go hby2).c0, (B61.out.go hby2).c1, (B61.out.go hby2).c2⟩) ?rm105
  case ry105 => first | exact Or.inl ⟨by rfl, by intro w'; go_simp; first | done | rfl⟩
  case rm105 =>
  simp only [Act.put, List.setIfInBounds_toArray, List.set_cons_zero, List.set_cons_succ]
  refine anyC_put 14 57 ?rv106 #[true, true, true, true, true, true, true, true, true, true, true, true, true, true, true, false, false, false, false, false, false, false, false, false, false, false, false, false, false, false, false, false, false, false, false, false, false, false, false, false, false] rfl rfl rfl (by kernel_rfl) (by kernel_rfl) (by kernel_rfl) (fun _ _ _ h => h) ?ry106 (⟨(B59.out.go hby2).c0, (B59.out.go hby2).c1, (B59.out.go hby2).c2, (B60.out.go hby2).c0, (B60.out.go hby2).c1, (B60.out.go hby2).c2, (B61.out.go hby2).c0, (B61.out.go hby2).c1, (B61.out.go hby2).c2⟩) ?rm106
  case ry106 => first | exact Or.inl ⟨by rfl, by intro w'; go_simp; first | done | rfl⟩
  case rm106 =>
  simp only [Act.put, List.setIfInBounds_toArray, List.set_cons_zero, List.set_cons_succ]
  refine anyC_take 15 58 ?rv107 #[true, true, true, true, true, true, true, true, true, true, true, true, true, true, true, true, false, false, false, false, false, false, false, false, false, false, false, false, false, false, false, false, false, false, false, false, false, false, false, false, false] rfl rfl rfl (by kernel_rfl) (by kernel_rfl) (by kernel_rfl) (fun _ _ _ h => h) ?ry107 (⟨(B59.out.go hby2).c0, (B59.out.go hby2).c1, (B59.out.go hby2).c2, (B60.out.go hby2).c0, (B60.out.go hby2).c1, (B60.out.go hby2).c2, (B61.out.go hby2).c0, (B61.out.go hby2).c1, (B61.out.go hby2).c2⟩) ?rm107
  case ry107 => first | exact Or.inl ⟨by rfl, by intro w' hw'; (try dsimp only at hw'); go_simp; first | done | rfl⟩ | exact Or.inr ⟨by rfl, rfl⟩ | exact Or.inr ⟨by rfl, by rfl⟩
  case rm107 =>
  simp only [Act.put, List.setIfInBounds_toArray, List.set_cons_zero, List.set_cons_succ]
  refine anyC_one 16 #[true, true, true, true, true, true, true, true, true, true, true, true, true, true, true, true, true, false, false, false, false, false, false, false, false, false, false, false, false, false, false, false, false, false, false, false, false, false, false, false, false] (by kernel_rfl) rfl rfl (fun K hK => ?_)
  go_simp
  refine hK.out _ _ (⟨(B59.out.go hby2).c0, (B59.out.go hby2).c1, (B59.out.go hby2).c2, (B60.out.go hby2).c0, (B60.out.go hby2).c1, (B60.out.go hby2).c2, (B61.out.go hby2).c0, (B61.out.go hby2).c1, (B61.out.go hby2).c2⟩) ?_
  clear hK K
  refine anyC_put 17 60 ?rv109 #[true, true, true, true, true, true, true, true, true, true, true, true, true, true, true, true, true, true, false, false, false, false, false, false, false, false, false, false, false, false, false, false, false, false, false, false, false, false, false, false, false] rfl rfl rfl (by kernel_rfl) (by kernel_rfl) (by kernel_rfl) (fun _ _ _ h => h) ?ry109 (⟨(B59.out.go hby2).c0, (B59.out.go hby2).c1, (B59.out.go hby2).c2, (B60.out.go hby2).c0, (B60.out.go hby2).c1, (B60.out.go hby2).c2, (B61.out.go hby2).c0, (B61.out.go hby2).c1, (B61.out.go hby2).c2⟩) ?rm109
  case ry109 => first | exact Or.inl ⟨by rfl, by intro w'; go_simp; first | done | rfl⟩ | exact Or.inr ⟨by rfl, rfl⟩ | exact Or.inr ⟨by rfl, by rfl⟩
  case rm109 =>
  simp only [Act.put, List.setIfInBounds_toArray, List.set_cons_zero, List.set_cons_succ]
  refine anyC_put 18 61 ?rv110 #[true, true, true, true, true, true, true, true, true, true, true, true, true, true, true, true, true, true, true, false, false, false, false, false, false, false, false, false, false, false, false, false, false, false, false, false, false, false, false, false, false] rfl rfl rfl (by kernel_rfl) (by kernel_rfl) (by kernel_rfl) (fun _ _ _ h => h) ?ry110 (⟨(B59.out.go hby2).c0, (B59.out.go hby2).c1, (B59.out.go hby2).c2, (B60.out.go hby2).c0, (B60.out.go hby2).c1, (B60.out.go hby2).c2, (B61.out.go hby2).c0, (B61.out.go hby2).c1, (B61.out.go hby2).c2⟩) ?rm110
  case ry110 => first | exact Or.inl ⟨by rfl, by intro w'; go_simp; first | done | rfl⟩
  case rm110 =>
  simp only [Act.put, List.setIfInBounds_toArray, List.set_cons_zero, List.set_cons_succ]
  refine anyC_put 19 62 ?rv111 #[true, true, true, true, true, true, true, true, true, true, true, true, true, true, true, true, true, true, true, true, false, false, false, false, false, false, false, false, false, false, false, false, false, false, false, false, false, false, false, false, false] rfl rfl rfl (by kernel_rfl) (by kernel_rfl) (by kernel_rfl) (fun _ _ _ h => h) ?ry111 (⟨(B59.out.go hby2).c0, (B59.out.go hby2).c1, (B59.out.go hby2).c2, (B60.out.go hby2).c0, (B60.out.go hby2).c1, (B60.out.go hby2).c2, (B61.out.go hby2).c0, (B61.out.go hby2).c1, (B61.out.go hby2).c2⟩) ?rm111
  case ry111 => first | exact Or.inl ⟨by rfl, by intro w'; go_simp; first | done | rfl⟩
  case rm111 =>
  simp only [Act.put, List.setIfInBounds_toArray, List.set_cons_zero, List.set_cons_succ]
  refine anyC_put 20 63 ?rv112 #[true, true, true, true, true, true, true, true, true, true, true, true, true, true, true, true, true, true, true, true, true, false, false, false, false, false, false, false, false, false, false, false, false, false, false, false, false, false, false, false, false] rfl rfl rfl (by kernel_rfl) (by kernel_rfl) (by kernel_rfl) (fun _ _ _ h => h) ?ry112 (⟨(B59.out.go hby2).c0, (B59.out.go hby2).c1, (B59.out.go hby2).c2, (B60.out.go hby2).c0, (B60.out.go hby2).c1, (B60.out.go hby2).c2, (B61.out.go hby2).c0, (B61.out.go hby2).c1, (B61.out.go hby2).c2⟩) ?rm112
  case ry112 => first | exact Or.inl ⟨by rfl, by intro w'; go_simp; first | done | rfl⟩ | exact Or.inr ⟨by rfl, rfl⟩ | exact Or.inr ⟨by rfl, by rfl⟩
  case rm112 =>
  simp only [Act.put, List.setIfInBounds_toArray, List.set_cons_zero, List.set_cons_succ]
  refine anyC_take 21 64 ?rv113 #[true, true, true, true, true, true, true, true, true, true, true, true, true, true, true, true, true, true, true, true, true, true, false, false, false, false, false, false, false, false, false, false, false, false, false, false, false, false, false, false, false] rfl rfl rfl (by kernel_rfl) (by kernel_rfl) (by kernel_rfl) (fun _ _ _ h => h) ?ry113 (⟨(B59.out.go hby2).c0, (B59.out.go hby2).c1, (B59.out.go hby2).c2, (B60.out.go hby2).c0, (B60.out.go hby2).c1, (B60.out.go hby2).c2, (B61.out.go hby2).c0, (B61.out.go hby2).c1, (B61.out.go hby2).c2⟩) ?rm113
  case ry113 => first | exact Or.inl ⟨by rfl, by intro w' hw'; (try dsimp only at hw'); go_simp; first | done | rfl⟩ | exact Or.inr ⟨by rfl, rfl⟩ | exact Or.inr ⟨by rfl, by rfl⟩
  case rm113 =>
  simp only [Act.put, List.setIfInBounds_toArray, List.set_cons_zero, List.set_cons_succ]
  refine anyC_put 22 65 ?rv114 #[true, true, true, true, true, true, true, true, true, true, true, true, true, true, true, true, true, true, true, true, true, true, true, false, false, false, false, false, false, false, false, false, false, false, false, false, false, false, false, false, false] rfl rfl rfl (by kernel_rfl) (by kernel_rfl) (by kernel_rfl) (fun _ _ _ h => h) ?ry114 (⟨(B59.out.go hby2).c0, (B59.out.go hby2).c1, (B59.out.go hby2).c2, (B60.out.go hby2).c0, (B60.out.go hby2).c1, (B60.out.go hby2).c2, (B61.out.go hby2).c0, (B61.out.go hby2).c1, (B61.out.go hby2).c2⟩) ?rm114
  case ry114 => first | exact Or.inl ⟨by rfl, by intro w'; go_simp; first | done | rfl⟩ | exact Or.inr ⟨by rfl, rfl⟩ | exact Or.inr ⟨by rfl, by rfl⟩
  case rm114 =>
  simp only [Act.put, List.setIfInBounds_toArray, List.set_cons_zero, List.set_cons_succ]
  refine anyC_take 23 66 ?rv115 #[true, true, true, true, true, true, true, true, true, true, true, true, true, true, true, true, true, true, true, true, true, true, true, true, false, false, false, false, false, false, false, false, false, false, false, false, false, false, false, false, false] rfl rfl rfl (by kernel_rfl) (by kernel_rfl) (by kernel_rfl) (fun _ _ _ h => h) ?ry115 (⟨(B59.out.go hby2).c0, (B59.out.go hby2).c1, (B59.out.go hby2).c2, (B60.out.go hby2).c0, (B60.out.go hby2).c1, (B60.out.go hby2).c2, (B61.out.go hby2).c0, (B61.out.go hby2).c1, (B61.out.go hby2).c2⟩) ?rm115
  case ry115 => first | exact Or.inl ⟨by rfl, by intro w' hw'; (try dsimp only at hw'); go_simp; first | done | rfl⟩ | exact Or.inr ⟨by rfl, rfl⟩ | exact Or.inr ⟨by rfl, by rfl⟩
  case rm115 =>
  simp only [Act.put, List.setIfInBounds_toArray, List.set_cons_zero, List.set_cons_succ]
  refine anyC_put 24 67 ?rv116 #[true, true, true, true, true, true, true, true, true, true, true, true, true, true, true, true, true, true, true, true, true, true, true, true, true, false, false, false, false, false, false, false, false, false, false, false, false, false, false, false, false] rfl rfl rfl (by kernel_rfl) (by kernel_rfl) (by kernel_rfl) (fun _ _ _ h => h) ?ry116 (⟨(B59.out.go hby2).c0, (B59.out.go hby2).c1, (B59.out.go hby2).c2, (B60.out.go hby2).c0, (B60.out.go hby2).c1, (B60.out.go hby2).c2, (B61.out.go hby2).c0, (B61.out.go hby2).c1, (B61.out.go hby2).c2⟩) ?rm116
  case ry116 => first | exact Or.inl ⟨by rfl, by intro w'; go_simp; first | done | rfl⟩ | exact Or.inr ⟨by rfl, rfl⟩ | exact Or.inr ⟨by rfl, by rfl⟩
  case rm116 =>
  simp only [Act.put, List.setIfInBounds_toArray, List.set_cons_zero, List.set_cons_succ]
  refine anyC_take 25 68 ?rv117 #[true, true, true, true, true, true, true, true, true, true, true, true, true, true, true, true, true, true, true, true, true, true, true, true, true, true, false, false, false, false, false, false, false, false, false, false, false, false, false, false, false] rfl rfl rfl (by kernel_rfl) (by kernel_rfl) (by kernel_rfl) (fun _ _ _ h => h) ?ry117 (⟨(B59.out.go hby2).c0, (B59.out.go hby2).c1, (B59.out.go hby2).c2, (B60.out.go hby2).c0, (B60.out.go hby2).c1, (B60.out.go hby2).c2, (B61.out.go hby2).c0, (B61.out.go hby2).c1, (B61.out.go hby2).c2⟩) ?rm117
  case ry117 => first | exact Or.inl ⟨by rfl, by intro w' hw'; (try dsimp only at hw'); go_simp; first | done | rfl⟩ | exact Or.inr ⟨by rfl, rfl⟩ | exact Or.inr ⟨by rfl, by rfl⟩
  case rm117 =>
  simp only [Act.put, List.setIfInBounds_toArray, List.set_cons_zero, List.set_cons_succ]
  refine anyC_put 26 69 ?rv118 #[true, true, true, true, true, true, true, true, true, true, true, true, true, true, true, true, true, true, true, true, true, true, true, true, true, true, true, false, false, false, false, false, false, false, false, false, false, false, false, false, false] rfl rfl rfl (by kernel_rfl) (by kernel_rfl) (by kernel_rfl) (fun _ _ _ h => h) ?ry118 (⟨(B59.out.go hby2).c0, (B59.out.go hby2).c1, (B59.out.go hby2).c2, (B60.out.go hby2).c0, (B60.out.go hby2).c1, (B60.out.go hby2).c2, (B61.out.go hby2).c0, (B61.out.go hby2).c1, (B61.out.go hby2).c2⟩) ?rm118
  case ry118 => first | exact Or.inl ⟨by rfl, by intro w'; go_simp; first | done | rfl⟩ | exact Or.inr ⟨by rfl, rfl⟩ | exact Or.inr ⟨by rfl, by rfl⟩
  case rm118 =>
  simp only [Act.put, List.setIfInBounds_toArray, List.set_cons_zero, List.set_cons_succ]
  refine anyC_take 27 70 ?rv119 #[true, true, true, true, true, true, true, true, true, true, true, true, true, true, true, true, true, true, true, true, true, true, true, true, true, true, true, true, false, false, false, false, false, false, false, false, false, false, false, false, false] rfl rfl rfl (by kernel_rfl) (by kernel_rfl) (by kernel_rfl) (fun _ _ _ h => h) ?ry119 (⟨(B59.out.go hby2).c0, (B59.out.go hby2).c1, (B59.out.go hby2).c2, (B60.out.go hby2).c0, (B60.out.go hby2).c1, (B60.out.go hby2).c2, (B61.out.go hby2).c0, (B61.out.go hby2).c1, (B61.out.go hby2).c2⟩) ?rm119
  case ry119 => first | exact Or.inl ⟨by rfl, by intro w' hw'; (try dsimp only at hw'); go_simp; first | done | rfl⟩ | exact Or.inr ⟨by rfl, rfl⟩ | exact Or.inr ⟨by rfl, by rfl⟩
  case rm119 =>
  simp only [Act.put, List.setIfInBounds_toArray, List.set_cons_zero, List.set_cons_succ]
  refine anyC_put 28 71 ?rv120 #[true, true, true, true, true, true, true, true, true, true, true, true, true, true, true, true, true, true, true, true, true, true, true, true, true, true, true, true, true, false, false, false, false, false, false, false, false, false, false, false, false] rfl rfl rfl (by kernel_rfl) (by kernel_rfl) (by kernel_rfl) (fun _ _ _ h => h) ?ry120 (⟨(B59.out.go hby2).c0, (B59.out.go hby2).c1, (B59.out.go hby2).c2, (B60.out.go hby2).c0, (B60.out.go hby2).c1, (B60.out.go hby2).c2, (B61.out.go hby2).c0, (B61.out.go hby2).c1, (B61.out.go hby2).c2⟩) ?rm120
  case ry120 => first | exact Or.inl ⟨by rfl, by intro w'; go_simp; first | done | rfl⟩ | exact Or.inr ⟨by rfl, rfl⟩ | exact Or.inr ⟨by rfl, by rfl⟩
  case rm120 =>
  simp only [Act.put, List.setIfInBounds_toArray, List.set_cons_zero, List.set_cons_succ]
  refine anyC_put 29 72 ?rv121 #[true, true, true, true, true, true, true, true, true, true, true, true, true, true, true, true, true, true, true, true, true, true, true, true, true, true, true, true, true, true, false, false, false, false, false, false, false, false, false, false, false] rfl rfl rfl (by kernel_rfl) (by kernel_rfl) (by kernel_rfl) (fun _ _ _ h => h) ?ry121 (⟨(B59.out.go hby2).c0, (B59.out.go hby2).c1, (B59.out.go hby2).c2, (B60.out.go hby2).c0, (B60.out.go hby2).c1, (B60.out.go hby2).c2, (B61.out.go hby2).c0, (B61.out.go hby2).c1, (B61.out.go hby2).c2⟩) ?rm121
  case ry121 => first | exact Or.inl ⟨by rfl, by intro w'; go_simp; first | done | rfl⟩
  case rm121 =>
  simp only [Act.put, List.setIfInBounds_toArray, List.set_cons_zero, List.set_cons_succ]
  refine anyC_put 30 73 ?rv122 #[true, true, true, true, true, true, true, true, true, true, true, true, true, true, true, true, true, true, true, true, true, true, true, true, true, true, true, true, true, true, true, false, false, false, false, false, false, false, false, false, false] rfl rfl rfl (by kernel_rfl) (by kernel_rfl) (by kernel_rfl) (fun _ _ _ h => h) ?ry122 (⟨(B59.out.go hby2).c0, (B59.out.go hby2).c1, (B59.out.go hby2).c2, (B60.out.go hby2).c0, (B60.out.go hby2).c1, (B60.out.go hby2).c2, (B61.out.go hby2).c0, (B61.out.go hby2).c1, (B61.out.go hby2).c2⟩) ?rm122
  case ry122 => first | exact Or.inl ⟨by rfl, by intro w'; go_simp; first | done | rfl⟩
  case rm122 =>
  simp only [Act.put, List.setIfInBounds_toArray, List.set_cons_zero, List.set_cons_succ]
  refine anyC_put 31 74 ?rv123 #[true, true, true, true, true, true, true, true, true, true, true, true, true, true, true, true, true, true, true, true, true, true, true, true, true, true, true, true, true, true, true, true, false, false, false, false, false, false, false, false, false] rfl rfl rfl (by kernel_rfl) (by kernel_rfl) (by kernel_rfl) (fun _ _ _ h => h) ?ry123 (⟨(B59.out.go hby2).c0, (B59.out.go hby2).c1, (B59.out.go hby2).c2, (B60.out.go hby2).c0, (B60.out.go hby2).c1, (B60.out.go hby2).c2, (B61.out.go hby2).c0, (B61.out.go hby2).c1, (B61.out.go hby2).c2⟩) ?rm123
  case ry123 => first | exact Or.inl ⟨by rfl, by intro w'; go_simp; first | done | rfl⟩ | exact Or.inr ⟨by rfl, rfl⟩ | exact Or.inr ⟨by rfl, by rfl⟩
  case rm123 =>
  simp only [Act.put, List.setIfInBounds_toArray, List.set_cons_zero, List.set_cons_succ]
  refine anyC_take 32 75 ?rv124 #[true, true, true, true, true, true, true, true, true, true, true, true, true, true, true, true, true, true, true, true, true, true, true, true, true, true, true, true, true, true, true, true, true, false, false, false, false, false, false, false, false] rfl rfl rfl (by kernel_rfl) (by kernel_rfl) (by kernel_rfl) (fun _ _ _ h => h) ?ry124 (⟨(B59.out.go hby2).c0, (B59.out.go hby2).c1, (B59.out.go hby2).c2, (B60.out.go hby2).c0, (B60.out.go hby2).c1, (B60.out.go hby2).c2, (B61.out.go hby2).c0, (B61.out.go hby2).c1, (B61.out.go hby2).c2⟩) ?rm124
  case ry124 => first | exact Or.inl ⟨by rfl, by intro w' hw'; (try dsimp only at hw'); go_simp; first | done | rfl⟩ | exact Or.inr ⟨by rfl, rfl⟩ | exact Or.inr ⟨by rfl, by rfl⟩
  case rm124 =>
  simp only [Act.put, List.setIfInBounds_toArray, List.set_cons_zero, List.set_cons_succ]
  refine anyC_put 33 76 ?rv125 #[true, true, true, true, true, true, true, true, true, true, true, true, true, true, true, true, true, true, true, true, true, true, true, true, true, true, true, true, true, true, true, true, true, true, false, false, false, false, false, false, false] rfl rfl rfl (by kernel_rfl) (by kernel_rfl) (by kernel_rfl) (fun _ _ _ h => h) ?ry125 (⟨(B59.out.go hby2).c0, (B59.out.go hby2).c1, (B59.out.go hby2).c2, (B60.out.go hby2).c0, (B60.out.go hby2).c1, (B60.out.go hby2).c2, (B61.out.go hby2).c0, (B61.out.go hby2).c1, (B61.out.go hby2).c2⟩) ?rm125
  case ry125 => first | exact Or.inl ⟨by rfl, by intro w'; go_simp; first | done | rfl⟩ | exact Or.inr ⟨by rfl, rfl⟩ | exact Or.inr ⟨by rfl, by rfl⟩
  case rm125 =>
  simp only [Act.put, List.setIfInBounds_toArray, List.set_cons_zero, List.set_cons_succ]
  refine anyC_take 34 77 ?rv126 #[true, true, true, true, true, true, true, true, true, true, true, true, true, true, true, true, true, true, true, true, true, true, true, true, true, true, true, true, true, true, true, true, true, true, true, false, false, false, false, false, false] rfl rfl rfl (by kernel_rfl) (by kernel_rfl) (by kernel_rfl) (fun _ _ _ h => h) ?ry126 (⟨(B59.out.go hby2).c0, (B59.out.go hby2).c1, (B59.out.go hby2).c2, (B60.out.go hby2).c0, (B60.out.go hby2).c1, (B60.out.go hby2).c2, (B61.out.go hby2).c0, (B61.out.go hby2).c1, (B61.out.go hby2).c2⟩) ?rm126
  case ry126 => first | exact Or.inl ⟨by rfl, by intro w' hw'; (try dsimp only at hw'); go_simp; first | done | rfl⟩ | exact Or.inr ⟨by rfl, rfl⟩ | exact Or.inr ⟨by rfl, by rfl⟩
  case rm126 =>
  simp only [Act.put, List.setIfInBounds_toArray, List.set_cons_zero, List.set_cons_succ]
  refine anyC_put 35 78 ?rv127 #[true, true, true, true, true, true, true, true, true, true, true, true, true, true, true, true, true, true, true, true, true, true, true, true, true, true, true, true, true, true, true, true, true, true, true, true, false, false, false, false, false] rfl rfl rfl (by kernel_rfl) (by kernel_rfl) (by kernel_rfl) (fun _ _ _ h => h) ?ry127 (⟨(B59.out.go hby2).c0, (B59.out.go hby2).c1, (B59.out.go hby2).c2, (B60.out.go hby2).c0, (B60.out.go hby2).c1, (B60.out.go hby2).c2, (B61.out.go hby2).c0, (B61.out.go hby2).c1, (B61.out.go hby2).c2⟩) ?rm127
  case ry127 => first | exact Or.inl ⟨by rfl, by intro w'; go_simp; first | done | rfl⟩ | exact Or.inr ⟨by rfl, rfl⟩ | exact Or.inr ⟨by rfl, by rfl⟩
  case rm127 =>
  simp only [Act.put, List.setIfInBounds_toArray, List.set_cons_zero, List.set_cons_succ]
  refine anyC_take 36 79 ?rv128 #[true, true, true, true, true, true, true, true, true, true, true, true, true, true, true, true, true, true, true, true, true, true, true, true, true, true, true, true, true, true, true, true, true, true, true, true, true, false, false, false, false] rfl rfl rfl (by kernel_rfl) (by kernel_rfl) (by kernel_rfl) (fun _ _ _ h => h) ?ry128 (⟨(B59.out.go hby2).c0, (B59.out.go hby2).c1, (B59.out.go hby2).c2, (B60.out.go hby2).c0, (B60.out.go hby2).c1, (B60.out.go hby2).c2, (B61.out.go hby2).c0, (B61.out.go hby2).c1, (B61.out.go hby2).c2⟩) ?rm128
  case ry128 => first | exact Or.inl ⟨by rfl, by intro w' hw'; (try dsimp only at hw'); go_simp; first | done | rfl⟩ | exact Or.inr ⟨by rfl, rfl⟩ | exact Or.inr ⟨by rfl, by rfl⟩
  case rm128 =>
  simp only [Act.put, List.setIfInBounds_toArray, List.set_cons_zero, List.set_cons_succ]
  refine anyC_put 37 80 ?rv129 #[true, true, true, true, true, true, true, true, true, true, true, true, true, true, true, true, true, true, true, true, true, true, true, true, true, true, true, true, true, true, true, true, true, true, true, true, true, true, false, false, false] rfl rfl rfl (by kernel_rfl) (by kernel_rfl) (by kernel_rfl) (fun _ _ _ h => h) ?ry129 (⟨(B59.out.go hby2).c0, (B59.out.go hby2).c1, (B59.out.go hby2).c2, (B60.out.go hby2).c0, (B60.out.go hby2).c1, (B60.out.go hby2).c2, (B61.out.go hby2).c0, (B61.out.go hby2).c1, (B61.out.go hby2).c2⟩) ?rm129
  case ry129 => first | exact Or.inl ⟨by rfl, by intro w'; go_simp; first | done | rfl⟩ | exact Or.inr ⟨by rfl, rfl⟩ | exact Or.inr ⟨by rfl, by rfl⟩
  case rm129 =>
  simp only [Act.put, List.setIfInBounds_toArray, List.set_cons_zero, List.set_cons_succ]
  refine anyC_take 38 81 ?rv130 #[true, true, true, true, true, true, true, true, true, true, true, true, true, true, true, true, true, true, true, true, true, true, true, true, true, true, true, true, true, true, true, true, true, true, true, true, true, true, true, false, false] rfl rfl rfl (by kernel_rfl) (by kernel_rfl) (by kernel_rfl) (fun _ _ _ h => h) ?ry130 (⟨(B59.out.go hby2).c0, (B59.out.go hby2).c1, (B59.out.go hby2).c2, (B60.out.go hby2).c0, (B60.out.go hby2).c1, (B60.out.go hby2).c2, (B61.out.go hby2).c0, (B61.out.go hby2).c1, (B61.out.go hby2).c2⟩) ?rm130
  case ry130 => first | exact Or.inl ⟨by rfl, by intro w' hw'; (try dsimp only at hw'); go_simp; first | done | rfl⟩ | exact Or.inr ⟨by rfl, rfl⟩ | exact Or.inr ⟨by rfl, by rfl⟩
  case rm130 =>
  simp only [Act.put, List.setIfInBounds_toArray, List.set_cons_zero, List.set_cons_succ]
  refine anyC_put 39 82 ?rv131 #[true, true, true, true, true, true, true, true, true, true, true, true, true, true, true, true, true, true, true, true, true, true, true, true, true, true, true, true, true, true, true, true, true, true, true, true, true, true, true, true, false] rfl rfl rfl (by kernel_rfl) (by kernel_rfl) (by kernel_rfl) (fun _ _ _ h => h) ?ry131 (⟨(B59.out.go hby2).c0, (B59.out.go hby2).c1, (B59.out.go hby2).c2, (B60.out.go hby2).c0, (B60.out.go hby2).c1, (B60.out.go hby2).c2, (B61.out.go hby2).c0, (B61.out.go hby2).c1, (B61.out.go hby2).c2⟩) ?rm131
  case ry131 => first | exact Or.inl ⟨by rfl, by intro w'; go_simp; first | done | rfl⟩ | exact Or.inr ⟨by rfl, rfl⟩ | exact Or.inr ⟨by rfl, by rfl⟩
  case rm131 =>
  simp only [Act.put, List.setIfInBounds_toArray, List.set_cons_zero, List.set_cons_succ]
  refine anyC_put 40 83 ?rv132 #[true, true, true, true, true, true, true, true, true, true, true, true, true, true, true, true, true, true, true, true, true, true, true, true, true, true, true, true, true, true, true, true, true, true, true, true, true, true, true, true, true] rfl rfl rfl (by kernel_rfl) (by kernel_rfl) (by kernel_rfl) (fun _ _ _ h => h) ?ry132 (⟨(B59.out.go hby2).c0, (B59.out.go hby2).c1, (B59.out.go hby2).c2, (B60.out.go hby2).c0, (B60.out.go hby2).c1, (B60.out.go hby2).c2, (B61.out.go hby2).c0, (B61.out.go hby2).c1, (B61.out.go hby2).c2⟩) ?rm132
  case ry132 => first | exact Or.inl ⟨by rfl, by intro w'; go_simp; first | done | rfl⟩
  case rm132 =>
  simp only [Act.put, List.setIfInBounds_toArray, List.set_cons_zero, List.set_cons_succ]
  refine anyC_done (by kernel_rfl) ?_
  have hB := hby2
  have z66 : wo57.heap.size ≤ y2.heap.size := hB.size
  have B67 : Hid (Abx y2 (w.heap.size) (.bool c1) (.slice sa1 sz1.length sc1) (.slice da1 dz1.length dc1)) := B59.out.go hB
  have B68 : Hid (Abx y2 (w.heap.size + 1) (.bool c2) (.slice sa2 sz2.length sc2) (.slice da2 dz2.length dc2)) := B60.out.go hB
  have B69 : Hid (Abx y2 (w.heap.size + 1 + 1) (.bool c3) (.slice sa3 sz3.length sc3) (.slice da3 dz3.length dc3)) := B61.out.go hB
  have hb70 : Hid (Below w.heap.size w y2) := hb65.out.trans (hB.mono hb65.out.size)
  clear hB hb65 B59 B60 B61
  go_wp2_with fail
  go_ret
  exact ⟨rfl, hb70.out⟩
set_option maxRecDepth 100000 in
set_option maxHeartbeats 2000000 in
theorem chain_g3 (HNi : CNi) (f g : Int) (hf : In64 f) (hg : In64 g) (c1 : Bool) (sa1 : Option Addr) (sc1 : Nat) (sz1 : List Int) (da1 : Option Addr) (dc1 : Nat) (dz1 : List Int) (c2 : Bool) (sa2 : Option Addr) (sc2 : Nat) (sz2 : List Int) (da2 : Option Addr) (dc2 : Nat) (dz2 : List Int) (c3 : Bool) (sa3 : Option Addr) (sc3 : Nat) (sz3 : List Int) (da3 : Option Addr) (dc3 : Nat) (dz3 : List Int) (w : World) (w8 : IsArrD w sa1 sz1 sc1 da1 dz1 dc1) (w9 : IsArrD w sa2 sz2 sc2 da2 dz2 dc2) (w10 : IsArrD w sa3 sz3 sc3 da3 dz3 dc3) (GS : Hid (Srg f g)) (G1 : Hid (GrdP 16 c1 sz1 dz1)) (G2 : Hid (GrdP 16 c2 sz2 dz2)) (G3 : Hid (¬ GrdP 16 c3 sz3 dz3)) :
    Calls Try.prog 3 #[.int .i64 f, .int .i64 g, .agg #[.bool c1, .slice sa1 sz1.length sc1, .slice da1 dz1.length dc1], .agg #[.bool c2, .slice sa2 sz2.length sc2, .slice da2 dz2.length dc2], .agg #[.bool c3, .slice sa3 sz3.length sc3, .slice da3 dz3.length dc3]] w fun e w' => e = .returned (.bool true) ∧ Below w.heap.size w w' := by
  obtain ⟨x11, x12, x3, x4, s64, T⟩ := w8
  have HI1 : Hid (IsC w.heap.size w sa1 sz1 sc1 ∧ IsC w.heap.size w da1 dz1 dc1 ∧ (∀ j, In64 (nth sz1 j)) ∧ ∀ j, In64 (nth dz1 j)) := ⟨x3, x4, s64, T⟩
  clear x3 x4 T s64
  obtain ⟨x21, x22, x3, x4, s64, T⟩ := w9
  have HI2 : Hid (IsC w.heap.size w sa2 sz2 sc2 ∧ IsC w.heap.size w da2 dz2 dc2 ∧ (∀ j, In64 (nth sz2 j)) ∧ ∀ j, In64 (nth dz2 j)) := ⟨x3, x4, s64, T⟩
  clear x3 x4 T s64
  obtain ⟨x31, x32, x3, x4, s64, T⟩ := w10
  have HI3 : Hid (IsC w.heap.size w sa3 sz3 sc3 ∧ IsC w.heap.size w da3 dz3 dc3 ∧ (∀ j, In64 (nth sz3 j)) ∧ ∀ j, In64 (nth dz3 j)) := ⟨x3, x4, s64, T⟩
  clear x3 x4 T s64
  have n1 := Abx.new w (.bool c1) (.slice sa1 sz1.length sc1) (.slice da1 dz1.length dc1)
  have n2 := Abx.new (w.alloc (.cells #[.bool c1, .slice sa1 sz1.length sc1, .slice da1 dz1.length dc1] 25)) (.bool c2) (.slice sa2 sz2.length sc2) (.slice da2 dz2.length dc2)
  simp only [World.size_alloc] at n2
  have n3 := Abx.new ((w.alloc (.cells #[.bool c1, .slice sa1 sz1.length sc1, .slice da1 dz1.length dc1] 25)).alloc (.cells #[.bool c2, .slice sa2 sz2.length sc2, .slice da2 dz2.length dc2] 25)) (.bool c3) (.slice sa3 sz3.length sc3) (.slice da3 dz3.length dc3)
  simp only [World.size_alloc] at n3
  have n4 := lit_mid (((w.alloc (.cells #[.bool c1, .slice sa1 sz1.length sc1, .slice da1 dz1.length dc1] 25)).alloc (.cells #[.bool c2, .slice sa2 sz2.length sc2, .slice da2 dz2.length dc2] 25)).alloc (.cells #[.bool c3, .slice sa3 sz3.length sc3, .slice da3 dz3.length dc3] 25)) 3 [1, 2, 3] 3 rfl
  simp only [World.size_alloc, List.map_cons, List.map_nil] at n4
  go_enter Try.func3, Try.ntmps3
  go_wp2_with fail
  obtain ⟨wo5, hwo5⟩ : ∃ wo5, wo5 = ((((w.alloc (.cells #[.bool c1, .slice sa1 sz1.length sc1, .slice da1 dz1.length dc1] 25)).alloc (.cells #[.bool c2, .slice sa2 sz2.length sc2, .slice da2 dz2.length dc2] 25)).alloc (.cells #[.bool c3, .slice sa3 sz3.length sc3, .slice da3 dz3.length dc3] 25)).alloc (.cells #[.int .i64 1, .int .i64 2, .int .i64 3] 3)) := ⟨_, rfl⟩
  rw [← hwo5]
  have z6 : w.heap.size + 1 + 1 + 1 + 1 ≤ wo5.heap.size := by rw [hwo5]; simp only [World.size_alloc]; omega
  have B7 : Hid (Abx wo5 (w.heap.size) (.bool c1) (.slice sa1 sz1.length sc1) (.slice da1 dz1.length dc1)) := by rw [hwo5]; exact (((n1.al (.cells #[.bool c2, .slice sa2 sz2.length sc2, .slice da2 dz2.length dc2] 25)).al (.cells #[.bool c3, .slice sa3 sz3.length sc3, .slice da3 dz3.length dc3] 25)).al (.cells #[.int .i64 1, .int .i64 2, .int .i64 3] 3))
  have B8 : Hid (Abx wo5 (w.heap.size + 1) (.bool c2) (.slice sa2 sz2.length sc2) (.slice da2 dz2.length dc2)) := by rw [hwo5]; exact ((n2.al (.cells #[.bool c3, .slice sa3 sz3.length sc3, .slice da3 dz3.length dc3] 25)).al (.cells #[.int .i64 1, .int .i64 2, .int .i64 3] 3))
  have B9 : Hid (Abx wo5 (w.heap.size + 1 + 1) (.bool c3) (.slice sa3 sz3.length sc3) (.slice da3 dz3.length dc3)) := by rw [hwo5]; exact (n3.al (.cells #[.int .i64 1, .int .i64 2, .int .i64 3] 3))
  have L10 : Hid (MidC (w.heap.size + 1 + 1 + 1) (w.heap.size + 1 + 1 + 1 + 1) wo5 (some ⟨w.heap.size + 1 + 1 + 1, 0, none⟩) ([1, 2, 3]) (3)) := by rw [hwo5]; exact n4
  have hb11 : Hid (Below w.heap.size w wo5) := by rw [hwo5]; exact (((((Below.refl w.heap.size w).alloc (by omega) (.cells #[.bool c1, .slice sa1 sz1.length sc1, .slice da1 dz1.length dc1] 25)).alloc (by simp only [World.size_alloc]; omega) (.cells #[.bool c2, .slice sa2 sz2.length sc2, .slice da2 dz2.length dc2] 25)).alloc (by simp only [World.size_alloc]; omega) (.cells #[.bool c3, .slice sa3 sz3.length sc3, .slice da3 dz3.length dc3] 25)).alloc (by simp only [World.size_alloc]; omega) (.cells #[.int .i64 1, .int .i64 2, .int .i64 3] 3))
  have zwo5 : w.heap.size ≤ wo5.heap.size := hb11.out.size
  clear hwo5 n1 n2 n3 n4
  refine (vec_c (some ⟨w.heap.size + 1 + 1 + 1, 0, none⟩) 3 [1, 2, 3] (by simp) _ (L10.out.is (by omega)).1).mono ?_
  rintro e v1 ⟨vap, vcp, gap, gcp, rfl, hVp, hGp, hB⟩
  have z12 : wo5.heap.size ≤ v1.heap.size := hB.size
  have B13 : Hid (Abx v1 (w.heap.size) (.bool c1) (.slice sa1 sz1.length sc1) (.slice da1 dz1.length dc1)) := B7.out.go hB
  have B14 : Hid (Abx v1 (w.heap.size + 1) (.bool c2) (.slice sa2 sz2.length sc2) (.slice da2 dz2.length dc2)) := B8.out.go hB
  have B15 : Hid (Abx v1 (w.heap.size + 1 + 1) (.bool c3) (.slice sa3 sz3.length sc3) (.slice da3 dz3.length dc3)) := B9.out.go hB
  have L16 : Hid (MidC (w.heap.size + 1 + 1 + 1) (w.heap.size + 1 + 1 + 1 + 1) v1 (some ⟨w.heap.size + 1 + 1 + 1, 0, none⟩) ([1, 2, 3]) (3)) := L10.out.go (by omega) hB
  have hb17 : Hid (Below w.heap.size w v1) := hb11.out.trans (hB.mono hb11.out.size)
  have L18 : Hid (MidC (wo5.heap.size) (v1.heap.size) v1 (vap) ([(3 : Int)]) (vcp)) := hVp.midc
  have L19 : Hid (MidC (wo5.heap.size) (v1.heap.size) v1 (gap) ([1, 2, 3]) (gcp)) := hGp.midc
  clear hB hb11 B7 B8 B9 L10 hVp hGp
  clear L16
  have n20 := lit_mid v1 3 [4, 5, 6] 3 rfl
  simp only [List.map_cons, List.map_nil] at n20
  go_wp2_with fail
  obtain ⟨wo21, hwo21⟩ : ∃ wo21, wo21 = (v1.alloc (.cells #[.int .i64 4, .int .i64 5, .int .i64 6] 3)) := ⟨_, rfl⟩
  rw [← hwo21]
  have z22 : v1.heap.size + 1 ≤ wo21.heap.size := by rw [hwo21]; simp only [World.size_alloc]; omega
  have B23 : Hid (Abx wo21 (w.heap.size) (.bool c1) (.slice sa1 sz1.length sc1) (.slice da1 dz1.length dc1)) := by rw [hwo21]; exact (B13.out.al (.cells #[.int .i64 4, .int .i64 5, .int .i64 6] 3))
  have B24 : Hid (Abx wo21 (w.heap.size + 1) (.bool c2) (.slice sa2 sz2.length sc2) (.slice da2 dz2.length dc2)) := by rw [hwo21]; exact (B14.out.al (.cells #[.int .i64 4, .int .i64 5, .int .i64 6] 3))
  have B25 : Hid (Abx wo21 (w.heap.size + 1 + 1) (.bool c3) (.slice sa3 sz3.length sc3) (.slice da3 dz3.length dc3)) := by rw [hwo21]; exact (B15.out.al (.cells #[.int .i64 4, .int .i64 5, .int .i64 6] 3))
  have L26 : Hid (MidC (wo5.heap.size) (v1.heap.size) wo21 (vap) ([(3 : Int)]) (vcp)) := by rw [hwo21]; exact (L18.out.al (by omega) (.cells #[.int .i64 4, .int .i64 5, .int .i64 6] 3))
  have L27 : Hid (MidC (wo5.heap.size) (v1.heap.size) wo21 (gap) ([1, 2, 3]) (gcp)) := by rw [hwo21]; exact (L19.out.al (by omega) (.cells #[.int .i64 4, .int .i64 5, .int .i64 6] 3))
  have L28 : Hid (MidC (v1.heap.size) (v1.heap.size + 1) wo21 (some ⟨v1.heap.size, 0, none⟩) ([4, 5, 6]) (3)) := by rw [hwo21]; exact n20
  have hb29 : Hid (Below w.heap.size w wo21) := by rw [hwo21]; exact (hb17.out.alloc (by omega) (.cells #[.int .i64 4, .int .i64 5, .int .i64 6] 3))
  have zwo21 : w.heap.size ≤ wo21.heap.size := hb29.out.size
  clear hwo21 n20 hb17 B13 B14 B15 L18 L19
  refine (vec_c (some ⟨v1.heap.size, 0, none⟩) 3 [4, 5, 6] (by simp) _ (L28.out.is (by omega)).1).mono ?_
  rintro e v2 ⟨vaq, vcq, gaq, gcq, rfl, hVq, hGq, hB⟩
  have z30 : wo21.heap.size ≤ v2.heap.size := hB.size
  have B31 : Hid (Abx v2 (w.heap.size) (.bool c1) (.slice sa1 sz1.length sc1) (.slice da1 dz1.length dc1)) := B23.out.go hB
  have B32 : Hid (Abx v2 (w.heap.size + 1) (.bool c2) (.slice sa2 sz2.length sc2) (.slice da2 dz2.length dc2)) := B24.out.go hB
  have B33 : Hid (Abx v2 (w.heap.size + 1 + 1) (.bool c3) (.slice sa3 sz3.length sc3) (.slice da3 dz3.length dc3)) := B25.out.go hB
  have L34 : Hid (MidC (wo5.heap.size) (v1.heap.size) v2 (vap) ([(3 : Int)]) (vcp)) := L26.out.go (by omega) hB
  have L35 : Hid (MidC (wo5.heap.size) (v1.heap.size) v2 (gap) ([1, 2, 3]) (gcp)) := L27.out.go (by omega) hB
  have L36 : Hid (MidC (v1.heap.size) (v1.heap.size + 1) v2 (some ⟨v1.heap.size, 0, none⟩) ([4, 5, 6]) (3)) := L28.out.go (by omega) hB
  have hb37 : Hid (Below w.heap.size w v2) := hb29.out.trans (hB.mono hb29.out.size)
  have L38 : Hid (MidC (wo21.heap.size) (v2.heap.size) v2 (vaq) ([(3 : Int)]) (vcq)) := hVq.midc
  have L39 : Hid (MidC (wo21.heap.size) (v2.heap.size) v2 (gaq) ([4, 5, 6]) (gcq)) := hGq.midc
  clear hB hb29 B23 B24 B25 L26 L27 L28 hVq hGq
  clear L36
  go_wp2_with fail
  refine (niw_ok 1 3 false vap vcp [(3 : Int)] 1 rfl gap gcp [1, 2, 3] 3 rfl false vaq vcq [(3 : Int)] 1 rfl gaq gcq [4, 5, 6] 3 rfl _ (by unfold In64; decide) (by unfold In64; decide) (by decide) (by decide) (L34.out.is (by omega)) (L35.out.is (by omega)).1 (lit12 (by decide)) (by decide) (by decide) (L38.out.is (by omega)) (L39.out.is (by omega)).1 (lit12 (by decide)) [] [32] HNi (by show inE 1 3 false [(3 : Int)] [1, 2, 3] false [(3 : Int)] [4, 5, 6] = 0 ∧ inS [(3 : Int)] [(3 : Int)] = [] ∧ inD 1 3 false [(3 : Int)] [1, 2, 3] false [(3 : Int)] [4, 5, 6] = [32]; decide +kernel)).mono ?_
  rintro e v3 ⟨f1, g1, f2, g2, rfl, hX0, hY0, hB⟩
  have z40 : v2.heap.size ≤ v3.heap.size := hB.size
  have B41 : Hid (Abx v3 (w.heap.size) (.bool c1) (.slice sa1 sz1.length sc1) (.slice da1 dz1.length dc1)) := B31.out.go hB
  have B42 : Hid (Abx v3 (w.heap.size + 1) (.bool c2) (.slice sa2 sz2.length sc2) (.slice da2 dz2.length dc2)) := B32.out.go hB
  have B43 : Hid (Abx v3 (w.heap.size + 1 + 1) (.bool c3) (.slice sa3 sz3.length sc3) (.slice da3 dz3.length dc3)) := B33.out.go hB
  have L44 : Hid (MidC (wo5.heap.size) (v1.heap.size) v3 (vap) ([(3 : Int)]) (vcp)) := L34.out.go (by omega) hB
  have L45 : Hid (MidC (wo5.heap.size) (v1.heap.size) v3 (gap) ([1, 2, 3]) (gcp)) := L35.out.go (by omega) hB
  have L46 : Hid (MidC (wo21.heap.size) (v2.heap.size) v3 (vaq) ([(3 : Int)]) (vcq)) := L38.out.go (by omega) hB
  have L47 : Hid (MidC (wo21.heap.size) (v2.heap.size) v3 (gaq) ([4, 5, 6]) (gcq)) := L39.out.go (by omega) hB
  have hb48 : Hid (Below w.heap.size w v3) := hb37.out.trans (hB.mono hb37.out.size)
  have L49 : Hid (MidC (v2.heap.size) (v3.heap.size) v3 (f1) ([]) (g1)) := hX0.midc
  have L50 : Hid (MidC (v2.heap.size) (v3.heap.size) v3 (f2) ([32]) (g2)) := hY0.midc
  clear hB hb37 B31 B32 B33 L34 L35 L38 L39 hX0 hY0
  clear L44 L45 L46 L47
  obtain ⟨b51, ob51, rfl, _, _, _, _⟩ := L50.out.at (i := 0) (by decide)
  have n52 := Abx.new v3 (.bool false) (.slice f1 0 g1) (.slice (some ⟨b51, ob51, none⟩) 1 g2)
  have l53 := (n52).c0
  have l54 := (n52).c1
  have l55 := (n52).c2
  obtain ⟨_, _, l56e, _, _, l56, _⟩ := ((L50.out.al (by omega) (.cells #[.bool false, .slice f1 0 g1, .slice (some ⟨b51, ob51, none⟩) 1 g2] 25))).at (i := 0) (by decide)
  cases l56e
  try simp only [Nat.add_zero] at l56
  go_wp2_with fail
  obtain ⟨wo57, hwo57⟩ : ∃ wo57, wo57 = (v3.alloc (.cells #[.bool false, .slice f1 0 g1, .slice (some ⟨b51, ob51, none⟩) 1 g2] 25)) := ⟨_, rfl⟩
  rw [← hwo57]
  have z58 : v3.heap.size + 1 ≤ wo57.heap.size := by rw [hwo57]; simp only [World.size_alloc]; omega
  have B59 : Hid (Abx wo57 (w.heap.size) (.bool c1) (.slice sa1 sz1.length sc1) (.slice da1 dz1.length dc1)) := by rw [hwo57]; exact (B41.out.al (.cells #[.bool false, .slice f1 0 g1, .slice (some ⟨b51, ob51, none⟩) 1 g2] 25))
  have B60 : Hid (Abx wo57 (w.heap.size + 1) (.bool c2) (.slice sa2 sz2.length sc2) (.slice da2 dz2.length dc2)) := by rw [hwo57]; exact (B42.out.al (.cells #[.bool false, .slice f1 0 g1, .slice (some ⟨b51, ob51, none⟩) 1 g2] 25))
  have B61 : Hid (Abx wo57 (w.heap.size + 1 + 1) (.bool c3) (.slice sa3 sz3.length sc3) (.slice da3 dz3.length dc3)) := by rw [hwo57]; exact (B43.out.al (.cells #[.bool false, .slice f1 0 g1, .slice (some ⟨b51, ob51, none⟩) 1 g2] 25))
  have B62 : Hid (Abx wo57 (v3.heap.size) (.bool false) (.slice f1 0 g1) (.slice (some ⟨b51, ob51, none⟩) 1 g2)) := by rw [hwo57]; exact n52
  have L63 : Hid (MidC (v2.heap.size) (v3.heap.size) wo57 (f1) ([]) (g1)) := by rw [hwo57]; exact (L49.out.al (by omega) (.cells #[.bool false, .slice f1 0 g1, .slice (some ⟨b51, ob51, none⟩) 1 g2] 25))
  have L64 : Hid (MidC (v2.heap.size) (v3.heap.size) wo57 (some ⟨b51, ob51, none⟩) ([32]) (g2)) := by rw [hwo57]; exact (L50.out.al (by omega) (.cells #[.bool false, .slice f1 0 g1, .slice (some ⟨b51, ob51, none⟩) 1 g2] 25))
  have hb65 : Hid (Below w.heap.size w wo57) := by rw [hwo57]; exact (hb48.out.alloc (by omega) (.cells #[.bool false, .slice f1 0 g1, .slice (some ⟨b51, ob51, none⟩) 1 g2] 25))
  have zwo57 : w.heap.size ≤ wo57.heap.size := hb65.out.size
  clear hwo57 n52 l53 l54 l55 l56 hb48 B41 B42 B43 L49 L50
  clear L63 L64 B62
  have hb0 : Below wo57.heap.size wo57 wo57.drew := (Below.refl _ wo57).drew
  refine anyC_begin (fun w' => w'.cell? ⟨w.heap.size, 0, none⟩ = some (.bool c1) ∧ w'.cell? ⟨w.heap.size, 1, none⟩ = some (.slice sa1 sz1.length sc1) ∧ w'.cell? ⟨w.heap.size, 2, none⟩ = some (.slice da1 dz1.length dc1) ∧ w'.cell? ⟨w.heap.size + 1, 0, none⟩ = some (.bool c2) ∧ w'.cell? ⟨w.heap.size + 1, 1, none⟩ = some (.slice sa2 sz2.length sc2) ∧ w'.cell? ⟨w.heap.size + 1, 2, none⟩ = some (.slice da2 dz2.length dc2) ∧ w'.cell? ⟨w.heap.size + 1 + 1, 0, none⟩ = some (.bool c3) ∧ w'.cell? ⟨w.heap.size + 1 + 1, 1, none⟩ = some (.slice sa3 sz3.length sc3) ∧ w'.cell? ⟨w.heap.size + 1 + 1, 2, none⟩ = some (.slice da3 dz3.length dc3)) 41 #[false, false, false, false, false, false, false, false, false, false, false, false, false, false, false, false, false, false, false, false, false, false, false, false, false, false, false, false, false, false, false, false, false, false, false, false, false, false, false, false, false] (by kernel_rfl) rfl rfl ?_
  refine anyC_put 0 43 ?rv133 #[true, false, false, false, false, false, false, false, false, false, false, false, false, false, false, false, false, false, false, false, false, false, false, false, false, false, false, false, false, false, false, false, false, false, false, false, false, false, false, false, false] rfl rfl rfl (by kernel_rfl) (by kernel_rfl) (by kernel_rfl) (fun _ _ _ h => h) ?ry133 (⟨(B59.out.go hb0).c0, (B59.out.go hb0).c1, (B59.out.go hb0).c2, (B60.out.go hb0).c0, (B60.out.go hb0).c1, (B60.out.go hb0).c2, (B61.out.go hb0).c0, (B61.out.go hb0).c1, (B61.out.go hb0).c2⟩) ?rm133
  case ry133 => first | exact Or.inl ⟨by rfl, by intro w'; go_simp; first | done | rfl⟩
  case rm133 =>
  simp only [Act.put, List.setIfInBounds_toArray, List.set_cons_zero, List.set_cons_succ]
  refine anyC_put 1 44 ?rv134 #[true, true, false, false, false, false, false, false, false, false, false, false, false, false, false, false, false, false, false, false, false, false, false, false, false, false, false, false, false, false, false, false, false, false, false, false, false, false, false, false, false] rfl rfl rfl (by kernel_rfl) (by kernel_rfl) (by kernel_rfl) (fun _ _ _ h => h) ?ry134 (⟨(B59.out.go hb0).c0, (B59.out.go hb0).c1, (B59.out.go hb0).c2, (B60.out.go hb0).c0, (B60.out.go hb0).c1, (B60.out.go hb0).c2, (B61.out.go hb0).c0, (B61.out.go hb0).c1, (B61.out.go hb0).c2⟩) ?rm134
  case ry134 => first | exact Or.inl ⟨by rfl, by intro w'; go_simp; first | done | rfl⟩
  case rm134 =>
  simp only [Act.put, List.setIfInBounds_toArray, List.set_cons_zero, List.set_cons_succ]
  refine anyC_one 2 #[true, true, true, false, false, false, false, false, false, false, false, false, false, false, false, false, false, false, false, false, false, false, false, false, false, false, false, false, false, false, false, false, false, false, false, false, false, false, false, false, false] (by kernel_rfl) rfl rfl (fun K hK => ?_)
  go_simp
  go_wp2_with (go_at_call 9; refine (sring_any f g _).mono ?_; rintro e ysr ⟨rfl, hysr⟩; obtain rfl := hysr.symm; rw [srB_yes GS.out])
  refine hK.out _ _ (⟨(B59.out.go hb0).c0, (B59.out.go hb0).c1, (B59.out.go hb0).c2, (B60.out.go hb0).c0, (B60.out.go hb0).c1, (B60.out.go hb0).c2, (B61.out.go hb0).c0, (B61.out.go hb0).c1, (B61.out.go hb0).c2⟩) ?_
  clear hK K
  refine anyC_put 3 46 ?rv136 #[true, true, true, true, false, false, false, false, false, false, false, false, false, false, false, false, false, false, false, false, false, false, false, false, false, false, false, false, false, false, false, false, false, false, false, false, false, false, false, false, false] rfl rfl rfl (by kernel_rfl) (by kernel_rfl) (by kernel_rfl) (fun _ _ _ h => h) ?ry136 (⟨(B59.out.go hb0).c0, (B59.out.go hb0).c1, (B59.out.go hb0).c2, (B60.out.go hb0).c0, (B60.out.go hb0).c1, (B60.out.go hb0).c2, (B61.out.go hb0).c0, (B61.out.go hb0).c1, (B61.out.go hb0).c2⟩) ?rm136
  case ry136 => first | exact Or.inl ⟨by rfl, by intro w'; go_simp; first | done | rfl⟩
  case rm136 =>
  simp only [Act.put, List.setIfInBounds_toArray, List.set_cons_zero, List.set_cons_succ]
  refine anyC_put 4 47 ?rv137 #[true, true, true, true, true, false, false, false, false, false, false, false, false, false, false, false, false, false, false, false, false, false, false, false, false, false, false, false, false, false, false, false, false, false, false, false, false, false, false, false, false] rfl rfl rfl (by kernel_rfl) (by kernel_rfl) (by kernel_rfl) (fun _ _ _ h => h) ?ry137 (⟨(B59.out.go hb0).c0, (B59.out.go hb0).c1, (B59.out.go hb0).c2, (B60.out.go hb0).c0, (B60.out.go hb0).c1, (B60.out.go hb0).c2, (B61.out.go hb0).c0, (B61.out.go hb0).c1, (B61.out.go hb0).c2⟩) ?rm137
  case ry137 => first | exact Or.inl ⟨by rfl, by intro w'; go_simp; first | done | rfl⟩
  case rm137 =>
  simp only [Act.put, List.setIfInBounds_toArray, List.set_cons_zero, List.set_cons_succ]
  refine anyC_take 5 48 ?rv138 #[true, true, true, true, true, true, false, false, false, false, false, false, false, false, false, false, false, false, false, false, false, false, false, false, false, false, false, false, false, false, false, false, false, false, false, false, false, false, false, false, false] rfl rfl rfl (by kernel_rfl) (by kernel_rfl) (by kernel_rfl) (fun _ _ _ h => h) ?ry138 (⟨(B59.out.go hb0).c0, (B59.out.go hb0).c1, (B59.out.go hb0).c2, (B60.out.go hb0).c0, (B60.out.go hb0).c1, (B60.out.go hb0).c2, (B61.out.go hb0).c0, (B61.out.go hb0).c1, (B61.out.go hb0).c2⟩) ?rm138
  case ry138 => first | exact Or.inl ⟨by rfl, by intro w' hw'; (try dsimp only at hw'); go_simp; first | done | rfl⟩ | exact Or.inr ⟨by rfl, rfl⟩ | exact Or.inr ⟨by rfl, by rfl⟩
  case rm138 =>
  simp only [Act.put, List.setIfInBounds_toArray, List.set_cons_zero, List.set_cons_succ]
  refine anyC_one 6 #[true, true, true, true, true, true, true, false, false, false, false, false, false, false, false, false, false, false, false, false, false, false, false, false, false, false, false, false, false, false, false, false, false, false, false, false, false, false, false, false, false] (by kernel_rfl) rfl rfl (fun K hK => ?_)
  go_simp
  go_wp2_with (go_at_call 10; refine (grid_yes 16 (by decide) c1 sa1 sc1 sz1 da1 dc1 dz1 _ ((HI1.out.1.1.below (hb65.out.trans (hb0.mono hb65.out.size))).mono (hb65.out.trans (hb0.mono hb65.out.size)).size) G1.out).mono ?_; rintro e y1 ⟨rfl, hBy1⟩)
  have hby1 : Below wo57.heap.size wo57 y1 := hb0.trans (hBy1.mono hb0.size)
  refine hK.out _ _ (⟨(B59.out.go hby1).c0, (B59.out.go hby1).c1, (B59.out.go hby1).c2, (B60.out.go hby1).c0, (B60.out.go hby1).c1, (B60.out.go hby1).c2, (B61.out.go hby1).c0, (B61.out.go hby1).c1, (B61.out.go hby1).c2⟩) ?_
  clear hK K
  refine anyC_put 7 50 ?rv140 #[true, true, true, true, true, true, true, true, false, false, false, false, false, false, false, false, false, false, false, false, false, false, false, false, false, false, false, false, false, false, false, false, false, false, false, false, false, false, false, false, false] rfl rfl rfl (by kernel_rfl) (by kernel_rfl) (by kernel_rfl) (fun _ _ _ h => h) ?ry140 (⟨(B59.out.go hby1).c0, (B59.out.go hby1).c1, (B59.out.go hby1).c2, (B60.out.go hby1).c0, (B60.out.go hby1).c1, (B60.out.go hby1).c2, (B61.out.go hby1).c0, (B61.out.go hby1).c1, (B61.out.go hby1).c2⟩) ?rm140
  case ry140 => first | exact Or.inl ⟨by rfl, by intro w'; go_simp; first | done | rfl⟩ | exact Or.inr ⟨by rfl, rfl⟩ | exact Or.inr ⟨by rfl, by rfl⟩
  case rm140 =>
  simp only [Act.put, List.setIfInBounds_toArray, List.set_cons_zero, List.set_cons_succ]
  refine anyC_put 8 51 ?rv141 #[true, true, true, true, true, true, true, true, true, false, false, false, false, false, false, false, false, false, false, false, false, false, false, false, false, false, false, false, false, false, false, false, false, false, false, false, false, false, false, false, false] rfl rfl rfl (by kernel_rfl) (by kernel_rfl) (by kernel_rfl) (fun _ _ _ h => h) ?ry141 (⟨(B59.out.go hby1).c0, (B59.out.go hby1).c1, (B59.out.go hby1).c2, (B60.out.go hby1).c0, (B60.out.go hby1).c1, (B60.out.go hby1).c2, (B61.out.go hby1).c0, (B61.out.go hby1).c1, (B61.out.go hby1).c2⟩) ?rm141
  case ry141 => first | exact Or.inl ⟨by rfl, by intro w'; go_simp; first | done | rfl⟩
  case rm141 =>
  simp only [Act.put, List.setIfInBounds_toArray, List.set_cons_zero, List.set_cons_succ]
  refine anyC_put 9 52 ?rv142 #[true, true, true, true, true, true, true, true, true, true, false, false, false, false, false, false, false, false, false, false, false, false, false, false, false, false, false, false, false, false, false, false, false, false, false, false, false, false, false, false, false] rfl rfl rfl (by kernel_rfl) (by kernel_rfl) (by kernel_rfl) (fun _ _ _ h => h) ?ry142 (⟨(B59.out.go hby1).c0, (B59.out.go hby1).c1, (B59.out.go hby1).c2, (B60.out.go hby1).c0, (B60.out.go hby1).c1, (B60.out.go hby1).c2, (B61.out.go hby1).c0, (B61.out.go hby1).c1, (B61.out.go hby1).c2⟩) ?rm142
  case ry142 => first | exact Or.inl ⟨by rfl, by intro w'; go_simp; first | done | rfl⟩
  case rm142 =>
  simp only [Act.put, List.setIfInBounds_toArray, List.set_cons_zero, List.set_cons_succ]
  refine anyC_take 10 53 ?rv143 #[true, true, true, true, true, true, true, true, true, true, true, false, false, false, false, false, false, false, false, false, false, false, false, false, false, false, false, false, false, false, false, false, false, false, false, false, false, false, false, false, false] rfl rfl rfl (by kernel_rfl) (by kernel_rfl) (by kernel_rfl) (fun _ _ _ h => h) ?ry143 (⟨(B59.out.go hby1).c0, (B59.out.go hby1).c1, (B59.out.go hby1).c2, (B60.out.go hby1).c0, (B60.out.go hby1).c1, (B60.out.go hby1).c2, (B61.out.go hby1).c0, (B61.out.go hby1).c1, (B61.out.go hby1).c2⟩) ?rm143
  case ry143 => first | exact Or.inl ⟨by rfl, by intro w' hw'; (try dsimp only at hw'); go_simp; first | done | rfl⟩ | exact Or.inr ⟨by rfl, rfl⟩ | exact Or.inr ⟨by rfl, by rfl⟩
  case rm143 =>
  simp only [Act.put, List.setIfInBounds_toArray, List.set_cons_zero, List.set_cons_succ]
  refine anyC_one 11 #[true, true, true, true, true, true, true, true, true, true, true, true, false, false, false, false, false, false, false, false, false, false, false, false, false, false, false, false, false, false, false, false, false, false, false, false, false, false, false, false, false] (by kernel_rfl) rfl rfl (fun K hK => ?_)
  go_simp
  go_wp2_with (go_at_call 10; refine (grid_yes 16 (by decide) c2 sa2 sc2 sz2 da2 dc2 dz2 _ ((HI2.out.1.1.below (hb65.out.trans (hby1.mono hb65.out.size))).mono (hb65.out.trans (hby1.mono hb65.out.size)).size) G2.out).mono ?_; rintro e y2 ⟨rfl, hBy2⟩)
  have hby2 : Below wo57.heap.size wo57 y2 := hby1.trans (hBy2.mono hby1.size)
  refine hK.out _ _ (⟨(B59.out.go hby2).c0, (B59.out.go hby2).c1, (B59.out.go hby2).c2, (B60.out.go hby2).c0, (B60.out.go hby2).c1, (B60.out.go hby2).c2, (B61.out.go hby2).c0, (B61.out.go hby2).c1, (B61.out.go hby2).c2⟩) ?_
  clear hK K
  refine anyC_put 12 55 ?rv145 #[true, true, true, true, true, true, true, true, true, true, true, true, true, false, false, false, false, false, false, false, false, false, false, false, false, false, false, false, false, false, false, false, false, false, false, false, false, false, false, false, false] rfl rfl rfl (by kernel_rfl) (by kernel_rfl) (by kernel_rfl) (fun _ _ _ h => h) ?ry145 (⟨(B59.out.go hby2).c0, (B59.out.go hby2).c1, (B59.out.go hby2).c2, (B60.out.go hby2).c0, (B60.out.go hby2).c1, (B60.out.go hby2).c2, (B61.out.go hby2).c0, (B61.out.go hby2).c1, (B61.out.go hby2).c2⟩) ?rm145
  case ry145 => first | exact Or.inl ⟨by rfl, by intro w'; go_simp; first | done | rfl⟩ | exact Or.inr ⟨by rfl, rfl⟩ | exact Or.inr ⟨by rfl, by rfl⟩
  case rm145 =>
  simp only [Act.put, List.setIfInBounds_toArray, List.set_cons_zero, List.set_cons_succ]
  refine anyC_put 13 56 ?rv146 #[true, true, true, true, true, true, true, true, true, true, true, true, true, true, false, false, false, false, false, false, false, false, false, false, false, false, false, false, false, false, false, false, false, false, false, false, false, false, false, false, false] rfl rfl rfl (by kernel_rfl) (by kernel_rfl) (by kernel_rfl) (fun _ _ _ h => h) ?ry146 (⟨(B59.out.go hby2).c0, (B59.out.go hby2).c1, (B59.out.go hby2).c2, (B60.out.go hby2).c0, (B60.out.go hby2).c1, (B60.out.go hby2).c2, (B61.out.go hby2).c0, (B61.out.go hby2).c1, (B61.out.go hby2).c2⟩) ?rm146
  case ry146 => first | exact Or.inl ⟨by rfl, by intro w'; go_simp; first | done | rfl⟩
  case rm146 =>
  simp only [Act.put, List.setIfInBounds_toArray, List.set_cons_zero, List.set_cons_succ]
  refine anyC_put 14 57 ?rv147 #[true, true, true, true, true, true, true, true, true, true, true, true, true, true, true, false, false, false, false, false, false, false, false, false, false, false, false, false, false, false, false, false, false, false, false, false, false, false, false, false, false] rfl rfl rfl (by kernel_rfl) (by kernel_rfl) (by kernel_rfl) (fun _ _ _ h => h) ?ry147 (⟨(B59.out.go hby2).c0, (B59.out.go hby2).c1, (B59.out.go hby2).c2, (B60.out.go hby2).c0, (B60.out.go hby2).c1, (B60.out.go hby2).c2, (B61.out.go hby2).c0, (B61.out.go hby2).c1, (B61.out.go hby2).c2⟩) ?rm147
  case ry147 => first | exact Or.inl ⟨by rfl, by intro w'; go_simp; first | done | rfl⟩
  case rm147 =>
  simp only [Act.put, List.setIfInBounds_toArray, List.set_cons_zero, List.set_cons_succ]
  refine anyC_take 15 58 ?rv148 #[true, true, true, true, true, true, true, true, true, true, true, true, true, true, true, true, false, false, false, false, false, false, false, false, false, false, false, false, false, false, false, false, false, false, false, false, false, false, false, false, false] rfl rfl rfl (by kernel_rfl) (by kernel_rfl) (by kernel_rfl) (fun _ _ _ h => h) ?ry148 (⟨(B59.out.go hby2).c0, (B59.out.go hby2).c1, (B59.out.go hby2).c2, (B60.out.go hby2).c0, (B60.out.go hby2).c1, (B60.out.go hby2).c2, (B61.out.go hby2).c0, (B61.out.go hby2).c1, (B61.out.go hby2).c2⟩) ?rm148
  case ry148 => first | exact Or.inl ⟨by rfl, by intro w' hw'; (try dsimp only at hw'); go_simp; first | done | rfl⟩ | exact Or.inr ⟨by rfl, rfl⟩ | exact Or.inr ⟨by rfl, by rfl⟩
  case rm148 =>
  simp only [Act.put, List.setIfInBounds_toArray, List.set_cons_zero, List.set_cons_succ]
  refine anyC_one 16 #[true, true, true, true, true, true, true, true, true, true, true, true, true, true, true, true, true, false, false, false, false, false, false, false, false, false, false, false, false, false, false, false, false, false, false, false, false, false, false, false, false] (by kernel_rfl) rfl rfl (fun K hK => ?_)
  go_simp
  go_wp2_with (go_at_call 10; refine (grid_no 16 (by decide) c3 sa3 sc3 sz3 da3 dc3 dz3 _ ((HI3.out.1.1.below (hb65.out.trans (hby2.mono hb65.out.size))).mono (hb65.out.trans (hby2.mono hb65.out.size)).size) G3.out).mono ?_; rintro e y3 ⟨rfl, hBy3⟩)
  have hby3 : Below wo57.heap.size wo57 y3 := hby2.trans (hBy3.mono hby2.size)
  refine hK.out _ _ (⟨(B59.out.go hby3).c0, (B59.out.go hby3).c1, (B59.out.go hby3).c2, (B60.out.go hby3).c0, (B60.out.go hby3).c1, (B60.out.go hby3).c2, (B61.out.go hby3).c0, (B61.out.go hby3).c1, (B61.out.go hby3).c2⟩) ?_
  clear hK K
  refine anyC_put 17 60 ?rv150 #[true, true, true, true, true, true, true, true, true, true, true, true, true, true, true, true, true, true, false, false, false, false, false, false, false, false, false, false, false, false, false, false, false, false, false, false, false, false, false, false, false] rfl rfl rfl (by kernel_rfl) (by kernel_rfl) (by kernel_rfl) (fun _ _ _ h => h) ?ry150 (⟨(B59.out.go hby3).c0, (B59.out.go hby3).c1, (B59.out.go hby3).c2, (B60.out.go hby3).c0, (B60.out.go hby3).c1, (B60.out.go hby3).c2, (B61.out.go hby3).c0, (B61.out.go hby3).c1, (B61.out.go hby3).c2⟩) ?rm150
  case ry150 => first | exact Or.inl ⟨by rfl, by intro w'; go_simp; first | done | rfl⟩ | exact Or.inr ⟨by rfl, rfl⟩ | exact Or.inr ⟨by rfl, by rfl⟩
  case rm150 =>
  simp only [Act.put, List.setIfInBounds_toArray, List.set_cons_zero, List.set_cons_succ]
  refine anyC_put 18 61 ?rv151 #[true, true, true, true, true, true, true, true, true, true, true, true, true, true, true, true, true, true, true, false, false, false, false, false, false, false, false, false, false, false, false, false, false, false, false, false, false, false, false, false, false] rfl rfl rfl (by kernel_rfl) (by kernel_rfl) (by kernel_rfl) (fun _ _ _ h => h) ?ry151 (⟨(B59.out.go hby3).c0, (B59.out.go hby3).c1, (B59.out.go hby3).c2, (B60.out.go hby3).c0, (B60.out.go hby3).c1, (B60.out.go hby3).c2, (B61.out.go hby3).c0, (B61.out.go hby3).c1, (B61.out.go hby3).c2⟩) ?rm151
  case ry151 => first | exact Or.inl ⟨by rfl, by intro w'; go_simp; first | done | rfl⟩
  case rm151 =>
  simp only [Act.put, List.setIfInBounds_toArray, List.set_cons_zero, List.set_cons_succ]
  refine anyC_put 19 62 ?rv152 #[true, true, true, true, true, true, true, true, true, true, true, true, true, true, true, true, true, true, true, true, false, false, false, false, false, false, false, false, false, false, false, false, false, false, false, false, false, false, false, false, false] rfl rfl rfl (by kernel_rfl) (by kernel_rfl) (by kernel_rfl) (fun _ _ _ h => h) ?ry152 (⟨(B59.out.go hby3).c0, (B59.out.go hby3).c1, (B59.out.go hby3).c2, (B60.out.go hby3).c0, (B60.out.go hby3).c1, (B60.out.go hby3).c2, (B61.out.go hby3).c0, (B61.out.go hby3).c1, (B61.out.go hby3).c2⟩) ?rm152
  case ry152 => first | exact Or.inl ⟨by rfl, by intro w'; go_simp; first | done | rfl⟩
  case rm152 =>
  simp only [Act.put, List.setIfInBounds_toArray, List.set_cons_zero, List.set_cons_succ]
  refine anyC_put 20 63 ?rv153 #[true, true, true, true, true, true, true, true, true, true, true, true, true, true, true, true, true, true, true, true, true, false, false, false, false, false, false, false, false, false, false, false, false, false, false, false, false, false, false, false, false] rfl rfl rfl (by kernel_rfl) (by kernel_rfl) (by kernel_rfl) (fun _ _ _ h => h) ?ry153 (⟨(B59.out.go hby3).c0, (B59.out.go hby3).c1, (B59.out.go hby3).c2, (B60.out.go hby3).c0, (B60.out.go hby3).c1, (B60.out.go hby3).c2, (B61.out.go hby3).c0, (B61.out.go hby3).c1, (B61.out.go hby3).c2⟩) ?rm153
  case ry153 => first | exact Or.inl ⟨by rfl, by intro w'; go_simp; first | done | rfl⟩ | exact Or.inr ⟨by rfl, rfl⟩ | exact Or.inr ⟨by rfl, by rfl⟩
  case rm153 =>
  simp only [Act.put, List.setIfInBounds_toArray, List.set_cons_zero, List.set_cons_succ]
  refine anyC_take 21 64 ?rv154 #[true, true, true, true, true, true, true, true, true, true, true, true, true, true, true, true, true, true, true, true, true, true, false, false, false, false, false, false, false, false, false, false, false, false, false, false, false, false, false, false, false] rfl rfl rfl (by kernel_rfl) (by kernel_rfl) (by kernel_rfl) (fun _ _ _ h => h) ?ry154 (⟨(B59.out.go hby3).c0, (B59.out.go hby3).c1, (B59.out.go hby3).c2, (B60.out.go hby3).c0, (B60.out.go hby3).c1, (B60.out.go hby3).c2, (B61.out.go hby3).c0, (B61.out.go hby3).c1, (B61.out.go hby3).c2⟩) ?rm154
  case ry154 => first | exact Or.inl ⟨by rfl, by intro w' hw'; (try dsimp only at hw'); go_simp; first | done | rfl⟩ | exact Or.inr ⟨by rfl, rfl⟩ | exact Or.inr ⟨by rfl, by rfl⟩
  case rm154 =>
  simp only [Act.put, List.setIfInBounds_toArray, List.set_cons_zero, List.set_cons_succ]
  refine anyC_put 22 65 ?rv155 #[true, true, true, true, true, true, true, true, true, true, true, true, true, true, true, true, true, true, true, true, true, true, true, false, false, false, false, false, false, false, false, false, false, false, false, false, false, false, false, false, false] rfl rfl rfl (by kernel_rfl) (by kernel_rfl) (by kernel_rfl) (fun _ _ _ h => h) ?ry155 (⟨(B59.out.go hby3).c0, (B59.out.go hby3).c1, (B59.out.go hby3).c2, (B60.out.go hby3).c0, (B60.out.go hby3).c1, (B60.out.go hby3).c2, (B61.out.go hby3).c0, (B61.out.go hby3).c1, (B61.out.go hby3).c2⟩) ?rm155
  case ry155 => first | exact Or.inl ⟨by rfl, by intro w'; go_simp; first | done | rfl⟩ | exact Or.inr ⟨by rfl, rfl⟩ | exact Or.inr ⟨by rfl, by rfl⟩
  case rm155 =>
  simp only [Act.put, List.setIfInBounds_toArray, List.set_cons_zero, List.set_cons_succ]
  refine anyC_take 23 66 ?rv156 #[true, true, true, true, true, true, true, true, true, true, true, true, true, true, true, true, true, true, true, true, true, true, true, true, false, false, false, false, false, false, false, false, false, false, false, false, false, false, false, false, false] rfl rfl rfl (by kernel_rfl) (by kernel_rfl) (by kernel_rfl) (fun _ _ _ h => h) ?ry156 (⟨(B59.out.go hby3).c0, (B59.out.go hby3).c1, (B59.out.go hby3).c2, (B60.out.go hby3).c0, (B60.out.go hby3).c1, (B60.out.go hby3).c2, (B61.out.go hby3).c0, (B61.out.go hby3).c1, (B61.out.go hby3).c2⟩) ?rm156
  case ry156 => first | exact Or.inl ⟨by rfl, by intro w' hw'; (try dsimp only at hw'); go_simp; first | done | rfl⟩ | exact Or.inr ⟨by rfl, rfl⟩ | exact Or.inr ⟨by rfl, by rfl⟩
  case rm156 =>
  simp only [Act.put, List.setIfInBounds_toArray, List.set_cons_zero, List.set_cons_succ]
  refine anyC_put 24 67 ?rv157 #[true, true, true, true, true, true, true, true, true, true, true, true, true, true, true, true, true, true, true, true, true, true, true, true, true, false, false, false, false, false, false, false, false, false, false, false, false, false, false, false, false] rfl rfl rfl (by kernel_rfl) (by kernel_rfl) (by kernel_rfl) (fun _ _ _ h => h) ?ry157 (⟨(B59.out.go hby3).c0, (B59.out.go hby3).c1, (B59.out.go hby3).c2, (B60.out.go hby3).c0, (B60.out.go hby3).c1, (B60.out.go hby3).c2, (B61.out.go hby3).c0, (B61.out.go hby3).c1, (B61.out.go hby3).c2⟩) ?rm157
  case ry157 => first | exact Or.inl ⟨by rfl, by intro w'; go_simp; first | done | rfl⟩ | exact Or.inr ⟨by rfl, rfl⟩ | exact Or.inr ⟨by rfl, by rfl⟩
  case rm157 =>
  simp only [Act.put, List.setIfInBounds_toArray, List.set_cons_zero, List.set_cons_succ]
  refine anyC_take 25 68 ?rv158 #[true, true, true, true, true, true, true, true, true, true, true, true, true, true, true, true, true, true, true, true, true, true, true, true, true, true, false, false, false, false, false, false, false, false, false, false, false, false, false, false, false] rfl rfl rfl (by kernel_rfl) (by kernel_rfl) (by kernel_rfl) (fun _ _ _ h => h) ?ry158 (⟨(B59.out.go hby3).c0, (B59.out.go hby3).c1, (B59.out.go hby3).c2, (B60.out.go hby3).c0, (B60.out.go hby3).c1, (B60.out.go hby3).c2, (B61.out.go hby3).c0, (B61.out.go hby3).c1, (B61.out.go hby3).c2⟩) ?rm158
  case ry158 => first | exact Or.inl ⟨by rfl, by intro w' hw'; (try dsimp only at hw'); go_simp; first | done | rfl⟩ | exact Or.inr ⟨by rfl, rfl⟩ | exact Or.inr ⟨by rfl, by rfl⟩
  case rm158 =>
  simp only [Act.put, List.setIfInBounds_toArray, List.set_cons_zero, List.set_cons_succ]
  refine anyC_put 26 69 ?rv159 #[true, true, true, true, true, true, true, true, true, true, true, true, true, true, true, true, true, true, true, true, true, true, true, true, true, true, true, false, false, false, false, false, false, false, false, false, false, false, false, false, false] rfl rfl rfl (by kernel_rfl) (by kernel_rfl) (by kernel_rfl) (fun _ _ _ h => h) ?ry159 (⟨(B59.out.go hby3).c0, (B59.out.go hby3).c1, (B59.out.go hby3).c2, (B60.out.go hby3).c0, (B60.out.go hby3).c1, (B60.out.go hby3).c2, (B61.out.go hby3).c0, (B61.out.go hby3).c1, (B61.out.go hby3).c2⟩) ?rm159
  case ry159 => first | exact Or.inl ⟨by rfl, by intro w'; go_simp; first | done | rfl⟩ | exact Or.inr ⟨by rfl, rfl⟩ | exact Or.inr ⟨by rfl, by rfl⟩
  case rm159 =>
  simp only [Act.put, List.setIfInBounds_toArray, List.set_cons_zero, List.set_cons_succ]
  refine anyC_take 27 70 ?rv160 #[true, true, true, true, true, true, true, true, true, true, true, true, true, true, true, true, true, true, true, true, true, true, true, true, true, true, true, true, false, false, false, false, false, false, false, false, false, false, false, false, false] rfl rfl rfl (by kernel_rfl) (by kernel_rfl) (by kernel_rfl) (fun _ _ _ h => h) ?ry160 (⟨(B59.out.go hby3).c0, (B59.out.go hby3).c1, (B59.out.go hby3).c2, (B60.out.go hby3).c0, (B60.out.go hby3).c1, (B60.out.go hby3).c2, (B61.out.go hby3).c0, (B61.out.go hby3).c1, (B61.out.go hby3).c2⟩) ?rm160
  case ry160 => first | exact Or.inl ⟨by rfl, by intro w' hw'; (try dsimp only at hw'); go_simp; first | done | rfl⟩ | exact Or.inr ⟨by rfl, rfl⟩ | exact Or.inr ⟨by rfl, by rfl⟩
  case rm160 =>
  simp only [Act.put, List.setIfInBounds_toArray, List.set_cons_zero, List.set_cons_succ]
  refine anyC_put 28 71 ?rv161 #[true, true, true, true, true, true, true, true, true, true, true, true, true, true, true, true, true, true, true, true, true, true, true, true, true, true, true, true, true, false, false, false, false, false, false, false, false, false, false, false, false] rfl rfl rfl (by kernel_rfl) (by kernel_rfl) (by kernel_rfl) (fun _ _ _ h => h) ?ry161 (⟨(B59.out.go hby3).c0, (B59.out.go hby3).c1, (B59.out.go hby3).c2, (B60.out.go hby3).c0, (B60.out.go hby3).c1, (B60.out.go hby3).c2, (B61.out.go hby3).c0, (B61.out.go hby3).c1, (B61.out.go hby3).c2⟩) ?rm161
  case ry161 => first | exact Or.inl ⟨by rfl, by intro w'; go_simp; first | done | rfl⟩ | exact Or.inr ⟨by rfl, rfl⟩ | exact Or.inr ⟨by rfl, by rfl⟩
  case rm161 =>
  simp only [Act.put, List.setIfInBounds_toArray, List.set_cons_zero, List.set_cons_succ]
  refine anyC_put 29 72 ?rv162 #[true, true, true, true, true, true, true, true, true, true, true, true, true, true, true, true, true, true, true, true, true, true, true, true, true, true, true, true, true, true, false, false, false, false, false, false, false, false, false, false, false] rfl rfl rfl (by kernel_rfl) (by kernel_rfl) (by kernel_rfl) (fun _ _ _ h => h) ?ry162 (⟨(B59.out.go hby3).c0, (B59.out.go hby3).c1, (B59.out.go hby3).c2, (B60.out.go hby3).c0, (B60.out.go hby3).c1, (B60.out.go hby3).c2, (B61.out.go hby3).c0, (B61.out.go hby3).c1, (B61.out.go hby3).c2⟩) ?rm162
  case ry162 => first | exact Or.inl ⟨by rfl, by intro w'; go_simp; first | done | rfl⟩
  case rm162 =>
  simp only [Act.put, List.setIfInBounds_toArray, List.set_cons_zero, List.set_cons_succ]
  refine anyC_put 30 73 ?rv163 #[true, true, true, true, true, true, true, true, true, true, true, true, true, true, true, true, true, true, true, true, true, true, true, true, true, true, true, true, true, true, true, false, false, false, false, false, false, false, false, false, false] rfl rfl rfl (by kernel_rfl) (by kernel_rfl) (by kernel_rfl) (fun _ _ _ h => h) ?ry163 (⟨(B59.out.go hby3).c0, (B59.out.go hby3).c1, (B59.out.go hby3).c2, (B60.out.go hby3).c0, (B60.out.go hby3).c1, (B60.out.go hby3).c2, (B61.out.go hby3).c0, (B61.out.go hby3).c1, (B61.out.go hby3).c2⟩) ?rm163
  case ry163 => first | exact Or.inl ⟨by rfl, by intro w'; go_simp; first | done | rfl⟩
  case rm163 =>
  simp only [Act.put, List.setIfInBounds_toArray, List.set_cons_zero, List.set_cons_succ]
  refine anyC_put 31 74 ?rv164 #[true, true, true, true, true, true, true, true, true, true, true, true, true, true, true, true, true, true, true, true, true, true, true, true, true, true, true, true, true, true, true, true, false, false, false, false, false, false, false, false, false] rfl rfl rfl (by kernel_rfl) (by kernel_rfl) (by kernel_rfl) (fun _ _ _ h => h) ?ry164 (⟨(B59.out.go hby3).c0, (B59.out.go hby3).c1, (B59.out.go hby3).c2, (B60.out.go hby3).c0, (B60.out.go hby3).c1, (B60.out.go hby3).c2, (B61.out.go hby3).c0, (B61.out.go hby3).c1, (B61.out.go hby3).c2⟩) ?rm164
  case ry164 => first | exact Or.inl ⟨by rfl, by intro w'; go_simp; first | done | rfl⟩ | exact Or.inr ⟨by rfl, rfl⟩ | exact Or.inr ⟨by rfl, by rfl⟩
  case rm164 =>
  simp only [Act.put, List.setIfInBounds_toArray, List.set_cons_zero, List.set_cons_succ]
  refine anyC_take 32 75 ?rv165 #[true, true, true, true, true, true, true, true, true, true, true, true, true, true, true, true, true, true, true, true, true, true, true, true, true, true, true, true, true, true, true, true, true, false, false, false, false, false, false, false, false] rfl rfl rfl (by kernel_rfl) (by kernel_rfl) (by kernel_rfl) (fun _ _ _ h => h) ?ry165 (⟨(B59.out.go hby3).c0, (B59.out.go hby3).c1, (B59.out.go hby3).c2, (B60.out.go hby3).c0, (B60.out.go hby3).c1, (B60.out.go hby3).c2, (B61.out.go hby3).c0, (B61.out.go hby3).c1, (B61.out.go hby3).c2⟩) ?rm165
  case ry165 => first | exact Or.inl ⟨by rfl, by intro w' hw'; (try dsimp only at hw'); go_simp; first | done | rfl⟩ | exact Or.inr ⟨by rfl, rfl⟩ | exact Or.inr ⟨by rfl, by rfl⟩
  case rm165 =>
  simp only [Act.put, List.setIfInBounds_toArray, List.set_cons_zero, List.set_cons_succ]
  refine anyC_put 33 76 ?rv166 #[true, true, true, true, true, true, true, true, true, true, true, true, true, true, true, true, true, true, true, true, true, true, true, true, true, true, true, true, true, true, true, true, true, true, false, false, false, false, false, false, false] rfl rfl rfl (by kernel_rfl) (by kernel_rfl) (by kernel_rfl) (fun _ _ _ h => h) ?ry166 (⟨(B59.out.go hby3).c0, (B59.out.go hby3).c1, (B59.out.go hby3).c2, (B60.out.go hby3).c0, (B60.out.go hby3).c1, (B60.out.go hby3).c2, (B61.out.go hby3).c0, (B61.out.go hby3).c1, (B61.out.go hby3).c2⟩) ?rm166
  case ry166 => first | exact Or.inl ⟨by rfl, by intro w'; go_simp; first | done | rfl⟩ | exact Or.inr ⟨by rfl, rfl⟩ | exact Or.inr ⟨by rfl, by rfl⟩
  case rm166 =>
  simp only [Act.put, List.setIfInBounds_toArray, List.set_cons_zero, List.set_cons_succ]
  refine anyC_take 34 77 ?rv167 #[true, true, true, true, true, true, true, true, true, true, true, true, true, true, true, true, true, true, true, true, true, true, true, true, true, true, true, true, true, true, true, true, true, true, true, false, false, false, false, false, false] rfl rfl rfl (by kernel_rfl) (by kernel_rfl) (by kernel_rfl) (fun _ _ _ h => h) ?ry167 (⟨(B59.out.go hby3).c0, (B59.out.go hby3).c1, (B59.out.go hby3).c2, (B60.out.go hby3).c0, (B60.out.go hby3).c1, (B60.out.go hby3).c2, (B61.out.go hby3).c0, (B61.out.go hby3).c1, (B61.out.go hby3).c2⟩) ?rm167
  case ry167 => first | exact Or.inl ⟨by rfl, by intro w' hw'; (try dsimp only at hw'); go_simp; first | done | rfl⟩ | exact Or.inr ⟨by rfl, rfl⟩ | exact Or.inr ⟨by rfl, by rfl⟩
  case rm167 =>
  simp only [Act.put, List.setIfInBounds_toArray, List.set_cons_zero, List.set_cons_succ]
  refine anyC_put 35 78 ?rv168 #[true, true, true, true, true, true, true, true, true, true, true, true, true, true, true, true, true, true, true, true, true, true, true, true, true, true, true, true, true, true, true, true, true, true, true, true, false, false, false, false, false] rfl rfl rfl (by kernel_rfl) (by kernel_rfl) (by kernel_rfl) (fun _ _ _ h => h) ?ry168 (⟨(B59.out.go hby3).c0, (B59.out.go hby3).c1, (B59.out.go hby3).c2, (B60.out.go hby3).c0, (B60.out.go hby3).c1, (B60.out.go hby3).c2, (B61.out.go hby3).c0, (B61.out.go hby3).c1, (B61.out.go hby3).c2⟩) ?rm168
  case ry168 => first | exact Or.inl ⟨by rfl, by intro w'; go_simp; first | done | rfl⟩ | exact Or.inr ⟨by rfl, rfl⟩ | exact Or.inr ⟨by rfl, by rfl⟩
  case rm168 =>
  simp only [Act.put, List.setIfInBounds_toArray, List.set_cons_zero, List.set_cons_succ]
  refine anyC_take 36 79 ?rv169 #[true, true, true, true, true, true, true, true, true, true, true, true, true, true, true, true, true, true, true, true, true, true, true, true, true, true, true, true, true, true, true, true, true, true, true, true, true, false, false, false, false] rfl rfl rfl (by kernel_rfl) (by kernel_rfl) (by kernel_rfl) (fun _ _ _ h => h) ?ry169 (⟨(B59.out.go hby3).c0, (B59.out.go hby3).c1, (B59.out.go hby3).c2, (B60.out.go hby3).c0, (B60.out.go hby3).c1, (B60.out.go hby3).c2, (B61.out.go hby3).c0, (B61.out.go hby3).c1, (B61.out.go hby3).c2⟩) ?rm169
  case ry169 => first | exact Or.inl ⟨by rfl, by intro w' hw'; (try dsimp only at hw'); go_simp; first | done | rfl⟩ | exact Or.inr ⟨by rfl, rfl⟩ | exact Or.inr ⟨by rfl, by rfl⟩
  case rm169 =>
  simp only [Act.put, List.setIfInBounds_toArray, List.set_cons_zero, List.set_cons_succ]
  refine anyC_put 37 80 ?rv170 #[true, true, true, true, true, true, true, true, true, true, true, true, true, true, true, true, true, true, true, true, true, true, true, true, true, true, true, true, true, true, true, true, true, true, true, true, true, true, false, false, false] rfl rfl rfl (by kernel_rfl) (by kernel_rfl) (by kernel_rfl) (fun _ _ _ h => h) ?ry170 (⟨(B59.out.go hby3).c0, (B59.out.go hby3).c1, (B59.out.go hby3).c2, (B60.out.go hby3).c0, (B60.out.go hby3).c1, (B60.out.go hby3).c2, (B61.out.go hby3).c0, (B61.out.go hby3).c1, (B61.out.go hby3).c2⟩) ?rm170
  case ry170 => first | exact Or.inl ⟨by rfl, by intro w'; go_simp; first | done | rfl⟩ | exact Or.inr ⟨by rfl, rfl⟩ | exact Or.inr ⟨by rfl, by rfl⟩
  case rm170 =>
  simp only [Act.put, List.setIfInBounds_toArray, List.set_cons_zero, List.set_cons_succ]
  refine anyC_take 38 81 ?rv171 #[true, true, true, true, true, true, true, true, true, true, true, true, true, true, true, true, true, true, true, true, true, true, true, true, true, true, true, true, true, true, true, true, true, true, true, true, true, true, true, false, false] rfl rfl rfl (by kernel_rfl) (by kernel_rfl) (by kernel_rfl) (fun _ _ _ h => h) ?ry171 (⟨(B59.out.go hby3).c0, (B59.out.go hby3).c1, (B59.out.go hby3).c2, (B60.out.go hby3).c0, (B60.out.go hby3).c1, (B60.out.go hby3).c2, (B61.out.go hby3).c0, (B61.out.go hby3).c1, (B61.out.go hby3).c2⟩) ?rm171
  case ry171 => first | exact Or.inl ⟨by rfl, by intro w' hw'; (try dsimp only at hw'); go_simp; first | done | rfl⟩ | exact Or.inr ⟨by rfl, rfl⟩ | exact Or.inr ⟨by rfl, by rfl⟩
  case rm171 =>
  simp only [Act.put, List.setIfInBounds_toArray, List.set_cons_zero, List.set_cons_succ]
  refine anyC_put 39 82 ?rv172 #[true, true, true, true, true, true, true, true, true, true, true, true, true, true, true, true, true, true, true, true, true, true, true, true, true, true, true, true, true, true, true, true, true, true, true, true, true, true, true, true, false] rfl rfl rfl (by kernel_rfl) (by kernel_rfl) (by kernel_rfl) (fun _ _ _ h => h) ?ry172 (⟨(B59.out.go hby3).c0, (B59.out.go hby3).c1, (B59.out.go hby3).c2, (B60.out.go hby3).c0, (B60.out.go hby3).c1, (B60.out.go hby3).c2, (B61.out.go hby3).c0, (B61.out.go hby3).c1, (B61.out.go hby3).c2⟩) ?rm172
  case ry172 => first | exact Or.inl ⟨by rfl, by intro w'; go_simp; first | done | rfl⟩ | exact Or.inr ⟨by rfl, rfl⟩ | exact Or.inr ⟨by rfl, by rfl⟩
  case rm172 =>
  simp only [Act.put, List.setIfInBounds_toArray, List.set_cons_zero, List.set_cons_succ]
  refine anyC_put 40 83 ?rv173 #[true, true, true, true, true, true, true, true, true, true, true, true, true, true, true, true, true, true, true, true, true, true, true, true, true, true, true, true, true, true, true, true, true, true, true, true, true, true, true, true, true] rfl rfl rfl (by kernel_rfl) (by kernel_rfl) (by kernel_rfl) (fun _ _ _ h => h) ?ry173 (⟨(B59.out.go hby3).c0, (B59.out.go hby3).c1, (B59.out.go hby3).c2, (B60.out.go hby3).c0, (B60.out.go hby3).c1, (B60.out.go hby3).c2, (B61.out.go hby3).c0, (B61.out.go hby3).c1, (B61.out.go hby3).c2⟩) ?rm173
  case ry173 => first | exact Or.inl ⟨by rfl, by intro w'; go_simp; first | done | rfl⟩
  case rm173 =>
  simp only [Act.put, List.setIfInBounds_toArray, List.set_cons_zero, List.set_cons_succ]
  refine anyC_done (by kernel_rfl) ?_
  have hB := hby3
  have z66 : wo57.heap.size ≤ y3.heap.size := hB.size
  have B67 : Hid (Abx y3 (w.heap.size) (.bool c1) (.slice sa1 sz1.length sc1) (.slice da1 dz1.length dc1)) := B59.out.go hB
  have B68 : Hid (Abx y3 (w.heap.size + 1) (.bool c2) (.slice sa2 sz2.length sc2) (.slice da2 dz2.length dc2)) := B60.out.go hB
  have B69 : Hid (Abx y3 (w.heap.size + 1 + 1) (.bool c3) (.slice sa3 sz3.length sc3) (.slice da3 dz3.length dc3)) := B61.out.go hB
  have hb70 : Hid (Below w.heap.size w y3) := hb65.out.trans (hB.mono hb65.out.size)
  clear hB hb65 B59 B60 B61
  go_wp2_with fail
  go_ret
  exact ⟨rfl, hb70.out⟩
end Go.Proofs.Ytcpmendkocnlhaa
