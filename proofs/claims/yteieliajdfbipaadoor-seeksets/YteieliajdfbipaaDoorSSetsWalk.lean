/-
  The walk of the statement SeekSets, given what the program tells.
-/
import Derived.Test.YteieliajdfbipaaDoorIsw
import Derived.Test.YteieliajdfbipaaDoorSekq
import Derived.Test.YteieliajdfbipaaDoorRsu
import Derived.Test.YteieliajdfbipaaDoorRsd
import Derived.Test.YteieliajdfbipaaDoorSekc
namespace Go.Proofs.YteieliajdfbipaaDoor
open Go.RowKit
set_option linter.unusedVariables false

set_option maxRecDepth 100000 in
set_option maxHeartbeats 8000000 in
theorem ssets_walk (HNb : CNb) (HWo : CWo) (HMt : CMt) (HUn : CUn) (c1 : Bool) (sa1 : Option Addr) (sc1 : Nat) (sz1 : List Int) (da1 : Option Addr) (dc1 : Nat) (dz1 : List Int) (c2 : Bool) (sa2 : Option Addr) (sc2 : Nat) (sz2 : List Int) (da2 : Option Addr) (dc2 : Nat) (dz2 : List Int) (w : World) (hg : HasErr w) (w8 : IsArrD w sa1 sz1 sc1 da1 dz1 dc1) (w9 : IsArrD w sa2 sz2 sc2 da2 dz2 dc2) :
    Calls Tryd.prog 5 #[.agg #[.bool c1, .slice sa1 sz1.length sc1, .slice da1 dz1.length dc1], .agg #[.bool c2, .slice sa2 sz2.length sc2, .slice da2 dz2.length dc2]] w fun e w' => e = .returned (.bool true) ∧ Below w.heap.size w w' := by
  obtain ⟨x11, x12, x3, x4, _, T⟩ := w8
  have HI1 : Hid (IsC w.heap.size w sa1 sz1 sc1 ∧ IsC w.heap.size w da1 dz1 dc1 ∧ ∀ j, In64 (nth dz1 j)) := ⟨x3, x4, T⟩
  clear x3 x4 T
  obtain ⟨x21, x22, x3, x4, _, T⟩ := w9
  have HI2 : Hid (IsC w.heap.size w sa2 sz2 sc2 ∧ IsC w.heap.size w da2 dz2 dc2 ∧ ∀ j, In64 (nth dz2 j)) := ⟨x3, x4, T⟩
  clear x3 x4 T
  have HG : Hid (HasErr w) := hg
  clear hg
  obtain ⟨S1, hS⟩ : ∃ S, S = onl (nbE c1 sz1 dz1) ([((nbL dz1).length : Int)]) := ⟨_, rfl⟩
  obtain ⟨D1, hD⟩ : ∃ D, D = onl (nbE c1 sz1 dz1) (nbL dz1) := ⟨_, rfl⟩
  obtain ⟨C1, hC⟩ : ∃ C, C = onc (nbE c1 sz1 dz1) c1 := ⟨_, rfl⟩
  obtain ⟨E1, hE⟩ : ∃ E, E = nbE c1 sz1 dz1 := ⟨_, rfl⟩
  have HN1 : Hid (S1 = onl (nbE c1 sz1 dz1) ([((nbL dz1).length : Int)]) ∧ D1 = onl (nbE c1 sz1 dz1) (nbL dz1) ∧ C1 = onc (nbE c1 sz1 dz1) c1 ∧ E1 = nbE c1 sz1 dz1) := ⟨hS, hD, hC, hE⟩
  have HL1 : Hid (S1.length ≤ 4096 ∧ D1.length ≤ 4096) := by rw [hS, hD]; exact nb8_len c1 sz1 dz1
  clear hS hD hC hE
  obtain ⟨S2, hS⟩ : ∃ S, S = onl (lsE c1 sz1 dz1 c2 sz2 dz2) ([((shD c1 dz1 c2 dz2 false).length : Int)]) := ⟨_, rfl⟩
  obtain ⟨D2, hD⟩ : ∃ D, D = onl (lsE c1 sz1 dz1 c2 sz2 dz2) (shD c1 dz1 c2 dz2 false) := ⟨_, rfl⟩
  obtain ⟨C2, hC⟩ : ∃ C, C = onc (lsE c1 sz1 dz1 c2 sz2 dz2) c1 := ⟨_, rfl⟩
  obtain ⟨E2, hE⟩ : ∃ E, E = lsE c1 sz1 dz1 c2 sz2 dz2 := ⟨_, rfl⟩
  have HN2 : Hid (S2 = onl (lsE c1 sz1 dz1 c2 sz2 dz2) ([((shD c1 dz1 c2 dz2 false).length : Int)]) ∧ D2 = onl (lsE c1 sz1 dz1 c2 sz2 dz2) (shD c1 dz1 c2 dz2 false) ∧ C2 = onc (lsE c1 sz1 dz1 c2 sz2 dz2) c1 ∧ E2 = lsE c1 sz1 dz1 c2 sz2 dz2) := ⟨hS, hD, hC, hE⟩
  have HL2 : Hid (S2.length ≤ 4096 ∧ D2.length ≤ 4096) := by rw [hS, hD]; exact sh8_len c1 sz1 dz1 c2 sz2 dz2 false
  clear hS hD hC hE
  obtain ⟨S3, hS⟩ : ∃ S, S = onl (lsE c1 sz1 dz1 c2 sz2 dz2) ([((shD c1 dz1 c2 dz2 true).length : Int)]) := ⟨_, rfl⟩
  obtain ⟨D3, hD⟩ : ∃ D, D = onl (lsE c1 sz1 dz1 c2 sz2 dz2) (shD c1 dz1 c2 dz2 true) := ⟨_, rfl⟩
  obtain ⟨C3, hC⟩ : ∃ C, C = onc (lsE c1 sz1 dz1 c2 sz2 dz2) c1 := ⟨_, rfl⟩
  obtain ⟨E3, hE⟩ : ∃ E, E = lsE c1 sz1 dz1 c2 sz2 dz2 := ⟨_, rfl⟩
  have HN3 : Hid (S3 = onl (lsE c1 sz1 dz1 c2 sz2 dz2) ([((shD c1 dz1 c2 dz2 true).length : Int)]) ∧ D3 = onl (lsE c1 sz1 dz1 c2 sz2 dz2) (shD c1 dz1 c2 dz2 true) ∧ C3 = onc (lsE c1 sz1 dz1 c2 sz2 dz2) c1 ∧ E3 = lsE c1 sz1 dz1 c2 sz2 dz2) := ⟨hS, hD, hC, hE⟩
  have HL3 : Hid (S3.length ≤ 4096 ∧ D3.length ≤ 4096) := by rw [hS, hD]; exact sh8_len c1 sz1 dz1 c2 sz2 dz2 true
  clear hS hD hC hE
  obtain ⟨S4, hS⟩ : ∃ S, S = onl (unE c1 sz1 dz1 c2 sz2 dz2) ([((unD c1 dz1 c2 dz2).length : Int)]) := ⟨_, rfl⟩
  obtain ⟨D4, hD⟩ : ∃ D, D = onl (unE c1 sz1 dz1 c2 sz2 dz2) (unD c1 dz1 c2 dz2) := ⟨_, rfl⟩
  obtain ⟨C4, hC⟩ : ∃ C, C = onc (unE c1 sz1 dz1 c2 sz2 dz2) c1 := ⟨_, rfl⟩
  obtain ⟨E4, hE⟩ : ∃ E, E = unE c1 sz1 dz1 c2 sz2 dz2 := ⟨_, rfl⟩
  have HN4 : Hid (S4 = onl (unE c1 sz1 dz1 c2 sz2 dz2) ([((unD c1 dz1 c2 dz2).length : Int)]) ∧ D4 = onl (unE c1 sz1 dz1 c2 sz2 dz2) (unD c1 dz1 c2 dz2) ∧ C4 = onc (unE c1 sz1 dz1 c2 sz2 dz2) c1 ∧ E4 = unE c1 sz1 dz1 c2 sz2 dz2) := ⟨hS, hD, hC, hE⟩
  have HL4 : Hid (S4.length ≤ 4096 ∧ D4.length ≤ 4096) := by rw [hS, hD]; exact un8_len c1 sz1 dz1 c2 sz2 dz2
  clear hS hD hC hE
  have n1 := Abx.new w (.bool c1) (.slice sa1 sz1.length sc1) (.slice da1 dz1.length dc1)
  have n2 := Abx.new (w.alloc (.cells #[.bool c1, .slice sa1 sz1.length sc1, .slice da1 dz1.length dc1] 24)) (.bool c2) (.slice sa2 sz2.length sc2) (.slice da2 dz2.length dc2)
  simp only [World.size_alloc] at n2
  have l3 := ((n1.al (.cells #[.bool c2, .slice sa2 sz2.length sc2, .slice da2 dz2.length dc2] 24))).c0
  have l4 := ((n1.al (.cells #[.bool c2, .slice sa2 sz2.length sc2, .slice da2 dz2.length dc2] 24))).c1
  have l5 := ((n1.al (.cells #[.bool c2, .slice sa2 sz2.length sc2, .slice da2 dz2.length dc2] 24))).c2
  go_enter Tryd.func5, Tryd.ntmps5
  go_wp2_with fail
  obtain ⟨wo6, hwo6⟩ : ∃ wo6, wo6 = ((w.alloc (.cells #[.bool c1, .slice sa1 sz1.length sc1, .slice da1 dz1.length dc1] 24)).alloc (.cells #[.bool c2, .slice sa2 sz2.length sc2, .slice da2 dz2.length dc2] 24)) := ⟨_, rfl⟩
  rw [← hwo6]
  have z7 : w.heap.size + 1 + 1 ≤ wo6.heap.size := by rw [hwo6]; simp only [World.size_alloc]; omega
  have B8 : Hid (Abx wo6 (w.heap.size) (.bool c1) (.slice sa1 sz1.length sc1) (.slice da1 dz1.length dc1)) := by rw [hwo6]; exact (n1.al (.cells #[.bool c2, .slice sa2 sz2.length sc2, .slice da2 dz2.length dc2] 24))
  have B9 : Hid (Abx wo6 (w.heap.size + 1) (.bool c2) (.slice sa2 sz2.length sc2) (.slice da2 dz2.length dc2)) := by rw [hwo6]; exact n2
  have hb10 : Hid (Below w.heap.size w wo6) := by rw [hwo6]; exact (((Below.refl w.heap.size w).alloc (by omega) (.cells #[.bool c1, .slice sa1 sz1.length sc1, .slice da1 dz1.length dc1] 24)).alloc (by simp only [World.size_alloc]; omega) (.cells #[.bool c2, .slice sa2 sz2.length sc2, .slice da2 dz2.length dc2] 24))
  have zwo6 : w.heap.size ≤ wo6.heap.size := hb10.out.size
  clear hwo6 n1 n2 l3 l4 l5
  have h1 := unlike_any c1 sa1 sc1 sz1 da1 dc1 dz1 x11 x12 _ ((HI1.out.1.1.below hb10.out).mono hb10.out.size) ((HI1.out.2.1.1.below hb10.out).mono hb10.out.size)
  rw [← HN1.out.1, ← HN1.out.2.1, ← HN1.out.2.2.1, ← HN1.out.2.2.2] at h1
  replace h1 := h1.mono fun _ _ h => UR.c h
  refine (h1).mono ?_
  rintro e v1 ⟨ta1, tc1, ua1, uc1, rfl, hT1, hU1, hB⟩
  have z11 : wo6.heap.size ≤ v1.heap.size := hB.size
  have B12 : Hid (Abx v1 (w.heap.size) (.bool c1) (.slice sa1 sz1.length sc1) (.slice da1 dz1.length dc1)) := B8.out.go hB
  have B13 : Hid (Abx v1 (w.heap.size + 1) (.bool c2) (.slice sa2 sz2.length sc2) (.slice da2 dz2.length dc2)) := B9.out.go hB
  have hb14 : Hid (Below w.heap.size w v1) := hb10.out.trans (hB.mono hb10.out.size)
  have L15 : Hid (MidC (wo6.heap.size) (v1.heap.size) v1 (ta1) (S1) (S1.length)) := hT1.midc
  have L16 : Hid (MidC (wo6.heap.size) (v1.heap.size) v1 (ua1) (D1) (D1.length)) := hU1.midc
  clear hB hb10 B8 B9 hT1 hU1
  clear h1
  have n17 := Abx.new v1 (.bool C1) (.slice ta1 S1.length tc1) (.slice ua1 D1.length uc1)
  have l18 := ((B12.out.al (.cells #[.bool C1, .slice ta1 S1.length tc1, .slice ua1 D1.length uc1] 24))).c0
  have l19 := ((B12.out.al (.cells #[.bool C1, .slice ta1 S1.length tc1, .slice ua1 D1.length uc1] 24))).c1
  have l20 := ((B12.out.al (.cells #[.bool C1, .slice ta1 S1.length tc1, .slice ua1 D1.length uc1] 24))).c2
  go_wp2_with fail
  obtain ⟨wo21, hwo21⟩ : ∃ wo21, wo21 = (v1.alloc (.cells #[.bool C1, .slice ta1 S1.length tc1, .slice ua1 D1.length uc1] 24)) := ⟨_, rfl⟩
  rw [← hwo21]
  have z22 : v1.heap.size + 1 ≤ wo21.heap.size := by rw [hwo21]; simp only [World.size_alloc]; omega
  have B23 : Hid (Abx wo21 (w.heap.size) (.bool c1) (.slice sa1 sz1.length sc1) (.slice da1 dz1.length dc1)) := by rw [hwo21]; exact (B12.out.al (.cells #[.bool C1, .slice ta1 S1.length tc1, .slice ua1 D1.length uc1] 24))
  have B24 : Hid (Abx wo21 (w.heap.size + 1) (.bool c2) (.slice sa2 sz2.length sc2) (.slice da2 dz2.length dc2)) := by rw [hwo21]; exact (B13.out.al (.cells #[.bool C1, .slice ta1 S1.length tc1, .slice ua1 D1.length uc1] 24))
  have B25 : Hid (Abx wo21 (v1.heap.size) (.bool C1) (.slice ta1 S1.length tc1) (.slice ua1 D1.length uc1)) := by rw [hwo21]; exact n17
  have L26 : Hid (MidC (wo6.heap.size) (v1.heap.size) wo21 (ta1) (S1) (S1.length)) := by rw [hwo21]; exact (L15.out.al (by omega) (.cells #[.bool C1, .slice ta1 S1.length tc1, .slice ua1 D1.length uc1] 24))
  have L27 : Hid (MidC (wo6.heap.size) (v1.heap.size) wo21 (ua1) (D1) (D1.length)) := by rw [hwo21]; exact (L16.out.al (by omega) (.cells #[.bool C1, .slice ta1 S1.length tc1, .slice ua1 D1.length uc1] 24))
  have hb28 : Hid (Below w.heap.size w wo21) := by rw [hwo21]; exact (hb14.out.alloc (by omega) (.cells #[.bool C1, .slice ta1 S1.length tc1, .slice ua1 D1.length uc1] 24))
  have zwo21 : w.heap.size ≤ wo21.heap.size := hb28.out.size
  clear hwo21 n17 l18 l19 l20 hb14 B12 B13 L15 L16
  have h2 := HNb c1 sa1 sc1 sz1 da1 dc1 dz1 _ x11 x12 ((HI1.out.1.1.below hb28.out).mono hb28.out.size) ((HI1.out.2.1.1.below hb28.out).mono hb28.out.size) HI1.out.2.2
  rw [← HN1.out.1, ← HN1.out.2.1, ← HN1.out.2.2.1, ← HN1.out.2.2.2] at h2
  refine (h2).mono ?_
  rintro e v2 ⟨xa1, xc1, ya1, yc1, rfl, hX1, hY1, hB⟩
  have z29 : wo21.heap.size ≤ v2.heap.size := hB.size
  have B30 : Hid (Abx v2 (w.heap.size) (.bool c1) (.slice sa1 sz1.length sc1) (.slice da1 dz1.length dc1)) := B23.out.go hB
  have B31 : Hid (Abx v2 (w.heap.size + 1) (.bool c2) (.slice sa2 sz2.length sc2) (.slice da2 dz2.length dc2)) := B24.out.go hB
  have B32 : Hid (Abx v2 (v1.heap.size) (.bool C1) (.slice ta1 S1.length tc1) (.slice ua1 D1.length uc1)) := B25.out.go hB
  have L33 : Hid (MidC (wo6.heap.size) (v1.heap.size) v2 (ta1) (S1) (S1.length)) := L26.out.go (by omega) hB
  have L34 : Hid (MidC (wo6.heap.size) (v1.heap.size) v2 (ua1) (D1) (D1.length)) := L27.out.go (by omega) hB
  have hb35 : Hid (Below w.heap.size w v2) := hb28.out.trans (hB.mono hb28.out.size)
  have L36 : Hid (MidC (wo21.heap.size) (v2.heap.size) v2 (xa1) (S1) (xc1)) := hX1.midc
  have L37 : Hid (MidC (wo21.heap.size) (v2.heap.size) v2 (ya1) (D1) (yc1)) := hY1.midc
  clear hB hb28 B23 B24 B25 L26 L27 hX1 hY1
  clear h2
  have n38 := Abx.new v2 (.bool C1) (.slice xa1 S1.length xc1) (.slice ya1 D1.length yc1)
  have l39 := (n38).c0
  have l40 := (n38).c1
  have l41 := (n38).c2
  have l42 := ((B32.out.al (.cells #[.bool C1, .slice xa1 S1.length xc1, .slice ya1 D1.length yc1] 24))).c0
  have l43 := ((B32.out.al (.cells #[.bool C1, .slice xa1 S1.length xc1, .slice ya1 D1.length yc1] 24))).c1
  have l44 := ((B32.out.al (.cells #[.bool C1, .slice xa1 S1.length xc1, .slice ya1 D1.length yc1] 24))).c2
  go_wp2_with fail
  obtain ⟨wo45, hwo45⟩ : ∃ wo45, wo45 = (v2.alloc (.cells #[.bool C1, .slice xa1 S1.length xc1, .slice ya1 D1.length yc1] 24)) := ⟨_, rfl⟩
  rw [← hwo45]
  have z46 : v2.heap.size + 1 ≤ wo45.heap.size := by rw [hwo45]; simp only [World.size_alloc]; omega
  have B47 : Hid (Abx wo45 (w.heap.size) (.bool c1) (.slice sa1 sz1.length sc1) (.slice da1 dz1.length dc1)) := by rw [hwo45]; exact (B30.out.al (.cells #[.bool C1, .slice xa1 S1.length xc1, .slice ya1 D1.length yc1] 24))
  have B48 : Hid (Abx wo45 (w.heap.size + 1) (.bool c2) (.slice sa2 sz2.length sc2) (.slice da2 dz2.length dc2)) := by rw [hwo45]; exact (B31.out.al (.cells #[.bool C1, .slice xa1 S1.length xc1, .slice ya1 D1.length yc1] 24))
  have B49 : Hid (Abx wo45 (v1.heap.size) (.bool C1) (.slice ta1 S1.length tc1) (.slice ua1 D1.length uc1)) := by rw [hwo45]; exact (B32.out.al (.cells #[.bool C1, .slice xa1 S1.length xc1, .slice ya1 D1.length yc1] 24))
  have B50 : Hid (Abx wo45 (v2.heap.size) (.bool C1) (.slice xa1 S1.length xc1) (.slice ya1 D1.length yc1)) := by rw [hwo45]; exact n38
  have L51 : Hid (MidC (wo6.heap.size) (v1.heap.size) wo45 (ta1) (S1) (S1.length)) := by rw [hwo45]; exact (L33.out.al (by omega) (.cells #[.bool C1, .slice xa1 S1.length xc1, .slice ya1 D1.length yc1] 24))
  have L52 : Hid (MidC (wo6.heap.size) (v1.heap.size) wo45 (ua1) (D1) (D1.length)) := by rw [hwo45]; exact (L34.out.al (by omega) (.cells #[.bool C1, .slice xa1 S1.length xc1, .slice ya1 D1.length yc1] 24))
  have L53 : Hid (MidC (wo21.heap.size) (v2.heap.size) wo45 (xa1) (S1) (xc1)) := by rw [hwo45]; exact (L36.out.al (by omega) (.cells #[.bool C1, .slice xa1 S1.length xc1, .slice ya1 D1.length yc1] 24))
  have L54 : Hid (MidC (wo21.heap.size) (v2.heap.size) wo45 (ya1) (D1) (yc1)) := by rw [hwo45]; exact (L37.out.al (by omega) (.cells #[.bool C1, .slice xa1 S1.length xc1, .slice ya1 D1.length yc1] 24))
  have hb55 : Hid (Below w.heap.size w wo45) := by rw [hwo45]; exact (hb35.out.alloc (by omega) (.cells #[.bool C1, .slice xa1 S1.length xc1, .slice ya1 D1.length yc1] 24))
  have zwo45 : w.heap.size ≤ wo45.heap.size := hb55.out.size
  clear hwo45 n38 l39 l40 l41 l42 l43 l44 hb35 B30 B31 B32 L33 L34 L36 L37
  refine (is_same E1 C1 S1 D1 xa1 xc1 ya1 yc1 ta1 tc1 ua1 uc1 (Nat.le_trans HL1.out.1 (by decide)) (Nat.le_trans HL1.out.2 (by decide)) _ (HG.out.go hb55.out) (L53.out.is (by omega)).1 (L54.out.is (by omega)).1 (L51.out.is (by omega)).1 (L52.out.is (by omega)).1).mono ?_
  rintro e v3 ⟨rfl, hB⟩
  have z56 : wo45.heap.size ≤ v3.heap.size := hB.size
  have B57 : Hid (Abx v3 (w.heap.size) (.bool c1) (.slice sa1 sz1.length sc1) (.slice da1 dz1.length dc1)) := B47.out.go hB
  have B58 : Hid (Abx v3 (w.heap.size + 1) (.bool c2) (.slice sa2 sz2.length sc2) (.slice da2 dz2.length dc2)) := B48.out.go hB
  have B59 : Hid (Abx v3 (v1.heap.size) (.bool C1) (.slice ta1 S1.length tc1) (.slice ua1 D1.length uc1)) := B49.out.go hB
  have B60 : Hid (Abx v3 (v2.heap.size) (.bool C1) (.slice xa1 S1.length xc1) (.slice ya1 D1.length yc1)) := B50.out.go hB
  have L61 : Hid (MidC (wo6.heap.size) (v1.heap.size) v3 (ta1) (S1) (S1.length)) := L51.out.go (by omega) hB
  have L62 : Hid (MidC (wo6.heap.size) (v1.heap.size) v3 (ua1) (D1) (D1.length)) := L52.out.go (by omega) hB
  have L63 : Hid (MidC (wo21.heap.size) (v2.heap.size) v3 (xa1) (S1) (xc1)) := L53.out.go (by omega) hB
  have L64 : Hid (MidC (wo21.heap.size) (v2.heap.size) v3 (ya1) (D1) (yc1)) := L54.out.go (by omega) hB
  have hb65 : Hid (Below w.heap.size w v3) := hb55.out.trans (hB.mono hb55.out.size)
  clear hB hb55 B47 B48 B49 B50 L51 L52 L53 L54
  clear L63 L64 L61 L62
  have l66 := (B57.out).c0
  have l67 := (B57.out).c1
  have l68 := (B57.out).c2
  have l69 := (B58.out).c0
  have l70 := (B58.out).c1
  have l71 := (B58.out).c2
  go_wp2_with fail
  clear l66 l67 l68 l69 l70 l71
  have h1 := shared_any c1 sa1 sc1 sz1 da1 dc1 dz1 c2 sa2 sc2 sz2 da2 dc2 dz2 false x11 x12 x21 x22 _ ((HI1.out.1.1.below hb65.out).mono hb65.out.size) ((HI1.out.2.1.1.below hb65.out).mono hb65.out.size) ((HI2.out.1.1.below hb65.out).mono hb65.out.size) ((HI2.out.2.1.1.below hb65.out).mono hb65.out.size)
  rw [← HN2.out.1, ← HN2.out.2.1, ← HN2.out.2.2.1, ← HN2.out.2.2.2] at h1
  replace h1 := h1.mono fun _ _ h => UR.c h
  refine (h1).mono ?_
  rintro e v4 ⟨ta2, tc2, ua2, uc2, rfl, hT2, hU2, hB⟩
  have z72 : v3.heap.size ≤ v4.heap.size := hB.size
  have B73 : Hid (Abx v4 (w.heap.size) (.bool c1) (.slice sa1 sz1.length sc1) (.slice da1 dz1.length dc1)) := B57.out.go hB
  have B74 : Hid (Abx v4 (w.heap.size + 1) (.bool c2) (.slice sa2 sz2.length sc2) (.slice da2 dz2.length dc2)) := B58.out.go hB
  have B75 : Hid (Abx v4 (v1.heap.size) (.bool C1) (.slice ta1 S1.length tc1) (.slice ua1 D1.length uc1)) := B59.out.go hB
  have B76 : Hid (Abx v4 (v2.heap.size) (.bool C1) (.slice xa1 S1.length xc1) (.slice ya1 D1.length yc1)) := B60.out.go hB
  have hb77 : Hid (Below w.heap.size w v4) := hb65.out.trans (hB.mono hb65.out.size)
  have L78 : Hid (MidC (v3.heap.size) (v4.heap.size) v4 (ta2) (S2) (S2.length)) := hT2.midc
  have L79 : Hid (MidC (v3.heap.size) (v4.heap.size) v4 (ua2) (D2) (D2.length)) := hU2.midc
  clear hB hb65 B57 B58 B59 B60 hT2 hU2
  clear h1
  have l80 := (B75.out).fr 0
  have l81 := (B75.out).c0
  have l82 := (B75.out).fr 1
  have l83 := (B75.out).c1
  have l84 := (B75.out).fr 2
  have l85 := (B75.out).c2
  have l86 := ((abx_o3 B73.out (B := v1.heap.size) (by omega) (.bool C2) (.slice ta2 S2.length tc2) (.slice ua2 D2.length uc2))).c0
  have l87 := ((abx_o3 B73.out (B := v1.heap.size) (by omega) (.bool C2) (.slice ta2 S2.length tc2) (.slice ua2 D2.length uc2))).c1
  have l88 := ((abx_o3 B73.out (B := v1.heap.size) (by omega) (.bool C2) (.slice ta2 S2.length tc2) (.slice ua2 D2.length uc2))).c2
  have l89 := ((abx_o3 B74.out (B := v1.heap.size) (by omega) (.bool C2) (.slice ta2 S2.length tc2) (.slice ua2 D2.length uc2))).c0
  have l90 := ((abx_o3 B74.out (B := v1.heap.size) (by omega) (.bool C2) (.slice ta2 S2.length tc2) (.slice ua2 D2.length uc2))).c1
  have l91 := ((abx_o3 B74.out (B := v1.heap.size) (by omega) (.bool C2) (.slice ta2 S2.length tc2) (.slice ua2 D2.length uc2))).c2
  go_wp2_with fail
  obtain ⟨wo92, hwo92⟩ : ∃ wo92, wo92 = (((v4.setCell ⟨v1.heap.size, 0, none⟩ (.bool C2)).setCell ⟨v1.heap.size, 1, none⟩ (.slice ta2 S2.length tc2)).setCell ⟨v1.heap.size, 2, none⟩ (.slice ua2 D2.length uc2)) := ⟨_, rfl⟩
  rw [← hwo92]
  have z93 : v4.heap.size ≤ wo92.heap.size := by rw [hwo92]; simp only [World.size_setCell]; omega
  have B94 : Hid (Abx wo92 (w.heap.size) (.bool c1) (.slice sa1 sz1.length sc1) (.slice da1 dz1.length dc1)) := by rw [hwo92]; exact (abx_o3 B73.out (B := v1.heap.size) (by omega) (.bool C2) (.slice ta2 S2.length tc2) (.slice ua2 D2.length uc2))
  have B95 : Hid (Abx wo92 (w.heap.size + 1) (.bool c2) (.slice sa2 sz2.length sc2) (.slice da2 dz2.length dc2)) := by rw [hwo92]; exact (abx_o3 B74.out (B := v1.heap.size) (by omega) (.bool C2) (.slice ta2 S2.length tc2) (.slice ua2 D2.length uc2))
  have B96 : Hid (Abx wo92 (v1.heap.size) (.bool C2) (.slice ta2 S2.length tc2) (.slice ua2 D2.length uc2)) := by rw [hwo92]; exact (B75.out.set3 (.bool C2) (.slice ta2 S2.length tc2) (.slice ua2 D2.length uc2))
  have B97 : Hid (Abx wo92 (v2.heap.size) (.bool C1) (.slice xa1 S1.length xc1) (.slice ya1 D1.length yc1)) := by rw [hwo92]; exact (abx_o3 B76.out (B := v1.heap.size) (by omega) (.bool C2) (.slice ta2 S2.length tc2) (.slice ua2 D2.length uc2))
  have L98 : Hid (MidC (v3.heap.size) (v4.heap.size) wo92 (ta2) (S2) (S2.length)) := by rw [hwo92]; exact (L78.out.s3 (b := v1.heap.size) (by omega) (.bool C2) (.slice ta2 S2.length tc2) (.slice ua2 D2.length uc2))
  have L99 : Hid (MidC (v3.heap.size) (v4.heap.size) wo92 (ua2) (D2) (D2.length)) := by rw [hwo92]; exact (L79.out.s3 (b := v1.heap.size) (by omega) (.bool C2) (.slice ta2 S2.length tc2) (.slice ua2 D2.length uc2))
  have hb100 : Hid (Below w.heap.size w wo92) := by rw [hwo92]; exact (bel_s3 hb77.out (B := v1.heap.size) (by omega) (.bool C2) (.slice ta2 S2.length tc2) (.slice ua2 D2.length uc2))
  have zwo92 : w.heap.size ≤ wo92.heap.size := hb100.out.size
  clear hwo92 l80 l81 l82 l83 l84 l85 l86 l87 l88 l89 l90 l91 hb77 B73 B74 B75 B76 L78 L79
  have h2 := HWo c1 sa1 sc1 sz1 da1 dc1 dz1 c2 sa2 sc2 sz2 da2 dc2 dz2 _ x11 x12 x21 x22 ((HI1.out.1.1.below hb100.out).mono hb100.out.size) ((HI1.out.2.1.1.below hb100.out).mono hb100.out.size) ((HI2.out.1.1.below hb100.out).mono hb100.out.size) ((HI2.out.2.1.1.below hb100.out).mono hb100.out.size) HI1.out.2.2 HI2.out.2.2
  rw [← HN2.out.1, ← HN2.out.2.1, ← HN2.out.2.2.1, ← HN2.out.2.2.2] at h2
  refine (h2).mono ?_
  rintro e v5 ⟨xa2, xc2, ya2, yc2, rfl, hX2, hY2, hB⟩
  have z101 : wo92.heap.size ≤ v5.heap.size := hB.size
  have B102 : Hid (Abx v5 (w.heap.size) (.bool c1) (.slice sa1 sz1.length sc1) (.slice da1 dz1.length dc1)) := B94.out.go hB
  have B103 : Hid (Abx v5 (w.heap.size + 1) (.bool c2) (.slice sa2 sz2.length sc2) (.slice da2 dz2.length dc2)) := B95.out.go hB
  have B104 : Hid (Abx v5 (v1.heap.size) (.bool C2) (.slice ta2 S2.length tc2) (.slice ua2 D2.length uc2)) := B96.out.go hB
  have B105 : Hid (Abx v5 (v2.heap.size) (.bool C1) (.slice xa1 S1.length xc1) (.slice ya1 D1.length yc1)) := B97.out.go hB
  have L106 : Hid (MidC (v3.heap.size) (v4.heap.size) v5 (ta2) (S2) (S2.length)) := L98.out.go (by omega) hB
  have L107 : Hid (MidC (v3.heap.size) (v4.heap.size) v5 (ua2) (D2) (D2.length)) := L99.out.go (by omega) hB
  have hb108 : Hid (Below w.heap.size w v5) := hb100.out.trans (hB.mono hb100.out.size)
  have L109 : Hid (MidC (wo92.heap.size) (v5.heap.size) v5 (xa2) (S2) (xc2)) := hX2.midc
  have L110 : Hid (MidC (wo92.heap.size) (v5.heap.size) v5 (ya2) (D2) (yc2)) := hY2.midc
  clear hB hb100 B94 B95 B96 B97 L98 L99 hX2 hY2
  clear h2
  have l111 := (B105.out).fr 0
  have l112 := (B105.out).c0
  have l113 := (B105.out).fr 1
  have l114 := (B105.out).c1
  have l115 := (B105.out).fr 2
  have l116 := (B105.out).c2
  have l117 := ((B105.out.set3 (.bool C2) (.slice xa2 S2.length xc2) (.slice ya2 D2.length yc2))).c0
  have l118 := ((B105.out.set3 (.bool C2) (.slice xa2 S2.length xc2) (.slice ya2 D2.length yc2))).c1
  have l119 := ((B105.out.set3 (.bool C2) (.slice xa2 S2.length xc2) (.slice ya2 D2.length yc2))).c2
  have l120 := ((abx_o3 B104.out (B := v2.heap.size) (by omega) (.bool C2) (.slice xa2 S2.length xc2) (.slice ya2 D2.length yc2))).c0
  have l121 := ((abx_o3 B104.out (B := v2.heap.size) (by omega) (.bool C2) (.slice xa2 S2.length xc2) (.slice ya2 D2.length yc2))).c1
  have l122 := ((abx_o3 B104.out (B := v2.heap.size) (by omega) (.bool C2) (.slice xa2 S2.length xc2) (.slice ya2 D2.length yc2))).c2
  go_wp2_with fail
  obtain ⟨wo123, hwo123⟩ : ∃ wo123, wo123 = (((v5.setCell ⟨v2.heap.size, 0, none⟩ (.bool C2)).setCell ⟨v2.heap.size, 1, none⟩ (.slice xa2 S2.length xc2)).setCell ⟨v2.heap.size, 2, none⟩ (.slice ya2 D2.length yc2)) := ⟨_, rfl⟩
  rw [← hwo123]
  have z124 : v5.heap.size ≤ wo123.heap.size := by rw [hwo123]; simp only [World.size_setCell]; omega
  have B125 : Hid (Abx wo123 (w.heap.size) (.bool c1) (.slice sa1 sz1.length sc1) (.slice da1 dz1.length dc1)) := by rw [hwo123]; exact (abx_o3 B102.out (B := v2.heap.size) (by omega) (.bool C2) (.slice xa2 S2.length xc2) (.slice ya2 D2.length yc2))
  have B126 : Hid (Abx wo123 (w.heap.size + 1) (.bool c2) (.slice sa2 sz2.length sc2) (.slice da2 dz2.length dc2)) := by rw [hwo123]; exact (abx_o3 B103.out (B := v2.heap.size) (by omega) (.bool C2) (.slice xa2 S2.length xc2) (.slice ya2 D2.length yc2))
  have B127 : Hid (Abx wo123 (v1.heap.size) (.bool C2) (.slice ta2 S2.length tc2) (.slice ua2 D2.length uc2)) := by rw [hwo123]; exact (abx_o3 B104.out (B := v2.heap.size) (by omega) (.bool C2) (.slice xa2 S2.length xc2) (.slice ya2 D2.length yc2))
  have B128 : Hid (Abx wo123 (v2.heap.size) (.bool C2) (.slice xa2 S2.length xc2) (.slice ya2 D2.length yc2)) := by rw [hwo123]; exact (B105.out.set3 (.bool C2) (.slice xa2 S2.length xc2) (.slice ya2 D2.length yc2))
  have L129 : Hid (MidC (v3.heap.size) (v4.heap.size) wo123 (ta2) (S2) (S2.length)) := by rw [hwo123]; exact (L106.out.s3 (b := v2.heap.size) (by omega) (.bool C2) (.slice xa2 S2.length xc2) (.slice ya2 D2.length yc2))
  have L130 : Hid (MidC (v3.heap.size) (v4.heap.size) wo123 (ua2) (D2) (D2.length)) := by rw [hwo123]; exact (L107.out.s3 (b := v2.heap.size) (by omega) (.bool C2) (.slice xa2 S2.length xc2) (.slice ya2 D2.length yc2))
  have L131 : Hid (MidC (wo92.heap.size) (v5.heap.size) wo123 (xa2) (S2) (xc2)) := by rw [hwo123]; exact (L109.out.s3 (b := v2.heap.size) (by omega) (.bool C2) (.slice xa2 S2.length xc2) (.slice ya2 D2.length yc2))
  have L132 : Hid (MidC (wo92.heap.size) (v5.heap.size) wo123 (ya2) (D2) (yc2)) := by rw [hwo123]; exact (L110.out.s3 (b := v2.heap.size) (by omega) (.bool C2) (.slice xa2 S2.length xc2) (.slice ya2 D2.length yc2))
  have hb133 : Hid (Below w.heap.size w wo123) := by rw [hwo123]; exact (bel_s3 hb108.out (B := v2.heap.size) (by omega) (.bool C2) (.slice xa2 S2.length xc2) (.slice ya2 D2.length yc2))
  have zwo123 : w.heap.size ≤ wo123.heap.size := hb133.out.size
  clear hwo123 l111 l112 l113 l114 l115 l116 l117 l118 l119 l120 l121 l122 hb108 B102 B103 B104 B105 L106 L107 L109 L110
  refine (is_same E2 C2 S2 D2 xa2 xc2 ya2 yc2 ta2 tc2 ua2 uc2 (Nat.le_trans HL2.out.1 (by decide)) (Nat.le_trans HL2.out.2 (by decide)) _ (HG.out.go hb133.out) (L131.out.is (by omega)).1 (L132.out.is (by omega)).1 (L129.out.is (by omega)).1 (L130.out.is (by omega)).1).mono ?_
  rintro e v6 ⟨rfl, hB⟩
  have z134 : wo123.heap.size ≤ v6.heap.size := hB.size
  have B135 : Hid (Abx v6 (w.heap.size) (.bool c1) (.slice sa1 sz1.length sc1) (.slice da1 dz1.length dc1)) := B125.out.go hB
  have B136 : Hid (Abx v6 (w.heap.size + 1) (.bool c2) (.slice sa2 sz2.length sc2) (.slice da2 dz2.length dc2)) := B126.out.go hB
  have B137 : Hid (Abx v6 (v1.heap.size) (.bool C2) (.slice ta2 S2.length tc2) (.slice ua2 D2.length uc2)) := B127.out.go hB
  have B138 : Hid (Abx v6 (v2.heap.size) (.bool C2) (.slice xa2 S2.length xc2) (.slice ya2 D2.length yc2)) := B128.out.go hB
  have L139 : Hid (MidC (v3.heap.size) (v4.heap.size) v6 (ta2) (S2) (S2.length)) := L129.out.go (by omega) hB
  have L140 : Hid (MidC (v3.heap.size) (v4.heap.size) v6 (ua2) (D2) (D2.length)) := L130.out.go (by omega) hB
  have L141 : Hid (MidC (wo92.heap.size) (v5.heap.size) v6 (xa2) (S2) (xc2)) := L131.out.go (by omega) hB
  have L142 : Hid (MidC (wo92.heap.size) (v5.heap.size) v6 (ya2) (D2) (yc2)) := L132.out.go (by omega) hB
  have hb143 : Hid (Below w.heap.size w v6) := hb133.out.trans (hB.mono hb133.out.size)
  clear hB hb133 B125 B126 B127 B128 L129 L130 L131 L132
  clear L141 L142 L139 L140
  have l144 := (B135.out).c0
  have l145 := (B135.out).c1
  have l146 := (B135.out).c2
  have l147 := (B136.out).c0
  have l148 := (B136.out).c1
  have l149 := (B136.out).c2
  go_wp2_with fail
  clear l144 l145 l146 l147 l148 l149
  have h1 := shared_any c1 sa1 sc1 sz1 da1 dc1 dz1 c2 sa2 sc2 sz2 da2 dc2 dz2 true x11 x12 x21 x22 _ ((HI1.out.1.1.below hb143.out).mono hb143.out.size) ((HI1.out.2.1.1.below hb143.out).mono hb143.out.size) ((HI2.out.1.1.below hb143.out).mono hb143.out.size) ((HI2.out.2.1.1.below hb143.out).mono hb143.out.size)
  rw [← HN3.out.1, ← HN3.out.2.1, ← HN3.out.2.2.1, ← HN3.out.2.2.2] at h1
  replace h1 := h1.mono fun _ _ h => UR.c h
  refine (h1).mono ?_
  rintro e v7 ⟨ta3, tc3, ua3, uc3, rfl, hT3, hU3, hB⟩
  have z150 : v6.heap.size ≤ v7.heap.size := hB.size
  have B151 : Hid (Abx v7 (w.heap.size) (.bool c1) (.slice sa1 sz1.length sc1) (.slice da1 dz1.length dc1)) := B135.out.go hB
  have B152 : Hid (Abx v7 (w.heap.size + 1) (.bool c2) (.slice sa2 sz2.length sc2) (.slice da2 dz2.length dc2)) := B136.out.go hB
  have B153 : Hid (Abx v7 (v1.heap.size) (.bool C2) (.slice ta2 S2.length tc2) (.slice ua2 D2.length uc2)) := B137.out.go hB
  have B154 : Hid (Abx v7 (v2.heap.size) (.bool C2) (.slice xa2 S2.length xc2) (.slice ya2 D2.length yc2)) := B138.out.go hB
  have hb155 : Hid (Below w.heap.size w v7) := hb143.out.trans (hB.mono hb143.out.size)
  have L156 : Hid (MidC (v6.heap.size) (v7.heap.size) v7 (ta3) (S3) (S3.length)) := hT3.midc
  have L157 : Hid (MidC (v6.heap.size) (v7.heap.size) v7 (ua3) (D3) (D3.length)) := hU3.midc
  clear hB hb143 B135 B136 B137 B138 hT3 hU3
  clear h1
  have l158 := (B153.out).fr 0
  have l159 := (B153.out).c0
  have l160 := (B153.out).fr 1
  have l161 := (B153.out).c1
  have l162 := (B153.out).fr 2
  have l163 := (B153.out).c2
  have l164 := ((abx_o3 B151.out (B := v1.heap.size) (by omega) (.bool C3) (.slice ta3 S3.length tc3) (.slice ua3 D3.length uc3))).c0
  have l165 := ((abx_o3 B151.out (B := v1.heap.size) (by omega) (.bool C3) (.slice ta3 S3.length tc3) (.slice ua3 D3.length uc3))).c1
  have l166 := ((abx_o3 B151.out (B := v1.heap.size) (by omega) (.bool C3) (.slice ta3 S3.length tc3) (.slice ua3 D3.length uc3))).c2
  have l167 := ((abx_o3 B152.out (B := v1.heap.size) (by omega) (.bool C3) (.slice ta3 S3.length tc3) (.slice ua3 D3.length uc3))).c0
  have l168 := ((abx_o3 B152.out (B := v1.heap.size) (by omega) (.bool C3) (.slice ta3 S3.length tc3) (.slice ua3 D3.length uc3))).c1
  have l169 := ((abx_o3 B152.out (B := v1.heap.size) (by omega) (.bool C3) (.slice ta3 S3.length tc3) (.slice ua3 D3.length uc3))).c2
  go_wp2_with fail
  obtain ⟨wo170, hwo170⟩ : ∃ wo170, wo170 = (((v7.setCell ⟨v1.heap.size, 0, none⟩ (.bool C3)).setCell ⟨v1.heap.size, 1, none⟩ (.slice ta3 S3.length tc3)).setCell ⟨v1.heap.size, 2, none⟩ (.slice ua3 D3.length uc3)) := ⟨_, rfl⟩
  rw [← hwo170]
  have z171 : v7.heap.size ≤ wo170.heap.size := by rw [hwo170]; simp only [World.size_setCell]; omega
  have B172 : Hid (Abx wo170 (w.heap.size) (.bool c1) (.slice sa1 sz1.length sc1) (.slice da1 dz1.length dc1)) := by rw [hwo170]; exact (abx_o3 B151.out (B := v1.heap.size) (by omega) (.bool C3) (.slice ta3 S3.length tc3) (.slice ua3 D3.length uc3))
  have B173 : Hid (Abx wo170 (w.heap.size + 1) (.bool c2) (.slice sa2 sz2.length sc2) (.slice da2 dz2.length dc2)) := by rw [hwo170]; exact (abx_o3 B152.out (B := v1.heap.size) (by omega) (.bool C3) (.slice ta3 S3.length tc3) (.slice ua3 D3.length uc3))
  have B174 : Hid (Abx wo170 (v1.heap.size) (.bool C3) (.slice ta3 S3.length tc3) (.slice ua3 D3.length uc3)) := by rw [hwo170]; exact (B153.out.set3 (.bool C3) (.slice ta3 S3.length tc3) (.slice ua3 D3.length uc3))
  have B175 : Hid (Abx wo170 (v2.heap.size) (.bool C2) (.slice xa2 S2.length xc2) (.slice ya2 D2.length yc2)) := by rw [hwo170]; exact (abx_o3 B154.out (B := v1.heap.size) (by omega) (.bool C3) (.slice ta3 S3.length tc3) (.slice ua3 D3.length uc3))
  have L176 : Hid (MidC (v6.heap.size) (v7.heap.size) wo170 (ta3) (S3) (S3.length)) := by rw [hwo170]; exact (L156.out.s3 (b := v1.heap.size) (by omega) (.bool C3) (.slice ta3 S3.length tc3) (.slice ua3 D3.length uc3))
  have L177 : Hid (MidC (v6.heap.size) (v7.heap.size) wo170 (ua3) (D3) (D3.length)) := by rw [hwo170]; exact (L157.out.s3 (b := v1.heap.size) (by omega) (.bool C3) (.slice ta3 S3.length tc3) (.slice ua3 D3.length uc3))
  have hb178 : Hid (Below w.heap.size w wo170) := by rw [hwo170]; exact (bel_s3 hb155.out (B := v1.heap.size) (by omega) (.bool C3) (.slice ta3 S3.length tc3) (.slice ua3 D3.length uc3))
  have zwo170 : w.heap.size ≤ wo170.heap.size := hb178.out.size
  clear hwo170 l158 l159 l160 l161 l162 l163 l164 l165 l166 l167 l168 l169 hb155 B151 B152 B153 B154 L156 L157
  have h2 := HMt c1 sa1 sc1 sz1 da1 dc1 dz1 c2 sa2 sc2 sz2 da2 dc2 dz2 _ x11 x12 x21 x22 ((HI1.out.1.1.below hb178.out).mono hb178.out.size) ((HI1.out.2.1.1.below hb178.out).mono hb178.out.size) ((HI2.out.1.1.below hb178.out).mono hb178.out.size) ((HI2.out.2.1.1.below hb178.out).mono hb178.out.size) HI1.out.2.2 HI2.out.2.2
  rw [← HN3.out.1, ← HN3.out.2.1, ← HN3.out.2.2.1, ← HN3.out.2.2.2] at h2
  refine (h2).mono ?_
  rintro e v8 ⟨xa3, xc3, ya3, yc3, rfl, hX3, hY3, hB⟩
  have z179 : wo170.heap.size ≤ v8.heap.size := hB.size
  have B180 : Hid (Abx v8 (w.heap.size) (.bool c1) (.slice sa1 sz1.length sc1) (.slice da1 dz1.length dc1)) := B172.out.go hB
  have B181 : Hid (Abx v8 (w.heap.size + 1) (.bool c2) (.slice sa2 sz2.length sc2) (.slice da2 dz2.length dc2)) := B173.out.go hB
  have B182 : Hid (Abx v8 (v1.heap.size) (.bool C3) (.slice ta3 S3.length tc3) (.slice ua3 D3.length uc3)) := B174.out.go hB
  have B183 : Hid (Abx v8 (v2.heap.size) (.bool C2) (.slice xa2 S2.length xc2) (.slice ya2 D2.length yc2)) := B175.out.go hB
  have L184 : Hid (MidC (v6.heap.size) (v7.heap.size) v8 (ta3) (S3) (S3.length)) := L176.out.go (by omega) hB
  have L185 : Hid (MidC (v6.heap.size) (v7.heap.size) v8 (ua3) (D3) (D3.length)) := L177.out.go (by omega) hB
  have hb186 : Hid (Below w.heap.size w v8) := hb178.out.trans (hB.mono hb178.out.size)
  have L187 : Hid (MidC (wo170.heap.size) (v8.heap.size) v8 (xa3) (S3) (xc3)) := hX3.midc
  have L188 : Hid (MidC (wo170.heap.size) (v8.heap.size) v8 (ya3) (D3) (yc3)) := hY3.midc
  clear hB hb178 B172 B173 B174 B175 L176 L177 hX3 hY3
  clear h2
  have l189 := (B183.out).fr 0
  have l190 := (B183.out).c0
  have l191 := (B183.out).fr 1
  have l192 := (B183.out).c1
  have l193 := (B183.out).fr 2
  have l194 := (B183.out).c2
  have l195 := ((B183.out.set3 (.bool C3) (.slice xa3 S3.length xc3) (.slice ya3 D3.length yc3))).c0
  have l196 := ((B183.out.set3 (.bool C3) (.slice xa3 S3.length xc3) (.slice ya3 D3.length yc3))).c1
  have l197 := ((B183.out.set3 (.bool C3) (.slice xa3 S3.length xc3) (.slice ya3 D3.length yc3))).c2
  have l198 := ((abx_o3 B182.out (B := v2.heap.size) (by omega) (.bool C3) (.slice xa3 S3.length xc3) (.slice ya3 D3.length yc3))).c0
  have l199 := ((abx_o3 B182.out (B := v2.heap.size) (by omega) (.bool C3) (.slice xa3 S3.length xc3) (.slice ya3 D3.length yc3))).c1
  have l200 := ((abx_o3 B182.out (B := v2.heap.size) (by omega) (.bool C3) (.slice xa3 S3.length xc3) (.slice ya3 D3.length yc3))).c2
  go_wp2_with fail
  obtain ⟨wo201, hwo201⟩ : ∃ wo201, wo201 = (((v8.setCell ⟨v2.heap.size, 0, none⟩ (.bool C3)).setCell ⟨v2.heap.size, 1, none⟩ (.slice xa3 S3.length xc3)).setCell ⟨v2.heap.size, 2, none⟩ (.slice ya3 D3.length yc3)) := ⟨_, rfl⟩
  rw [← hwo201]
  have z202 : v8.heap.size ≤ wo201.heap.size := by rw [hwo201]; simp only [World.size_setCell]; omega
  have B203 : Hid (Abx wo201 (w.heap.size) (.bool c1) (.slice sa1 sz1.length sc1) (.slice da1 dz1.length dc1)) := by rw [hwo201]; exact (abx_o3 B180.out (B := v2.heap.size) (by omega) (.bool C3) (.slice xa3 S3.length xc3) (.slice ya3 D3.length yc3))
  have B204 : Hid (Abx wo201 (w.heap.size + 1) (.bool c2) (.slice sa2 sz2.length sc2) (.slice da2 dz2.length dc2)) := by rw [hwo201]; exact (abx_o3 B181.out (B := v2.heap.size) (by omega) (.bool C3) (.slice xa3 S3.length xc3) (.slice ya3 D3.length yc3))
  have B205 : Hid (Abx wo201 (v1.heap.size) (.bool C3) (.slice ta3 S3.length tc3) (.slice ua3 D3.length uc3)) := by rw [hwo201]; exact (abx_o3 B182.out (B := v2.heap.size) (by omega) (.bool C3) (.slice xa3 S3.length xc3) (.slice ya3 D3.length yc3))
  have B206 : Hid (Abx wo201 (v2.heap.size) (.bool C3) (.slice xa3 S3.length xc3) (.slice ya3 D3.length yc3)) := by rw [hwo201]; exact (B183.out.set3 (.bool C3) (.slice xa3 S3.length xc3) (.slice ya3 D3.length yc3))
  have L207 : Hid (MidC (v6.heap.size) (v7.heap.size) wo201 (ta3) (S3) (S3.length)) := by rw [hwo201]; exact (L184.out.s3 (b := v2.heap.size) (by omega) (.bool C3) (.slice xa3 S3.length xc3) (.slice ya3 D3.length yc3))
  have L208 : Hid (MidC (v6.heap.size) (v7.heap.size) wo201 (ua3) (D3) (D3.length)) := by rw [hwo201]; exact (L185.out.s3 (b := v2.heap.size) (by omega) (.bool C3) (.slice xa3 S3.length xc3) (.slice ya3 D3.length yc3))
  have L209 : Hid (MidC (wo170.heap.size) (v8.heap.size) wo201 (xa3) (S3) (xc3)) := by rw [hwo201]; exact (L187.out.s3 (b := v2.heap.size) (by omega) (.bool C3) (.slice xa3 S3.length xc3) (.slice ya3 D3.length yc3))
  have L210 : Hid (MidC (wo170.heap.size) (v8.heap.size) wo201 (ya3) (D3) (yc3)) := by rw [hwo201]; exact (L188.out.s3 (b := v2.heap.size) (by omega) (.bool C3) (.slice xa3 S3.length xc3) (.slice ya3 D3.length yc3))
  have hb211 : Hid (Below w.heap.size w wo201) := by rw [hwo201]; exact (bel_s3 hb186.out (B := v2.heap.size) (by omega) (.bool C3) (.slice xa3 S3.length xc3) (.slice ya3 D3.length yc3))
  have zwo201 : w.heap.size ≤ wo201.heap.size := hb211.out.size
  clear hwo201 l189 l190 l191 l192 l193 l194 l195 l196 l197 l198 l199 l200 hb186 B180 B181 B182 B183 L184 L185 L187 L188
  refine (is_same E3 C3 S3 D3 xa3 xc3 ya3 yc3 ta3 tc3 ua3 uc3 (Nat.le_trans HL3.out.1 (by decide)) (Nat.le_trans HL3.out.2 (by decide)) _ (HG.out.go hb211.out) (L209.out.is (by omega)).1 (L210.out.is (by omega)).1 (L207.out.is (by omega)).1 (L208.out.is (by omega)).1).mono ?_
  rintro e v9 ⟨rfl, hB⟩
  have z212 : wo201.heap.size ≤ v9.heap.size := hB.size
  have B213 : Hid (Abx v9 (w.heap.size) (.bool c1) (.slice sa1 sz1.length sc1) (.slice da1 dz1.length dc1)) := B203.out.go hB
  have B214 : Hid (Abx v9 (w.heap.size + 1) (.bool c2) (.slice sa2 sz2.length sc2) (.slice da2 dz2.length dc2)) := B204.out.go hB
  have B215 : Hid (Abx v9 (v1.heap.size) (.bool C3) (.slice ta3 S3.length tc3) (.slice ua3 D3.length uc3)) := B205.out.go hB
  have B216 : Hid (Abx v9 (v2.heap.size) (.bool C3) (.slice xa3 S3.length xc3) (.slice ya3 D3.length yc3)) := B206.out.go hB
  have L217 : Hid (MidC (v6.heap.size) (v7.heap.size) v9 (ta3) (S3) (S3.length)) := L207.out.go (by omega) hB
  have L218 : Hid (MidC (v6.heap.size) (v7.heap.size) v9 (ua3) (D3) (D3.length)) := L208.out.go (by omega) hB
  have L219 : Hid (MidC (wo170.heap.size) (v8.heap.size) v9 (xa3) (S3) (xc3)) := L209.out.go (by omega) hB
  have L220 : Hid (MidC (wo170.heap.size) (v8.heap.size) v9 (ya3) (D3) (yc3)) := L210.out.go (by omega) hB
  have hb221 : Hid (Below w.heap.size w v9) := hb211.out.trans (hB.mono hb211.out.size)
  clear hB hb211 B203 B204 B205 B206 L207 L208 L209 L210
  clear L219 L220 L217 L218
  have l222 := (B213.out).c0
  have l223 := (B213.out).c1
  have l224 := (B213.out).c2
  have l225 := (B214.out).c0
  have l226 := (B214.out).c1
  have l227 := (B214.out).c2
  go_wp2_with fail
  clear l222 l223 l224 l225 l226 l227
  have h1 := united_any c1 sa1 sc1 sz1 da1 dc1 dz1 c2 sa2 sc2 sz2 da2 dc2 dz2 x11 x12 x21 x22 _ ((HI1.out.1.1.below hb221.out).mono hb221.out.size) ((HI1.out.2.1.1.below hb221.out).mono hb221.out.size) ((HI2.out.1.1.below hb221.out).mono hb221.out.size) ((HI2.out.2.1.1.below hb221.out).mono hb221.out.size)
  rw [← HN4.out.1, ← HN4.out.2.1, ← HN4.out.2.2.1, ← HN4.out.2.2.2] at h1
  replace h1 := h1.mono fun _ _ h => UR.c h
  refine (h1).mono ?_
  rintro e v10 ⟨ta4, tc4, ua4, uc4, rfl, hT4, hU4, hB⟩
  have z228 : v9.heap.size ≤ v10.heap.size := hB.size
  have B229 : Hid (Abx v10 (w.heap.size) (.bool c1) (.slice sa1 sz1.length sc1) (.slice da1 dz1.length dc1)) := B213.out.go hB
  have B230 : Hid (Abx v10 (w.heap.size + 1) (.bool c2) (.slice sa2 sz2.length sc2) (.slice da2 dz2.length dc2)) := B214.out.go hB
  have B231 : Hid (Abx v10 (v1.heap.size) (.bool C3) (.slice ta3 S3.length tc3) (.slice ua3 D3.length uc3)) := B215.out.go hB
  have B232 : Hid (Abx v10 (v2.heap.size) (.bool C3) (.slice xa3 S3.length xc3) (.slice ya3 D3.length yc3)) := B216.out.go hB
  have hb233 : Hid (Below w.heap.size w v10) := hb221.out.trans (hB.mono hb221.out.size)
  have L234 : Hid (MidC (v9.heap.size) (v10.heap.size) v10 (ta4) (S4) (S4.length)) := hT4.midc
  have L235 : Hid (MidC (v9.heap.size) (v10.heap.size) v10 (ua4) (D4) (D4.length)) := hU4.midc
  clear hB hb221 B213 B214 B215 B216 hT4 hU4
  clear h1
  have l236 := (B231.out).fr 0
  have l237 := (B231.out).c0
  have l238 := (B231.out).fr 1
  have l239 := (B231.out).c1
  have l240 := (B231.out).fr 2
  have l241 := (B231.out).c2
  have l242 := ((abx_o3 B229.out (B := v1.heap.size) (by omega) (.bool C4) (.slice ta4 S4.length tc4) (.slice ua4 D4.length uc4))).c0
  have l243 := ((abx_o3 B229.out (B := v1.heap.size) (by omega) (.bool C4) (.slice ta4 S4.length tc4) (.slice ua4 D4.length uc4))).c1
  have l244 := ((abx_o3 B229.out (B := v1.heap.size) (by omega) (.bool C4) (.slice ta4 S4.length tc4) (.slice ua4 D4.length uc4))).c2
  have l245 := ((abx_o3 B230.out (B := v1.heap.size) (by omega) (.bool C4) (.slice ta4 S4.length tc4) (.slice ua4 D4.length uc4))).c0
  have l246 := ((abx_o3 B230.out (B := v1.heap.size) (by omega) (.bool C4) (.slice ta4 S4.length tc4) (.slice ua4 D4.length uc4))).c1
  have l247 := ((abx_o3 B230.out (B := v1.heap.size) (by omega) (.bool C4) (.slice ta4 S4.length tc4) (.slice ua4 D4.length uc4))).c2
  go_wp2_with fail
  obtain ⟨wo248, hwo248⟩ : ∃ wo248, wo248 = (((v10.setCell ⟨v1.heap.size, 0, none⟩ (.bool C4)).setCell ⟨v1.heap.size, 1, none⟩ (.slice ta4 S4.length tc4)).setCell ⟨v1.heap.size, 2, none⟩ (.slice ua4 D4.length uc4)) := ⟨_, rfl⟩
  rw [← hwo248]
  have z249 : v10.heap.size ≤ wo248.heap.size := by rw [hwo248]; simp only [World.size_setCell]; omega
  have B250 : Hid (Abx wo248 (w.heap.size) (.bool c1) (.slice sa1 sz1.length sc1) (.slice da1 dz1.length dc1)) := by rw [hwo248]; exact (abx_o3 B229.out (B := v1.heap.size) (by omega) (.bool C4) (.slice ta4 S4.length tc4) (.slice ua4 D4.length uc4))
  have B251 : Hid (Abx wo248 (w.heap.size + 1) (.bool c2) (.slice sa2 sz2.length sc2) (.slice da2 dz2.length dc2)) := by rw [hwo248]; exact (abx_o3 B230.out (B := v1.heap.size) (by omega) (.bool C4) (.slice ta4 S4.length tc4) (.slice ua4 D4.length uc4))
  have B252 : Hid (Abx wo248 (v1.heap.size) (.bool C4) (.slice ta4 S4.length tc4) (.slice ua4 D4.length uc4)) := by rw [hwo248]; exact (B231.out.set3 (.bool C4) (.slice ta4 S4.length tc4) (.slice ua4 D4.length uc4))
  have B253 : Hid (Abx wo248 (v2.heap.size) (.bool C3) (.slice xa3 S3.length xc3) (.slice ya3 D3.length yc3)) := by rw [hwo248]; exact (abx_o3 B232.out (B := v1.heap.size) (by omega) (.bool C4) (.slice ta4 S4.length tc4) (.slice ua4 D4.length uc4))
  have L254 : Hid (MidC (v9.heap.size) (v10.heap.size) wo248 (ta4) (S4) (S4.length)) := by rw [hwo248]; exact (L234.out.s3 (b := v1.heap.size) (by omega) (.bool C4) (.slice ta4 S4.length tc4) (.slice ua4 D4.length uc4))
  have L255 : Hid (MidC (v9.heap.size) (v10.heap.size) wo248 (ua4) (D4) (D4.length)) := by rw [hwo248]; exact (L235.out.s3 (b := v1.heap.size) (by omega) (.bool C4) (.slice ta4 S4.length tc4) (.slice ua4 D4.length uc4))
  have hb256 : Hid (Below w.heap.size w wo248) := by rw [hwo248]; exact (bel_s3 hb233.out (B := v1.heap.size) (by omega) (.bool C4) (.slice ta4 S4.length tc4) (.slice ua4 D4.length uc4))
  have zwo248 : w.heap.size ≤ wo248.heap.size := hb256.out.size
  clear hwo248 l236 l237 l238 l239 l240 l241 l242 l243 l244 l245 l246 l247 hb233 B229 B230 B231 B232 L234 L235
  have h2 := HUn c1 sa1 sc1 sz1 da1 dc1 dz1 c2 sa2 sc2 sz2 da2 dc2 dz2 _ x11 x12 x21 x22 ((HI1.out.1.1.below hb256.out).mono hb256.out.size) ((HI1.out.2.1.1.below hb256.out).mono hb256.out.size) ((HI2.out.1.1.below hb256.out).mono hb256.out.size) ((HI2.out.2.1.1.below hb256.out).mono hb256.out.size) HI1.out.2.2 HI2.out.2.2
  rw [← HN4.out.1, ← HN4.out.2.1, ← HN4.out.2.2.1, ← HN4.out.2.2.2] at h2
  refine (h2).mono ?_
  rintro e v11 ⟨xa4, xc4, ya4, yc4, rfl, hX4, hY4, hB⟩
  have z257 : wo248.heap.size ≤ v11.heap.size := hB.size
  have B258 : Hid (Abx v11 (w.heap.size) (.bool c1) (.slice sa1 sz1.length sc1) (.slice da1 dz1.length dc1)) := B250.out.go hB
  have B259 : Hid (Abx v11 (w.heap.size + 1) (.bool c2) (.slice sa2 sz2.length sc2) (.slice da2 dz2.length dc2)) := B251.out.go hB
  have B260 : Hid (Abx v11 (v1.heap.size) (.bool C4) (.slice ta4 S4.length tc4) (.slice ua4 D4.length uc4)) := B252.out.go hB
  have B261 : Hid (Abx v11 (v2.heap.size) (.bool C3) (.slice xa3 S3.length xc3) (.slice ya3 D3.length yc3)) := B253.out.go hB
  have L262 : Hid (MidC (v9.heap.size) (v10.heap.size) v11 (ta4) (S4) (S4.length)) := L254.out.go (by omega) hB
  have L263 : Hid (MidC (v9.heap.size) (v10.heap.size) v11 (ua4) (D4) (D4.length)) := L255.out.go (by omega) hB
  have hb264 : Hid (Below w.heap.size w v11) := hb256.out.trans (hB.mono hb256.out.size)
  have L265 : Hid (MidC (wo248.heap.size) (v11.heap.size) v11 (xa4) (S4) (xc4)) := hX4.midc
  have L266 : Hid (MidC (wo248.heap.size) (v11.heap.size) v11 (ya4) (D4) (yc4)) := hY4.midc
  clear hB hb256 B250 B251 B252 B253 L254 L255 hX4 hY4
  clear h2
  have l267 := (B261.out).fr 0
  have l268 := (B261.out).c0
  have l269 := (B261.out).fr 1
  have l270 := (B261.out).c1
  have l271 := (B261.out).fr 2
  have l272 := (B261.out).c2
  have l273 := ((B261.out.set3 (.bool C4) (.slice xa4 S4.length xc4) (.slice ya4 D4.length yc4))).c0
  have l274 := ((B261.out.set3 (.bool C4) (.slice xa4 S4.length xc4) (.slice ya4 D4.length yc4))).c1
  have l275 := ((B261.out.set3 (.bool C4) (.slice xa4 S4.length xc4) (.slice ya4 D4.length yc4))).c2
  have l276 := ((abx_o3 B260.out (B := v2.heap.size) (by omega) (.bool C4) (.slice xa4 S4.length xc4) (.slice ya4 D4.length yc4))).c0
  have l277 := ((abx_o3 B260.out (B := v2.heap.size) (by omega) (.bool C4) (.slice xa4 S4.length xc4) (.slice ya4 D4.length yc4))).c1
  have l278 := ((abx_o3 B260.out (B := v2.heap.size) (by omega) (.bool C4) (.slice xa4 S4.length xc4) (.slice ya4 D4.length yc4))).c2
  go_wp2_with fail
  obtain ⟨wo279, hwo279⟩ : ∃ wo279, wo279 = (((v11.setCell ⟨v2.heap.size, 0, none⟩ (.bool C4)).setCell ⟨v2.heap.size, 1, none⟩ (.slice xa4 S4.length xc4)).setCell ⟨v2.heap.size, 2, none⟩ (.slice ya4 D4.length yc4)) := ⟨_, rfl⟩
  rw [← hwo279]
  have z280 : v11.heap.size ≤ wo279.heap.size := by rw [hwo279]; simp only [World.size_setCell]; omega
  have B281 : Hid (Abx wo279 (w.heap.size) (.bool c1) (.slice sa1 sz1.length sc1) (.slice da1 dz1.length dc1)) := by rw [hwo279]; exact (abx_o3 B258.out (B := v2.heap.size) (by omega) (.bool C4) (.slice xa4 S4.length xc4) (.slice ya4 D4.length yc4))
  have B282 : Hid (Abx wo279 (w.heap.size + 1) (.bool c2) (.slice sa2 sz2.length sc2) (.slice da2 dz2.length dc2)) := by rw [hwo279]; exact (abx_o3 B259.out (B := v2.heap.size) (by omega) (.bool C4) (.slice xa4 S4.length xc4) (.slice ya4 D4.length yc4))
  have B283 : Hid (Abx wo279 (v1.heap.size) (.bool C4) (.slice ta4 S4.length tc4) (.slice ua4 D4.length uc4)) := by rw [hwo279]; exact (abx_o3 B260.out (B := v2.heap.size) (by omega) (.bool C4) (.slice xa4 S4.length xc4) (.slice ya4 D4.length yc4))
  have B284 : Hid (Abx wo279 (v2.heap.size) (.bool C4) (.slice xa4 S4.length xc4) (.slice ya4 D4.length yc4)) := by rw [hwo279]; exact (B261.out.set3 (.bool C4) (.slice xa4 S4.length xc4) (.slice ya4 D4.length yc4))
  have L285 : Hid (MidC (v9.heap.size) (v10.heap.size) wo279 (ta4) (S4) (S4.length)) := by rw [hwo279]; exact (L262.out.s3 (b := v2.heap.size) (by omega) (.bool C4) (.slice xa4 S4.length xc4) (.slice ya4 D4.length yc4))
  have L286 : Hid (MidC (v9.heap.size) (v10.heap.size) wo279 (ua4) (D4) (D4.length)) := by rw [hwo279]; exact (L263.out.s3 (b := v2.heap.size) (by omega) (.bool C4) (.slice xa4 S4.length xc4) (.slice ya4 D4.length yc4))
  have L287 : Hid (MidC (wo248.heap.size) (v11.heap.size) wo279 (xa4) (S4) (xc4)) := by rw [hwo279]; exact (L265.out.s3 (b := v2.heap.size) (by omega) (.bool C4) (.slice xa4 S4.length xc4) (.slice ya4 D4.length yc4))
  have L288 : Hid (MidC (wo248.heap.size) (v11.heap.size) wo279 (ya4) (D4) (yc4)) := by rw [hwo279]; exact (L266.out.s3 (b := v2.heap.size) (by omega) (.bool C4) (.slice xa4 S4.length xc4) (.slice ya4 D4.length yc4))
  have hb289 : Hid (Below w.heap.size w wo279) := by rw [hwo279]; exact (bel_s3 hb264.out (B := v2.heap.size) (by omega) (.bool C4) (.slice xa4 S4.length xc4) (.slice ya4 D4.length yc4))
  have zwo279 : w.heap.size ≤ wo279.heap.size := hb289.out.size
  clear hwo279 l267 l268 l269 l270 l271 l272 l273 l274 l275 l276 l277 l278 hb264 B258 B259 B260 B261 L262 L263 L265 L266
  refine (is_same E4 C4 S4 D4 xa4 xc4 ya4 yc4 ta4 tc4 ua4 uc4 (Nat.le_trans HL4.out.1 (by decide)) (Nat.le_trans HL4.out.2 (by decide)) _ (HG.out.go hb289.out) (L287.out.is (by omega)).1 (L288.out.is (by omega)).1 (L285.out.is (by omega)).1 (L286.out.is (by omega)).1).mono ?_
  rintro e v12 ⟨rfl, hB⟩
  have z290 : wo279.heap.size ≤ v12.heap.size := hB.size
  have B291 : Hid (Abx v12 (w.heap.size) (.bool c1) (.slice sa1 sz1.length sc1) (.slice da1 dz1.length dc1)) := B281.out.go hB
  have B292 : Hid (Abx v12 (w.heap.size + 1) (.bool c2) (.slice sa2 sz2.length sc2) (.slice da2 dz2.length dc2)) := B282.out.go hB
  have B293 : Hid (Abx v12 (v1.heap.size) (.bool C4) (.slice ta4 S4.length tc4) (.slice ua4 D4.length uc4)) := B283.out.go hB
  have B294 : Hid (Abx v12 (v2.heap.size) (.bool C4) (.slice xa4 S4.length xc4) (.slice ya4 D4.length yc4)) := B284.out.go hB
  have L295 : Hid (MidC (v9.heap.size) (v10.heap.size) v12 (ta4) (S4) (S4.length)) := L285.out.go (by omega) hB
  have L296 : Hid (MidC (v9.heap.size) (v10.heap.size) v12 (ua4) (D4) (D4.length)) := L286.out.go (by omega) hB
  have L297 : Hid (MidC (wo248.heap.size) (v11.heap.size) v12 (xa4) (S4) (xc4)) := L287.out.go (by omega) hB
  have L298 : Hid (MidC (wo248.heap.size) (v11.heap.size) v12 (ya4) (D4) (yc4)) := L288.out.go (by omega) hB
  have hb299 : Hid (Below w.heap.size w v12) := hb289.out.trans (hB.mono hb289.out.size)
  clear hB hb289 B281 B282 B283 B284 L285 L286 L287 L288
  clear L297 L298 L295 L296
  go_wp2_with fail
  go_ret
  exact ⟨rfl, hb299.out⟩
end Go.Proofs.YteieliajdfbipaaDoor
