/-
  The walk of the statement GradeMixed, given what the program tells.
-/
import Derived.Test.YteddkfeiikdekaaGral
import Derived.Test.YteddkfeiikdekaaTurnw
import Derived.Deep.QuietTactic
import Derived.BigQuiet
import Derived.WalkSmall
import Derived.Deep.RegionWith
namespace Go.Proofs.Yteddkfeiikdekaa
open Go.RowKit
set_option linter.unusedVariables false

set_option maxRecDepth 100000 in
set_option maxHeartbeats 8000000 in
theorem mixed_no (HS : CSo) (HU : CUp) (HA : CAt) (c1 : Bool) (sa1 : Option Addr) (sc1 : Nat) (sz1 : List Int) (da1 : Option Addr) (dc1 : Nat) (dz1 : List Int) (pa : Option Addr) (pc : Nat) (p : List Int) (hp9 : p.length ≤ 9223372036854775807) (w : World) (w8 : IsArrD w sa1 sz1 sc1 da1 dz1 dc1) (wp : IsInts w.heap.size w pa p) (F1 : Hid (gdE c1 sz1 dz1 ≠ 0)) :
    Calls Try.prog 6 #[.agg #[.bool c1, .slice sa1 sz1.length sc1, .slice da1 dz1.length dc1], .slice pa p.length pc] w fun e w' => e = .returned (.bool true) ∧ Below w.heap.size w w' := by
  obtain ⟨x11, x12, x3, x4, s64, T⟩ := w8
  have HI1 : Hid (IsC w.heap.size w sa1 sz1 sc1 ∧ IsC w.heap.size w da1 dz1 dc1 ∧ (∀ j, In64 (nth sz1 j)) ∧ ∀ j, In64 (nth dz1 j)) := ⟨x3, x4, s64, T⟩
  clear x3 x4 T s64
  have HPP : Hid (IsInts w.heap.size w pa p) := wp
  clear wp
  have n1 := Abx.new w (.bool c1) (.slice sa1 sz1.length sc1) (.slice da1 dz1.length dc1)
  have n2 := lit_mid (w.alloc (.cells #[.bool c1, .slice sa1 sz1.length sc1, .slice da1 dz1.length dc1] 24)) 3 [5, 3, 4] 3 rfl
  simp only [World.size_alloc, List.map_cons, List.map_nil] at n2
  go_enter Try.func6, Try.ntmps6
  go_wp2_with fail
  obtain ⟨wo3, hwo3⟩ : ∃ wo3, wo3 = ((w.alloc (.cells #[.bool c1, .slice sa1 sz1.length sc1, .slice da1 dz1.length dc1] 24)).alloc (.cells #[.int .i64 5, .int .i64 3, .int .i64 4] 3)) := ⟨_, rfl⟩
  rw [← hwo3]
  have z4 : w.heap.size + 1 + 1 ≤ wo3.heap.size := by rw [hwo3]; simp only [World.size_alloc]; omega
  have B5 : Hid (Abx wo3 (w.heap.size) (.bool c1) (.slice sa1 sz1.length sc1) (.slice da1 dz1.length dc1)) := by rw [hwo3]; exact (n1.al (.cells #[.int .i64 5, .int .i64 3, .int .i64 4] 3))
  have L6 : Hid (MidC (w.heap.size + 1) (w.heap.size + 1 + 1) wo3 (some ⟨w.heap.size + 1, 0, none⟩) ([5, 3, 4]) (3)) := by rw [hwo3]; exact n2
  have hb7 : Hid (Below w.heap.size w wo3) := by rw [hwo3]; exact (((Below.refl w.heap.size w).alloc (by omega) (.cells #[.bool c1, .slice sa1 sz1.length sc1, .slice da1 dz1.length dc1] 24)).alloc (by simp only [World.size_alloc]; omega) (.cells #[.int .i64 5, .int .i64 3, .int .i64 4] 3))
  have zwo3 : w.heap.size ≤ wo3.heap.size := hb7.out.size
  clear hwo3 n1 n2
  refine (vec_c (some ⟨w.heap.size + 1, 0, none⟩) 3 [5, 3, 4] (by simp) _ (L6.out.is (by omega)).1).mono ?_
  rintro e v1 ⟨vap, vcp, gap, gcp, rfl, hVp, hGp, hB⟩
  have z8 : wo3.heap.size ≤ v1.heap.size := hB.size
  have B9 : Hid (Abx v1 (w.heap.size) (.bool c1) (.slice sa1 sz1.length sc1) (.slice da1 dz1.length dc1)) := B5.out.go hB
  have L10 : Hid (MidC (w.heap.size + 1) (w.heap.size + 1 + 1) v1 (some ⟨w.heap.size + 1, 0, none⟩) ([5, 3, 4]) (3)) := L6.out.go (by omega) hB
  have hb11 : Hid (Below w.heap.size w v1) := hb7.out.trans (hB.mono hb7.out.size)
  have L12 : Hid (MidC (wo3.heap.size) (v1.heap.size) v1 (vap) ([(3 : Int)]) (vcp)) := hVp.midc
  have L13 : Hid (MidC (wo3.heap.size) (v1.heap.size) v1 (gap) ([5, 3, 4]) (gcp)) := hGp.midc
  clear hB hb7 B5 L6 hVp hGp
  clear L10
  go_wp2_with fail
  refine (sow_ok false vap vcp [(3 : Int)] 1 rfl gap gcp [5, 3, 4] 3 rfl _ (by decide) (by decide) (L12.out.is (by omega)) (L13.out.is (by omega)) [3, 4, 5] HS (by decide)).mono ?_
  rintro e v2 ⟨f1, g1, f2, g2, rfl, hX0, hY0, hB⟩
  have z14 : v1.heap.size ≤ v2.heap.size := hB.size
  have B15 : Hid (Abx v2 (w.heap.size) (.bool c1) (.slice sa1 sz1.length sc1) (.slice da1 dz1.length dc1)) := B9.out.go hB
  have L16 : Hid (MidC (wo3.heap.size) (v1.heap.size) v2 (vap) ([(3 : Int)]) (vcp)) := L12.out.go (by omega) hB
  have L17 : Hid (MidC (wo3.heap.size) (v1.heap.size) v2 (gap) ([5, 3, 4]) (gcp)) := L13.out.go (by omega) hB
  have hb18 : Hid (Below w.heap.size w v2) := hb11.out.trans (hB.mono hb11.out.size)
  have L19 : Hid (MidC (v1.heap.size) (v2.heap.size) v2 (f1) ([(3 : Int)]) (g1)) := hX0.midc
  have L20 : Hid (MidC (v1.heap.size) (v2.heap.size) v2 (f2) ([3, 4, 5]) (g2)) := hY0.midc
  clear hB hb11 B9 L12 L13 hX0 hY0
  clear L16 L17
  have n21 := Abx.new v2 (.bool false) (.slice f1 1 g1) (.slice f2 3 g2)
  have l22 := (n21).c0
  have l23 := (n21).c1
  have l24 := (n21).c2
  have n25 := lit_mid (v2.alloc (.cells #[.bool false, .slice f1 1 g1, .slice f2 3 g2] 24)) 3 [3, 4, 5] 3 rfl
  simp only [World.size_alloc, List.map_cons, List.map_nil] at n25
  go_wp2_with fail
  obtain ⟨wo26, hwo26⟩ : ∃ wo26, wo26 = ((v2.alloc (.cells #[.bool false, .slice f1 1 g1, .slice f2 3 g2] 24)).alloc (.cells #[.int .i64 3, .int .i64 4, .int .i64 5] 3)) := ⟨_, rfl⟩
  rw [← hwo26]
  have z27 : v2.heap.size + 1 + 1 ≤ wo26.heap.size := by rw [hwo26]; simp only [World.size_alloc]; omega
  have B28 : Hid (Abx wo26 (w.heap.size) (.bool c1) (.slice sa1 sz1.length sc1) (.slice da1 dz1.length dc1)) := by rw [hwo26]; exact ((B15.out.al (.cells #[.bool false, .slice f1 1 g1, .slice f2 3 g2] 24)).al (.cells #[.int .i64 3, .int .i64 4, .int .i64 5] 3))
  have B29 : Hid (Abx wo26 (v2.heap.size) (.bool false) (.slice f1 1 g1) (.slice f2 3 g2)) := by rw [hwo26]; exact (n21.al (.cells #[.int .i64 3, .int .i64 4, .int .i64 5] 3))
  have L30 : Hid (MidC (v1.heap.size) (v2.heap.size) wo26 (f1) ([(3 : Int)]) (g1)) := by rw [hwo26]; exact ((L19.out.al (by omega) (.cells #[.bool false, .slice f1 1 g1, .slice f2 3 g2] 24)).al (by simp only [World.size_alloc]; omega) (.cells #[.int .i64 3, .int .i64 4, .int .i64 5] 3))
  have L31 : Hid (MidC (v1.heap.size) (v2.heap.size) wo26 (f2) ([3, 4, 5]) (g2)) := by rw [hwo26]; exact ((L20.out.al (by omega) (.cells #[.bool false, .slice f1 1 g1, .slice f2 3 g2] 24)).al (by simp only [World.size_alloc]; omega) (.cells #[.int .i64 3, .int .i64 4, .int .i64 5] 3))
  have L32 : Hid (MidC (v2.heap.size + 1) (v2.heap.size + 1 + 1) wo26 (some ⟨v2.heap.size + 1, 0, none⟩) ([3, 4, 5]) (3)) := by rw [hwo26]; exact n25
  have hb33 : Hid (Below w.heap.size w wo26) := by rw [hwo26]; exact ((hb18.out.alloc (by omega) (.cells #[.bool false, .slice f1 1 g1, .slice f2 3 g2] 24)).alloc (by simp only [World.size_alloc]; omega) (.cells #[.int .i64 3, .int .i64 4, .int .i64 5] 3))
  have zwo26 : w.heap.size ≤ wo26.heap.size := hb33.out.size
  clear hwo26 n21 l22 l23 l24 n25 hb18 B15 L19 L20
  refine (ints_any f2 g2 [3, 4, 5] (some ⟨v2.heap.size + 1, 0, none⟩) 3 [3, 4, 5] (by simp) _ _ (L31.out.is (by omega)).1 (L32.out.is (by omega)).1).mono ?_
  rintro e v3 ⟨rfl, hB⟩
  have z34 : wo26.heap.size ≤ v3.heap.size := hB.size
  have B35 : Hid (Abx v3 (w.heap.size) (.bool c1) (.slice sa1 sz1.length sc1) (.slice da1 dz1.length dc1)) := B28.out.go hB
  have B36 : Hid (Abx v3 (v2.heap.size) (.bool false) (.slice f1 1 g1) (.slice f2 3 g2)) := B29.out.go hB
  have L37 : Hid (MidC (v1.heap.size) (v2.heap.size) v3 (f1) ([(3 : Int)]) (g1)) := L30.out.go (by omega) hB
  have L38 : Hid (MidC (v1.heap.size) (v2.heap.size) v3 (f2) ([3, 4, 5]) (g2)) := L31.out.go (by omega) hB
  have L39 : Hid (MidC (v2.heap.size + 1) (v2.heap.size + 1 + 1) v3 (some ⟨v2.heap.size + 1, 0, none⟩) ([3, 4, 5]) (3)) := L32.out.go (by omega) hB
  have hb40 : Hid (Below w.heap.size w v3) := hb33.out.trans (hB.mono hb33.out.size)
  clear hB hb33 B28 B29 L30 L31 L32
  rw [eqB_true rfl]
  clear L37 L38 L39 B36
  have l41 := (B35.out).c0
  have l42 := (B35.out).c1
  have l43 := (B35.out).c2
  go_wp2_with fail
  clear l41 l42 l43
  refine (sow_no c1 sa1 sc1 sz1 sz1.length rfl da1 dc1 dz1 dz1.length rfl _ x11 x12 ((HI1.out.1.below hb40.out).mono hb40.out.size) ((HI1.out.2.1.below hb40.out).mono hb40.out.size) HS F1.out).mono ?_
  rintro e v4 ⟨xa1, xc1, ya1, yc1, rfl, hB⟩
  have z44 : v3.heap.size ≤ v4.heap.size := hB.size
  have B45 : Hid (Abx v4 (w.heap.size) (.bool c1) (.slice sa1 sz1.length sc1) (.slice da1 dz1.length dc1)) := B35.out.go hB
  have hb46 : Hid (Below w.heap.size w v4) := hb40.out.trans (hB.mono hb40.out.size)
  clear hB hb40 B35
  have n47 := Abx.new v4 (.bool false) (.slice xa1 0 xc1) (.slice ya1 0 yc1)
  go_wp2_with fail
  obtain ⟨wo48, hwo48⟩ : ∃ wo48, wo48 = (v4.alloc (.cells #[.bool false, .slice xa1 0 xc1, .slice ya1 0 yc1] 24)) := ⟨_, rfl⟩
  rw [← hwo48]
  have z49 : v4.heap.size + 1 ≤ wo48.heap.size := by rw [hwo48]; simp only [World.size_alloc]; omega
  have B50 : Hid (Abx wo48 (w.heap.size) (.bool c1) (.slice sa1 sz1.length sc1) (.slice da1 dz1.length dc1)) := by rw [hwo48]; exact (B45.out.al (.cells #[.bool false, .slice xa1 0 xc1, .slice ya1 0 yc1] 24))
  have B51 : Hid (Abx wo48 (v4.heap.size) (.bool false) (.slice xa1 0 xc1) (.slice ya1 0 yc1)) := by rw [hwo48]; exact n47
  have hb52 : Hid (Below w.heap.size w wo48) := by rw [hwo48]; exact (hb46.out.alloc (by omega) (.cells #[.bool false, .slice xa1 0 xc1, .slice ya1 0 yc1] 24))
  have zwo48 : w.heap.size ≤ wo48.heap.size := hb52.out.size
  clear hwo48 n47 hb46 B45
  go_wp2_with fail
  go_ret
  exact ⟨rfl, hb52.out⟩
set_option maxRecDepth 100000 in
set_option maxHeartbeats 8000000 in
theorem mixed_ok (HS : CSo) (HU : CUp) (HA : CAt) (c1 : Bool) (sa1 : Option Addr) (sc1 : Nat) (sz1 : List Int) (da1 : Option Addr) (dc1 : Nat) (dz1 : List Int) (pa : Option Addr) (pc : Nat) (p : List Int) (hp9 : p.length ≤ 9223372036854775807) (w : World) (w8 : IsArrD w sa1 sz1 sc1 da1 dz1 dc1) (wp : IsInts w.heap.size w pa p) (F1 : Hid (gdE c1 sz1 dz1 = 0)) (F2 : Hid ((ordB p = true ∧ p.length = nR sz1))) :
    Calls Try.prog 6 #[.agg #[.bool c1, .slice sa1 sz1.length sc1, .slice da1 dz1.length dc1], .slice pa p.length pc] w fun e w' => e = .returned (.bool true) ∧ Below w.heap.size w w' := by
  have T1 := w8.2.2.2.2.2
  have hfl := flawE_short (gdE_zero.1 F1.out).1
  have hs6 : sz1.length ≤ 6 := hfl.1
  have hd4 : dz1.length ≤ 4096 := hfl.2
  have HAI : Hid (AllIn sz1) := (errOf_zero.1 (flawE_zero (gdE_zero.1 F1.out).1).1).2.1
  have hz1' : 0 < sz1.length := (gdE_zero.1 F1.out).2
  obtain ⟨l0, t0, HL0⟩ : ∃ l0 t0, Hid (sz1 = l0 :: t0) := by cases hq : sz1 with | nil => rw [hq] at hz1'; simp at hz1' | cons l t => exact ⟨l, t, rfl⟩
  obtain ⟨O, hO⟩ : ∃ O, O = gdO false sz1 dz1 := ⟨_, rfl⟩
  obtain ⟨X, hX⟩ : ∃ X, X = gdD sz1 dz1 := ⟨_, rfl⟩
  have oO : IsOrd O := by rw [hO]; exact gdO_ord false sz1 dz1
  have lO : O.length = nR sz1 := by rw [hO]; exact gdO_length
  have hn4 : nR sz1 ≤ 4096 := (nR_is F1.out).2
  have eX : srD dz1 (lR sz1 dz1) O = X := by rw [hX]; unfold gdD; rw [hO]
  have gX := srD_gd F1.out oO lO
  rw [eX] at gX
  have fX := srD_flaw F1.out oO lO
  rw [eX] at fX
  have HX : Hid (gdE c1 sz1 dz1 = 0 ∧ gdD sz1 dz1 = X) := ⟨F1.out, hX.symm⟩
  have HXX : Hid (gdE c1 sz1 X = 0 ∧ gdD sz1 X = X) := ⟨gX.1, by rw [gX.2, hX]⟩
  have hX4 : X.length ≤ 4096 := by omega
  have HO : Hid (gdE c1 sz1 dz1 = 0 ∧ gdO false sz1 dz1 = O) := ⟨F1.out, hO.symm⟩
  have hO4 : O.length ≤ 4096 := by omega
  have HPK : Hid (pkE c1 sz1 dz1 ((false, ([(O.length : Int)], O)) :: ioL t0) = 0 ∧ pkS ((false, ([(O.length : Int)], O)) :: ioL t0) = sz1 ∧ pkD sz1 dz1 ((false, ([(O.length : Int)], O)) :: ioL t0) = X) := by have h := F1.out; have h2 := lO; have h3 := eX; rw [HL0.out] at h h2 h3; rw [HL0.out, ← h3]; exact pick_ord h oO h2
  have HO64 : Hid (∀ j, In64 (nth O j)) := ord_64 oO hO4
  have oP : IsOrd p := (ordB_iff p).1 F2.out.1
  have lP : p.length = nR sz1 := F2.out.2
  have hp4 : p.length ≤ 4096 := by omega
  obtain ⟨Z, hZ⟩ : ∃ Z, Z = srD dz1 (lR sz1 dz1) p := ⟨_, rfl⟩
  have gZ := srD_gd F1.out oP lP
  rw [← hZ] at gZ
  have fZ := srD_flaw F1.out oP lP
  rw [← hZ] at fZ
  have HZ : Hid (gdE c1 sz1 Z = 0 ∧ gdD sz1 Z = X) := ⟨gZ.1, by rw [gZ.2, hX]⟩
  have hZ4 : Z.length ≤ 4096 := by omega
  have HPZ : Hid (pkE c1 sz1 dz1 ((false, ([(p.length : Int)], p)) :: ioL t0) = 0 ∧ pkS ((false, ([(p.length : Int)], p)) :: ioL t0) = sz1 ∧ pkD sz1 dz1 ((false, ([(p.length : Int)], p)) :: ioL t0) = Z) := by have h := F1.out; have h2 := lP; have h3 := hZ; rw [HL0.out] at h h2 h3; rw [HL0.out, h3]; exact pick_ord h oP h2
  have HP64 : Hid (∀ j, In64 (nth p j)) := ord_64 oP hp4
  have HPN : Hid ((p.length : Int) = nth sz1 0) := by show _ = _; rw [(nR_is F1.out).1, lP]
  clear oP lP hZ gZ fZ
  clear hO hX oO lO eX gX fX T1 hfl
  obtain ⟨x11, x12, x3, x4, s64, T⟩ := w8
  have HI1 : Hid (IsC w.heap.size w sa1 sz1 sc1 ∧ IsC w.heap.size w da1 dz1 dc1 ∧ (∀ j, In64 (nth sz1 j)) ∧ ∀ j, In64 (nth dz1 j)) := ⟨x3, x4, s64, T⟩
  clear x3 x4 T s64
  have HPP : Hid (IsInts w.heap.size w pa p) := wp
  clear wp
  have n1 := Abx.new w (.bool c1) (.slice sa1 sz1.length sc1) (.slice da1 dz1.length dc1)
  have n2 := lit_mid (w.alloc (.cells #[.bool c1, .slice sa1 sz1.length sc1, .slice da1 dz1.length dc1] 24)) 3 [5, 3, 4] 3 rfl
  simp only [World.size_alloc, List.map_cons, List.map_nil] at n2
  go_enter Try.func6, Try.ntmps6
  go_wp2_with fail
  obtain ⟨wo3, hwo3⟩ : ∃ wo3, wo3 = ((w.alloc (.cells #[.bool c1, .slice sa1 sz1.length sc1, .slice da1 dz1.length dc1] 24)).alloc (.cells #[.int .i64 5, .int .i64 3, .int .i64 4] 3)) := ⟨_, rfl⟩
  rw [← hwo3]
  have z4 : w.heap.size + 1 + 1 ≤ wo3.heap.size := by rw [hwo3]; simp only [World.size_alloc]; omega
  have B5 : Hid (Abx wo3 (w.heap.size) (.bool c1) (.slice sa1 sz1.length sc1) (.slice da1 dz1.length dc1)) := by rw [hwo3]; exact (n1.al (.cells #[.int .i64 5, .int .i64 3, .int .i64 4] 3))
  have L6 : Hid (MidC (w.heap.size + 1) (w.heap.size + 1 + 1) wo3 (some ⟨w.heap.size + 1, 0, none⟩) ([5, 3, 4]) (3)) := by rw [hwo3]; exact n2
  have hb7 : Hid (Below w.heap.size w wo3) := by rw [hwo3]; exact (((Below.refl w.heap.size w).alloc (by omega) (.cells #[.bool c1, .slice sa1 sz1.length sc1, .slice da1 dz1.length dc1] 24)).alloc (by simp only [World.size_alloc]; omega) (.cells #[.int .i64 5, .int .i64 3, .int .i64 4] 3))
  have zwo3 : w.heap.size ≤ wo3.heap.size := hb7.out.size
  clear hwo3 n1 n2
  refine (vec_c (some ⟨w.heap.size + 1, 0, none⟩) 3 [5, 3, 4] (by simp) _ (L6.out.is (by omega)).1).mono ?_
  rintro e v1 ⟨vap, vcp, gap, gcp, rfl, hVp, hGp, hB⟩
  have z8 : wo3.heap.size ≤ v1.heap.size := hB.size
  have B9 : Hid (Abx v1 (w.heap.size) (.bool c1) (.slice sa1 sz1.length sc1) (.slice da1 dz1.length dc1)) := B5.out.go hB
  have L10 : Hid (MidC (w.heap.size + 1) (w.heap.size + 1 + 1) v1 (some ⟨w.heap.size + 1, 0, none⟩) ([5, 3, 4]) (3)) := L6.out.go (by omega) hB
  have hb11 : Hid (Below w.heap.size w v1) := hb7.out.trans (hB.mono hb7.out.size)
  have L12 : Hid (MidC (wo3.heap.size) (v1.heap.size) v1 (vap) ([(3 : Int)]) (vcp)) := hVp.midc
  have L13 : Hid (MidC (wo3.heap.size) (v1.heap.size) v1 (gap) ([5, 3, 4]) (gcp)) := hGp.midc
  clear hB hb7 B5 L6 hVp hGp
  clear L10
  go_wp2_with fail
  refine (sow_ok false vap vcp [(3 : Int)] 1 rfl gap gcp [5, 3, 4] 3 rfl _ (by decide) (by decide) (L12.out.is (by omega)) (L13.out.is (by omega)) [3, 4, 5] HS (by decide)).mono ?_
  rintro e v2 ⟨f1, g1, f2, g2, rfl, hX0, hY0, hB⟩
  have z14 : v1.heap.size ≤ v2.heap.size := hB.size
  have B15 : Hid (Abx v2 (w.heap.size) (.bool c1) (.slice sa1 sz1.length sc1) (.slice da1 dz1.length dc1)) := B9.out.go hB
  have L16 : Hid (MidC (wo3.heap.size) (v1.heap.size) v2 (vap) ([(3 : Int)]) (vcp)) := L12.out.go (by omega) hB
  have L17 : Hid (MidC (wo3.heap.size) (v1.heap.size) v2 (gap) ([5, 3, 4]) (gcp)) := L13.out.go (by omega) hB
  have hb18 : Hid (Below w.heap.size w v2) := hb11.out.trans (hB.mono hb11.out.size)
  have L19 : Hid (MidC (v1.heap.size) (v2.heap.size) v2 (f1) ([(3 : Int)]) (g1)) := hX0.midc
  have L20 : Hid (MidC (v1.heap.size) (v2.heap.size) v2 (f2) ([3, 4, 5]) (g2)) := hY0.midc
  clear hB hb11 B9 L12 L13 hX0 hY0
  clear L16 L17
  have n21 := Abx.new v2 (.bool false) (.slice f1 1 g1) (.slice f2 3 g2)
  have l22 := (n21).c0
  have l23 := (n21).c1
  have l24 := (n21).c2
  have n25 := lit_mid (v2.alloc (.cells #[.bool false, .slice f1 1 g1, .slice f2 3 g2] 24)) 3 [3, 4, 5] 3 rfl
  simp only [World.size_alloc, List.map_cons, List.map_nil] at n25
  go_wp2_with fail
  obtain ⟨wo26, hwo26⟩ : ∃ wo26, wo26 = ((v2.alloc (.cells #[.bool false, .slice f1 1 g1, .slice f2 3 g2] 24)).alloc (.cells #[.int .i64 3, .int .i64 4, .int .i64 5] 3)) := ⟨_, rfl⟩
  rw [← hwo26]
  have z27 : v2.heap.size + 1 + 1 ≤ wo26.heap.size := by rw [hwo26]; simp only [World.size_alloc]; omega
  have B28 : Hid (Abx wo26 (w.heap.size) (.bool c1) (.slice sa1 sz1.length sc1) (.slice da1 dz1.length dc1)) := by rw [hwo26]; exact ((B15.out.al (.cells #[.bool false, .slice f1 1 g1, .slice f2 3 g2] 24)).al (.cells #[.int .i64 3, .int .i64 4, .int .i64 5] 3))
  have B29 : Hid (Abx wo26 (v2.heap.size) (.bool false) (.slice f1 1 g1) (.slice f2 3 g2)) := by rw [hwo26]; exact (n21.al (.cells #[.int .i64 3, .int .i64 4, .int .i64 5] 3))
  have L30 : Hid (MidC (v1.heap.size) (v2.heap.size) wo26 (f1) ([(3 : Int)]) (g1)) := by rw [hwo26]; exact ((L19.out.al (by omega) (.cells #[.bool false, .slice f1 1 g1, .slice f2 3 g2] 24)).al (by simp only [World.size_alloc]; omega) (.cells #[.int .i64 3, .int .i64 4, .int .i64 5] 3))
  have L31 : Hid (MidC (v1.heap.size) (v2.heap.size) wo26 (f2) ([3, 4, 5]) (g2)) := by rw [hwo26]; exact ((L20.out.al (by omega) (.cells #[.bool false, .slice f1 1 g1, .slice f2 3 g2] 24)).al (by simp only [World.size_alloc]; omega) (.cells #[.int .i64 3, .int .i64 4, .int .i64 5] 3))
  have L32 : Hid (MidC (v2.heap.size + 1) (v2.heap.size + 1 + 1) wo26 (some ⟨v2.heap.size + 1, 0, none⟩) ([3, 4, 5]) (3)) := by rw [hwo26]; exact n25
  have hb33 : Hid (Below w.heap.size w wo26) := by rw [hwo26]; exact ((hb18.out.alloc (by omega) (.cells #[.bool false, .slice f1 1 g1, .slice f2 3 g2] 24)).alloc (by simp only [World.size_alloc]; omega) (.cells #[.int .i64 3, .int .i64 4, .int .i64 5] 3))
  have zwo26 : w.heap.size ≤ wo26.heap.size := hb33.out.size
  clear hwo26 n21 l22 l23 l24 n25 hb18 B15 L19 L20
  refine (ints_any f2 g2 [3, 4, 5] (some ⟨v2.heap.size + 1, 0, none⟩) 3 [3, 4, 5] (by simp) _ _ (L31.out.is (by omega)).1 (L32.out.is (by omega)).1).mono ?_
  rintro e v3 ⟨rfl, hB⟩
  have z34 : wo26.heap.size ≤ v3.heap.size := hB.size
  have B35 : Hid (Abx v3 (w.heap.size) (.bool c1) (.slice sa1 sz1.length sc1) (.slice da1 dz1.length dc1)) := B28.out.go hB
  have B36 : Hid (Abx v3 (v2.heap.size) (.bool false) (.slice f1 1 g1) (.slice f2 3 g2)) := B29.out.go hB
  have L37 : Hid (MidC (v1.heap.size) (v2.heap.size) v3 (f1) ([(3 : Int)]) (g1)) := L30.out.go (by omega) hB
  have L38 : Hid (MidC (v1.heap.size) (v2.heap.size) v3 (f2) ([3, 4, 5]) (g2)) := L31.out.go (by omega) hB
  have L39 : Hid (MidC (v2.heap.size + 1) (v2.heap.size + 1 + 1) v3 (some ⟨v2.heap.size + 1, 0, none⟩) ([3, 4, 5]) (3)) := L32.out.go (by omega) hB
  have hb40 : Hid (Below w.heap.size w v3) := hb33.out.trans (hB.mono hb33.out.size)
  clear hB hb33 B28 B29 L30 L31 L32
  rw [eqB_true rfl]
  clear L37 L38 L39 B36
  have l41 := (B35.out).c0
  have l42 := (B35.out).c1
  have l43 := (B35.out).c2
  go_wp2_with fail
  clear l41 l42 l43
  refine (sow_ok c1 sa1 sc1 sz1 sz1.length rfl da1 dc1 dz1 dz1.length rfl _ x11 x12 ((HI1.out.1.below hb40.out).mono hb40.out.size) ((HI1.out.2.1.below hb40.out).mono hb40.out.size) X HS HX.out).mono ?_
  rintro e v4 ⟨xa1, xc1, ya1, yc1, rfl, hX1, hY1, hB⟩
  have z44 : v3.heap.size ≤ v4.heap.size := hB.size
  have B45 : Hid (Abx v4 (w.heap.size) (.bool c1) (.slice sa1 sz1.length sc1) (.slice da1 dz1.length dc1)) := B35.out.go hB
  have hb46 : Hid (Below w.heap.size w v4) := hb40.out.trans (hB.mono hb40.out.size)
  have L47 : Hid (MidC (v3.heap.size) (v4.heap.size) v4 (xa1) (sz1) (xc1)) := hX1.midc
  have L48 : Hid (MidC (v3.heap.size) (v4.heap.size) v4 (ya1) (X) (yc1)) := hY1.midc
  clear hB hb40 B35 hX1 hY1
  have n49 := Abx.new v4 (.bool c1) (.slice xa1 sz1.length xc1) (.slice ya1 X.length yc1)
  have l50 := (n49).c0
  have l51 := (n49).c1
  have l52 := (n49).c2
  go_wp2_with fail
  obtain ⟨wo53, hwo53⟩ : ∃ wo53, wo53 = (v4.alloc (.cells #[.bool c1, .slice xa1 sz1.length xc1, .slice ya1 X.length yc1] 24)) := ⟨_, rfl⟩
  rw [← hwo53]
  have z54 : v4.heap.size + 1 ≤ wo53.heap.size := by rw [hwo53]; simp only [World.size_alloc]; omega
  have B55 : Hid (Abx wo53 (w.heap.size) (.bool c1) (.slice sa1 sz1.length sc1) (.slice da1 dz1.length dc1)) := by rw [hwo53]; exact (B45.out.al (.cells #[.bool c1, .slice xa1 sz1.length xc1, .slice ya1 X.length yc1] 24))
  have B56 : Hid (Abx wo53 (v4.heap.size) (.bool c1) (.slice xa1 sz1.length xc1) (.slice ya1 X.length yc1)) := by rw [hwo53]; exact n49
  have L57 : Hid (MidC (v3.heap.size) (v4.heap.size) wo53 (xa1) (sz1) (xc1)) := by rw [hwo53]; exact (L47.out.al (by omega) (.cells #[.bool c1, .slice xa1 sz1.length xc1, .slice ya1 X.length yc1] 24))
  have L58 : Hid (MidC (v3.heap.size) (v4.heap.size) wo53 (ya1) (X) (yc1)) := by rw [hwo53]; exact (L48.out.al (by omega) (.cells #[.bool c1, .slice xa1 sz1.length xc1, .slice ya1 X.length yc1] 24))
  have hb59 : Hid (Below w.heap.size w wo53) := by rw [hwo53]; exact (hb46.out.alloc (by omega) (.cells #[.bool c1, .slice xa1 sz1.length xc1, .slice ya1 X.length yc1] 24))
  have zwo53 : w.heap.size ≤ wo53.heap.size := hb59.out.size
  clear hwo53 n49 l50 l51 l52 hb46 B45 L47 L48
  refine (sow_ok c1 xa1 xc1 sz1 sz1.length rfl ya1 yc1 X X.length rfl _ x11 (by omega) (L57.out.is (by omega)) (L58.out.is (by omega)) X HS HXX.out).mono ?_
  rintro e v5 ⟨xa2, xc2, ya2, yc2, rfl, hX2, hY2, hB⟩
  have z60 : wo53.heap.size ≤ v5.heap.size := hB.size
  have B61 : Hid (Abx v5 (w.heap.size) (.bool c1) (.slice sa1 sz1.length sc1) (.slice da1 dz1.length dc1)) := B55.out.go hB
  have B62 : Hid (Abx v5 (v4.heap.size) (.bool c1) (.slice xa1 sz1.length xc1) (.slice ya1 X.length yc1)) := B56.out.go hB
  have L63 : Hid (MidC (v3.heap.size) (v4.heap.size) v5 (xa1) (sz1) (xc1)) := L57.out.go (by omega) hB
  have L64 : Hid (MidC (v3.heap.size) (v4.heap.size) v5 (ya1) (X) (yc1)) := L58.out.go (by omega) hB
  have hb65 : Hid (Below w.heap.size w v5) := hb59.out.trans (hB.mono hb59.out.size)
  have L66 : Hid (MidC (wo53.heap.size) (v5.heap.size) v5 (xa2) (sz1) (xc2)) := hX2.midc
  have L67 : Hid (MidC (wo53.heap.size) (v5.heap.size) v5 (ya2) (X) (yc2)) := hY2.midc
  clear hB hb59 B55 B56 L57 L58 hX2 hY2
  have n68 := Abx.new v5 (.bool c1) (.slice xa2 sz1.length xc2) (.slice ya2 X.length yc2)
  have l69 := (n68).c0
  have l70 := (n68).c1
  have l71 := (n68).c2
  have l72 := ((B62.out.al (.cells #[.bool c1, .slice xa2 sz1.length xc2, .slice ya2 X.length yc2] 24))).c0
  have l73 := ((B62.out.al (.cells #[.bool c1, .slice xa2 sz1.length xc2, .slice ya2 X.length yc2] 24))).c1
  have l74 := ((B62.out.al (.cells #[.bool c1, .slice xa2 sz1.length xc2, .slice ya2 X.length yc2] 24))).c2
  go_wp2_with fail
  obtain ⟨wo75, hwo75⟩ : ∃ wo75, wo75 = (v5.alloc (.cells #[.bool c1, .slice xa2 sz1.length xc2, .slice ya2 X.length yc2] 24)) := ⟨_, rfl⟩
  rw [← hwo75]
  have z76 : v5.heap.size + 1 ≤ wo75.heap.size := by rw [hwo75]; simp only [World.size_alloc]; omega
  have B77 : Hid (Abx wo75 (w.heap.size) (.bool c1) (.slice sa1 sz1.length sc1) (.slice da1 dz1.length dc1)) := by rw [hwo75]; exact (B61.out.al (.cells #[.bool c1, .slice xa2 sz1.length xc2, .slice ya2 X.length yc2] 24))
  have B78 : Hid (Abx wo75 (v4.heap.size) (.bool c1) (.slice xa1 sz1.length xc1) (.slice ya1 X.length yc1)) := by rw [hwo75]; exact (B62.out.al (.cells #[.bool c1, .slice xa2 sz1.length xc2, .slice ya2 X.length yc2] 24))
  have B79 : Hid (Abx wo75 (v5.heap.size) (.bool c1) (.slice xa2 sz1.length xc2) (.slice ya2 X.length yc2)) := by rw [hwo75]; exact n68
  have L80 : Hid (MidC (v3.heap.size) (v4.heap.size) wo75 (xa1) (sz1) (xc1)) := by rw [hwo75]; exact (L63.out.al (by omega) (.cells #[.bool c1, .slice xa2 sz1.length xc2, .slice ya2 X.length yc2] 24))
  have L81 : Hid (MidC (v3.heap.size) (v4.heap.size) wo75 (ya1) (X) (yc1)) := by rw [hwo75]; exact (L64.out.al (by omega) (.cells #[.bool c1, .slice xa2 sz1.length xc2, .slice ya2 X.length yc2] 24))
  have L82 : Hid (MidC (wo53.heap.size) (v5.heap.size) wo75 (xa2) (sz1) (xc2)) := by rw [hwo75]; exact (L66.out.al (by omega) (.cells #[.bool c1, .slice xa2 sz1.length xc2, .slice ya2 X.length yc2] 24))
  have L83 : Hid (MidC (wo53.heap.size) (v5.heap.size) wo75 (ya2) (X) (yc2)) := by rw [hwo75]; exact (L67.out.al (by omega) (.cells #[.bool c1, .slice xa2 sz1.length xc2, .slice ya2 X.length yc2] 24))
  have hb84 : Hid (Below w.heap.size w wo75) := by rw [hwo75]; exact (hb65.out.alloc (by omega) (.cells #[.bool c1, .slice xa2 sz1.length xc2, .slice ya2 X.length yc2] 24))
  have zwo75 : w.heap.size ≤ wo75.heap.size := hb84.out.size
  clear hwo75 n68 l69 l70 l71 l72 l73 l74 hb65 B61 B62 L63 L64 L66 L67
  refine (alike_eq c1 xa2 xc2 sz1 ya2 yc2 X xa1 xc1 sz1 ya1 yc1 X rfl rfl x11 (by omega) _ (L82.out.is (by omega)) (L83.out.is (by omega)).1 (L80.out.is (by omega)) (L81.out.is (by omega)).1).mono ?_
  rintro e v6 ⟨rfl, hB⟩
  have z85 : wo75.heap.size ≤ v6.heap.size := hB.size
  have B86 : Hid (Abx v6 (w.heap.size) (.bool c1) (.slice sa1 sz1.length sc1) (.slice da1 dz1.length dc1)) := B77.out.go hB
  have B87 : Hid (Abx v6 (v4.heap.size) (.bool c1) (.slice xa1 sz1.length xc1) (.slice ya1 X.length yc1)) := B78.out.go hB
  have B88 : Hid (Abx v6 (v5.heap.size) (.bool c1) (.slice xa2 sz1.length xc2) (.slice ya2 X.length yc2)) := B79.out.go hB
  have L89 : Hid (MidC (v3.heap.size) (v4.heap.size) v6 (xa1) (sz1) (xc1)) := L80.out.go (by omega) hB
  have L90 : Hid (MidC (v3.heap.size) (v4.heap.size) v6 (ya1) (X) (yc1)) := L81.out.go (by omega) hB
  have L91 : Hid (MidC (wo53.heap.size) (v5.heap.size) v6 (xa2) (sz1) (xc2)) := L82.out.go (by omega) hB
  have L92 : Hid (MidC (wo53.heap.size) (v5.heap.size) v6 (ya2) (X) (yc2)) := L83.out.go (by omega) hB
  have hb93 : Hid (Below w.heap.size w v6) := hb84.out.trans (hB.mono hb84.out.size)
  clear hB hb84 B77 B78 B79 L80 L81 L82 L83
  clear L91 L92 B88
  have l94 := (B86.out).c0
  have l95 := (B86.out).c1
  have l96 := (B86.out).c2
  go_wp2_with fail
  clear l94 l95 l96
  refine (upw_ok c1 sa1 sc1 sz1 sz1.length rfl da1 dc1 dz1 dz1.length rfl _ x11 x12 ((HI1.out.1.below hb93.out).mono hb93.out.size) ((HI1.out.2.1.below hb93.out).mono hb93.out.size) O HU HO.out).mono ?_
  rintro e v7 ⟨g3, h3, rfl, hN3, hB⟩
  have z97 : v6.heap.size ≤ v7.heap.size := hB.size
  have B98 : Hid (Abx v7 (w.heap.size) (.bool c1) (.slice sa1 sz1.length sc1) (.slice da1 dz1.length dc1)) := B86.out.go hB
  have B99 : Hid (Abx v7 (v4.heap.size) (.bool c1) (.slice xa1 sz1.length xc1) (.slice ya1 X.length yc1)) := B87.out.go hB
  have L100 : Hid (MidC (v3.heap.size) (v4.heap.size) v7 (xa1) (sz1) (xc1)) := L89.out.go (by omega) hB
  have L101 : Hid (MidC (v3.heap.size) (v4.heap.size) v7 (ya1) (X) (yc1)) := L90.out.go (by omega) hB
  have hb102 : Hid (Below w.heap.size w v7) := hb93.out.trans (hB.mono hb93.out.size)
  have L103 : Hid (MidC (v6.heap.size) (v7.heap.size) v7 (g3) (O) (h3)) := hN3.midc
  clear hB hb93 B86 B87 L89 L90 hN3
  go_wp2_with fail
  refine (perm_b10 pa pc p hp9 _ ((HPP.out.below hb102.out).mono hb102.out.size) true F2.out.1).mono ?_
  rintro e v8 ⟨rfl, hB⟩
  have z104 : v7.heap.size ≤ v8.heap.size := hB.size
  have B105 : Hid (Abx v8 (w.heap.size) (.bool c1) (.slice sa1 sz1.length sc1) (.slice da1 dz1.length dc1)) := B98.out.go hB
  have B106 : Hid (Abx v8 (v4.heap.size) (.bool c1) (.slice xa1 sz1.length xc1) (.slice ya1 X.length yc1)) := B99.out.go hB
  have L107 : Hid (MidC (v3.heap.size) (v4.heap.size) v8 (xa1) (sz1) (xc1)) := L100.out.go (by omega) hB
  have L108 : Hid (MidC (v3.heap.size) (v4.heap.size) v8 (ya1) (X) (yc1)) := L101.out.go (by omega) hB
  have L109 : Hid (MidC (v6.heap.size) (v7.heap.size) v8 (g3) (O) (h3)) := L103.out.go (by omega) hB
  have hb110 : Hid (Below w.heap.size w v8) := hb102.out.trans (hB.mono hb102.out.size)
  clear hB hb102 B98 B99 L100 L101 L103
  have tz : ((sz1.length : Int) == 0) = false := by rw [beq_eq_false_iff_ne]; omega
  have l111 := (B105.out).c0
  have l112 := (B105.out).c1
  have l113 := (B105.out).c2
  go_wp2_with fail
  clear l111 l112 l113 tz
  obtain ⟨i0, hi, hz0, hz1, hz2⟩ := info_parts Try.infoArr
  go_loopw [16, 17] (fun v i wr => ∃ (k : Nat) (bs : List ArV), k ≤ sz1.length ∧ i = .int .i64 k ∧ Hid (bs.length = k ∧ bya bs = ioL (sz1.take k)) ∧ wr.ownsRow v8.heap.size 24 3 v k (cl3 bs) ∧ Hid (∀ j, j < k → AvO v.ownBlock v8.heap.size wr (arz bs j)) ∧ Below v8.heap.size v8 wr) (fun _ i _ => sz1.length - (intOf i).toNat)
  case atStart => exact ⟨0, [], Nat.zero_le _, rfl, ⟨rfl, rfl⟩, World.ownsRow_nil _ _ _ _, fun j hj => absurd hj (Nat.not_lt_zero j), Below.refl _ _⟩
  case round =>
    obtain ⟨k, bs, hk, rfl, HK, hown, HAV, hBv⟩ := hrel
    have HBv : Hid (Below v8.heap.size v8 wr) := hBv
    have HOL : Hid (∀ b, Value.ownBlock u16 = some b → b < wr.heap.size) := fun b hb => own_lt7 hown hb
    have z114 : v8.heap.size ≤ wr.heap.size := hBv.size
    have B115 : Hid (Abx wr (w.heap.size) (.bool c1) (.slice sa1 sz1.length sc1) (.slice da1 dz1.length dc1)) := B105.out.go hBv
    have B116 : Hid (Abx wr (v4.heap.size) (.bool c1) (.slice xa1 sz1.length xc1) (.slice ya1 X.length yc1)) := B106.out.go hBv
    have L117 : Hid (MidC (v3.heap.size) (v4.heap.size) wr (xa1) (sz1) (xc1)) := L107.out.go (by omega) hBv
    have L118 : Hid (MidC (v3.heap.size) (v4.heap.size) wr (ya1) (X) (yc1)) := L108.out.go (by omega) hBv
    have L119 : Hid (MidC (v6.heap.size) (v7.heap.size) wr (g3) (O) (h3)) := L109.out.go (by omega) hBv
    have hb120 : Hid (Below w.heap.size w wr) := hb110.out.trans (hBv.mono hb110.out.size)
    clear hBv hb110 B105 B106 L107 L108 L109
    by_cases hlt : k < sz1.length
    · obtain ⟨bz, oz, rfl, hbz, hcz⟩ := (HI1.out.1.1.below hb120.out).at hlt
      have cz := hcz k hlt
      have hl := HAI.out.nth k
      obtain ⟨n, hn⟩ : ∃ n : Nat, nth sz1 k = (n : Int) := ⟨(nth sz1 k).toNat, by omega⟩
      rw [hn] at cz hl
      have hn4' : n ≤ 4096 := by omega
      have HN : Hid (nth sz1 k = (n : Int)) := hn
      clear hn hl hcz
      have a1 := B115.out.c1
      go_wp2_with fail
      refine (iota_c n hn4' wr).mono ?_
      rintro e y1 ⟨xaI, xcI, yaI, ycI, rfl, hXI, hYI, hB1⟩
      have HB1 : Hid (Below wr.heap.size wr y1) := hB1
      have HXY : Hid (NewC wr.heap.size y1 xaI [(n : Int)] xcI ∧ NewC wr.heap.size y1 yaI (iot n) ycI) := ⟨hXI, hYI⟩
      have zb := HBv.out.size
      have z1 := hB1.size
      have hownL := own_go hown hB1
      obtain ⟨y3, hy3⟩ : ∃ y3, y3 = (y1.alloc (.cells #[.bool false, .slice xaI 1 xcI, .slice yaI n ycI] 24)).alloc (.cells #[.bool false, .slice xaI 1 xcI, .slice yaI n ycI] 24) := ⟨_, rfl⟩
      have HY3 : Hid (y3 = (y1.alloc (.cells #[.bool false, .slice xaI 1 xcI, .slice yaI n ycI] 24)).alloc (.cells #[.bool false, .slice xaI 1 xcI, .slice yaI n ycI] 24)) := hy3
      have HB3 : Hid (Below y1.heap.size y1 y3) := by rw [hy3]; exact ((Below.refl _ y1).alloc (Nat.le_refl _) _).alloc (by simp) _
      have HO3 : Hid (y3.ownsRow v8.heap.size 24 3 u16 k (cl3 bs)) := own_go hownL HB3.out
      have HH3 : Hid (y3.heap[y1.heap.size + 1]? = some (.cells #[.bool false, .slice xaI 1 xcI, .slice yaI n ycI] 24 (0, 0))) := by rw [hy3]; have h := World.alloc_heap_new (y1.alloc (.cells #[.bool false, .slice xaI 1 xcI, .slice yaI n ycI] 24)) (.cells #[.bool false, .slice xaI 1 xcI, .slice yaI n ycI] 24); rw [World.size_alloc] at h; exact h
      have hz3 : y3.heap.size = y1.heap.size + 1 + 1 := by rw [hy3]; simp
      have pb := Abx.new y1 (.bool false) (.slice xaI 1 xcI) (.slice yaI n ycI)
      have pb0 := pb.c0
      have pb1 := pb.c1
      have pb2 := pb.c2
      clear hown hownL hXI hYI hB1 hy3 cz a1
      go_wp2_with (at_builtin; rw [← HY3.out]; refine wpList_append_lies y3 rfl _ _ 44 rfl v8.heap.size 24 i0 (.agg #[.bool false, .slice none 0 0, .slice none 0 0]) 3 56 Try.underlying44 hi hz0 hz1 hz2 rfl (by decide) u16 k (cl3 bs) rfl HO3.out ⟨y1.heap.size + 1, 0, none⟩ 1 1 [.bool false, .slice xaI 1 xcI, .slice yaI n ycI] rfl rfl (World.news_of_block (cs := #[.bool false, .slice xaI 1 xcI, .slice yaI n ycI]) HH3.out) (by simp [Value.oneCell']) (by decide) (by unfold maxLen; omega) (by omega) (by omega) y3.heap.size rfl ?_; intro g gc y4 hown4 hg4 hw4 hl4)
      refine ⟨⟨k + 1, bs ++ [(false, (((xaI, xcI), [(n : Int)]), ((yaI, ycI), iot n)))], by omega, by go_num, ⟨?_, ?_⟩, ?_, ?_, ?_⟩, by simp [intOf]; omega⟩
      · rw [List.length_append, HK.out.1]; rfl
      · exact bya_next10 HK.out.2 hlt HN.out xaI xcI yaI ycI
      · rw [cl3_snoc]; simpa [ArV.s, ArV.d, iot_length] using hown4
      · intro j hj
        have hb3' : Below y1.heap.size y1 y3 := HB3.out
        rw [arz_snoc, HK.out.1]
        have hog : ∀ b, Value.ownBlock u16 = some b → b < wr.heap.size := fun b hb => HOL.out b hb
        by_cases e : j < k
        · rw [if_pos e]
          exact (((HAV.out j e).go HB1.out).go HB3.out).grow hg4 hw4
        · rw [if_neg e, if_pos (by omega)]
          have q1 : SepO (Value.ownBlock u16) v8.heap.size y3 xaI [(n : Int)] := (SepO.of_new HXY.out.1.1 (by omega) hog).go HB3.out
          have q2 : SepO (Value.ownBlock u16) v8.heap.size y3 yaI (iot n) := (SepO.of_new HXY.out.2.1 (by omega) hog).go HB3.out
          exact ⟨by simp, by rw [iot_length]; omega, ⟨q1.grow hg4 hw4, HXY.out.1.2⟩, ⟨q2.grow hg4 hw4, HXY.out.2.2⟩, one64_10 hn4', iot64_10 n hn4'⟩
      · exact ((HBv.out.trans (HB1.out.mono HBv.out.size)).trans (HB3.out.mono (HBv.out.trans (HB1.out.mono HBv.out.size)).size)).grown hg4 (by omega) (own_ge HO3.out)
    · obtain rfl : k = sz1.length := by omega
      have hK2 : bya bs = ioL sz1 := by have h := HK.out.2; rwa [List.take_length] at h
      have HBY : Hid (bs.length = sz1.length ∧ bya bs = ioL sz1) := ⟨HK.out.1, hK2⟩
      clear hK2 HK hlt hk
      have HOW : Hid (wr.ownsRow v8.heap.size 24 3 u16 sz1.length (cl3 bs)) := hown
      clear hown HOL
      have hbs6 : bs.length ≤ 9223372036854775807 := by have := HBY.out.1; omega
      have hb0 : 0 < bs.length := by rw [HBY.out.1]; exact hz1'
      rcases own3_cells HBY.out.1 HOW.out with ⟨e0, _⟩ | ⟨g, gc, rfl, hg1, hg2, hg3, hgc, hgz⟩
      · rw [e0] at hb0; simp at hb0
      have HOA : Hid (OWA g v8.heap.size wr bs) := ⟨hg2, hgc, hgz, fun j hj => HAV.out j (by rw [← HBY.out.1]; exact hj)⟩
      clear hgc hgz HAV HOW
      have HQ0 : Hid (Below wr.heap.size wr wr) := Below.refl _ _
      have l121 := (B115.out).c0
      have l122 := (B115.out).c1
      have l123 := (B115.out).c2
      go_wp2_with fail
      clear l121 l122 l123
      refine (vecr_c false g3 h3 O O.length rfl (by omega) _ (L119.out.is (by omega)).1).mono ?_
      rintro e v9 ⟨vas, vcs, gas, gcs, rfl, hVs, hGs, hB⟩
      have z124 : wr.heap.size ≤ v9.heap.size := hB.size
      have B125 : Hid (Abx v9 (w.heap.size) (.bool c1) (.slice sa1 sz1.length sc1) (.slice da1 dz1.length dc1)) := B115.out.go hB
      have B126 : Hid (Abx v9 (v4.heap.size) (.bool c1) (.slice xa1 sz1.length xc1) (.slice ya1 X.length yc1)) := B116.out.go hB
      have L127 : Hid (MidC (v3.heap.size) (v4.heap.size) v9 (xa1) (sz1) (xc1)) := L117.out.go (by omega) hB
      have L128 : Hid (MidC (v3.heap.size) (v4.heap.size) v9 (ya1) (X) (yc1)) := L118.out.go (by omega) hB
      have L129 : Hid (MidC (v6.heap.size) (v7.heap.size) v9 (g3) (O) (h3)) := L119.out.go (by omega) hB
      have hb130 : Hid (Below w.heap.size w v9) := hb120.out.trans (hB.mono hb120.out.size)
      have hc131 : Hid (Below wr.heap.size wr v9) := HQ0.out.trans (hB.mono HQ0.out.size)
      have L132 : Hid (MidC (wr.heap.size) (v9.heap.size) v9 (vas) ([(O.length : Int)]) (vcs)) := hVs.midc
      have L133 : Hid (MidC (wr.heap.size) (v9.heap.size) v9 (gas) (O) (gcs)) := hGs.midc
      clear hB hb120 B115 B116 L117 L118 L119 HQ0 hVs hGs
      have q134 : OWA g v8.heap.size v9 bs := HOA.out.go hc131.out
      have q134v : AvO (some g) v8.heap.size v9 (false, (((vas, vcs), [(O.length : Int)]), ((gas, gcs), O))) := ⟨by simp, by show O.length ≤ 9223372036854775807; omega, ⟨SepO.of_mid L132.out (by omega) (by omega) (by omega), L132.out.2⟩, ⟨SepO.of_mid L133.out (by omega) (by omega) (by omega), L133.out.2⟩, one64_10 (by omega), HO64.out⟩
      obtain ⟨q134a, q134b, q134c⟩ := q134.2.1 0 hb0
      have q134f := q134.2.2.1 0
      have q134g := q134.2.2.1 1
      have q134h := q134.2.2.1 2
      simp only [Nat.zero_mul, Nat.zero_add] at q134a q134b q134c
      have l135 := ((abx_o3 B125.out (B := g) (by omega) (.bool false) (.slice vas 1 vcs) (.slice gas O.length gcs))).c0
      have l136 := ((abx_o3 B125.out (B := g) (by omega) (.bool false) (.slice vas 1 vcs) (.slice gas O.length gcs))).c1
      have l137 := ((abx_o3 B125.out (B := g) (by omega) (.bool false) (.slice vas 1 vcs) (.slice gas O.length gcs))).c2
      go_wp2_with fail
      obtain ⟨wo138, hwo138⟩ : ∃ wo138, wo138 = (((v9.setCell ⟨g, 0, none⟩ (.bool false)).setCell ⟨g, 1, none⟩ (.slice vas 1 vcs)).setCell ⟨g, 2, none⟩ (.slice gas O.length gcs)) := ⟨_, rfl⟩
      rw [← hwo138]
      have z139 : v9.heap.size ≤ wo138.heap.size := by rw [hwo138]; simp only [World.size_setCell]; omega
      have B140 : Hid (Abx wo138 (w.heap.size) (.bool c1) (.slice sa1 sz1.length sc1) (.slice da1 dz1.length dc1)) := by rw [hwo138]; exact (abx_o3 B125.out (B := g) (by omega) (.bool false) (.slice vas 1 vcs) (.slice gas O.length gcs))
      have B141 : Hid (Abx wo138 (v4.heap.size) (.bool c1) (.slice xa1 sz1.length xc1) (.slice ya1 X.length yc1)) := by rw [hwo138]; exact (abx_o3 B126.out (B := g) (by omega) (.bool false) (.slice vas 1 vcs) (.slice gas O.length gcs))
      have L142 : Hid (MidC (v3.heap.size) (v4.heap.size) wo138 (xa1) (sz1) (xc1)) := by rw [hwo138]; exact (L127.out.s3 (b := g) (by omega) (.bool false) (.slice vas 1 vcs) (.slice gas O.length gcs))
      have L143 : Hid (MidC (v3.heap.size) (v4.heap.size) wo138 (ya1) (X) (yc1)) := by rw [hwo138]; exact (L128.out.s3 (b := g) (by omega) (.bool false) (.slice vas 1 vcs) (.slice gas O.length gcs))
      have L144 : Hid (MidC (v6.heap.size) (v7.heap.size) wo138 (g3) (O) (h3)) := by rw [hwo138]; exact (L129.out.s3 (b := g) (by omega) (.bool false) (.slice vas 1 vcs) (.slice gas O.length gcs))
      have L145 : Hid (MidC (wr.heap.size) (v9.heap.size) wo138 (vas) ([(O.length : Int)]) (vcs)) := by rw [hwo138]; exact (L132.out.s3 (b := g) (by omega) (.bool false) (.slice vas 1 vcs) (.slice gas O.length gcs))
      have L146 : Hid (MidC (wr.heap.size) (v9.heap.size) wo138 (gas) (O) (gcs)) := by rw [hwo138]; exact (L133.out.s3 (b := g) (by omega) (.bool false) (.slice vas 1 vcs) (.slice gas O.length gcs))
      have hb147 : Hid (Below w.heap.size w wo138) := by rw [hwo138]; exact (bel_s3 hb130.out (B := g) (by omega) (.bool false) (.slice vas 1 vcs) (.slice gas O.length gcs))
      have zwo138 : w.heap.size ≤ wo138.heap.size := hb147.out.size
      have HOB : Hid (OWA g v8.heap.size wo138 (bs.set 0 (false, (((vas, vcs), [(O.length : Int)]), ((gas, gcs), O))))) := by rw [hwo138]; exact q134.again hb0 q134v (.bool false) (.slice vas 1 vcs) (.slice gas O.length gcs) rfl rfl rfl
      have HGP : Hid (IsAs wo138.heap.size wo138 (some ⟨g, 0, none⟩) (bs.set 0 (false, (((vas, vcs), [(O.length : Int)]), ((gas, gcs), O))))) := by rw [hwo138]; exact q134.store7 hb0 q134v (.bool false) (.slice vas 1 vcs) (.slice gas O.length gcs) rfl rfl rfl
      clear hwo138 q134 q134v q134a q134b q134c q134f q134g q134h l135 l136 l137 hb130 B125 B126 L127 L128 L129 L132 L133
      clear L145 L146
      have HQ1 : Hid (Below wo138.heap.size wo138 wo138) := Below.refl _ _
      refine (at_ok c1 sa1 sc1 sz1 da1 dc1 dz1 (some ⟨g, 0, none⟩) gc (bs.set 0 (false, (((vas, vcs), [(O.length : Int)]), ((gas, gcs), O)))) sz1.length (by rw [List.length_set]; exact HBY.out.1) _ x11 x12 (by omega) ((HI1.out.1.1.below hb147.out).mono hb147.out.size) ((HI1.out.2.1.1.below hb147.out).mono hb147.out.size) HGP.out sz1 X HA (by have h := HBY.out.2; rw [HL0.out] at h; rw [bya_set10 h]; exact HPK.out)).mono ?_
      rintro e v10 ⟨xa4, xc4, ya4, yc4, rfl, hX4, hY4, hB⟩
      have z148 : wo138.heap.size ≤ v10.heap.size := hB.size
      have B149 : Hid (Abx v10 (w.heap.size) (.bool c1) (.slice sa1 sz1.length sc1) (.slice da1 dz1.length dc1)) := B140.out.go hB
      have B150 : Hid (Abx v10 (v4.heap.size) (.bool c1) (.slice xa1 sz1.length xc1) (.slice ya1 X.length yc1)) := B141.out.go hB
      have L151 : Hid (MidC (v3.heap.size) (v4.heap.size) v10 (xa1) (sz1) (xc1)) := L142.out.go (by omega) hB
      have L152 : Hid (MidC (v3.heap.size) (v4.heap.size) v10 (ya1) (X) (yc1)) := L143.out.go (by omega) hB
      have L153 : Hid (MidC (v6.heap.size) (v7.heap.size) v10 (g3) (O) (h3)) := L144.out.go (by omega) hB
      have hb154 : Hid (Below w.heap.size w v10) := hb147.out.trans (hB.mono hb147.out.size)
      have hc155 : Hid (Below wo138.heap.size wo138 v10) := HQ1.out.trans (hB.mono HQ1.out.size)
      have L156 : Hid (MidC (wo138.heap.size) (v10.heap.size) v10 (xa4) (sz1) (xc4)) := hX4.midc
      have L157 : Hid (MidC (wo138.heap.size) (v10.heap.size) v10 (ya4) (X) (yc4)) := hY4.midc
      clear hB hb147 B140 B141 L142 L143 L144 HQ1 hX4 hY4
      clear HGP HOA
      have n158 := Abx.new v10 (.bool c1) (.slice xa4 sz1.length xc4) (.slice ya4 X.length yc4)
      have l159 := (n158).c0
      have l160 := (n158).c1
      have l161 := (n158).c2
      have l162 := ((B150.out.al (.cells #[.bool c1, .slice xa4 sz1.length xc4, .slice ya4 X.length yc4] 24))).c0
      have l163 := ((B150.out.al (.cells #[.bool c1, .slice xa4 sz1.length xc4, .slice ya4 X.length yc4] 24))).c1
      have l164 := ((B150.out.al (.cells #[.bool c1, .slice xa4 sz1.length xc4, .slice ya4 X.length yc4] 24))).c2
      go_wp2_with fail
      obtain ⟨wo165, hwo165⟩ : ∃ wo165, wo165 = (v10.alloc (.cells #[.bool c1, .slice xa4 sz1.length xc4, .slice ya4 X.length yc4] 24)) := ⟨_, rfl⟩
      rw [← hwo165]
      have z166 : v10.heap.size + 1 ≤ wo165.heap.size := by rw [hwo165]; simp only [World.size_alloc]; omega
      have B167 : Hid (Abx wo165 (w.heap.size) (.bool c1) (.slice sa1 sz1.length sc1) (.slice da1 dz1.length dc1)) := by rw [hwo165]; exact (B149.out.al (.cells #[.bool c1, .slice xa4 sz1.length xc4, .slice ya4 X.length yc4] 24))
      have B168 : Hid (Abx wo165 (v4.heap.size) (.bool c1) (.slice xa1 sz1.length xc1) (.slice ya1 X.length yc1)) := by rw [hwo165]; exact (B150.out.al (.cells #[.bool c1, .slice xa4 sz1.length xc4, .slice ya4 X.length yc4] 24))
      have B169 : Hid (Abx wo165 (v10.heap.size) (.bool c1) (.slice xa4 sz1.length xc4) (.slice ya4 X.length yc4)) := by rw [hwo165]; exact n158
      have L170 : Hid (MidC (v3.heap.size) (v4.heap.size) wo165 (xa1) (sz1) (xc1)) := by rw [hwo165]; exact (L151.out.al (by omega) (.cells #[.bool c1, .slice xa4 sz1.length xc4, .slice ya4 X.length yc4] 24))
      have L171 : Hid (MidC (v3.heap.size) (v4.heap.size) wo165 (ya1) (X) (yc1)) := by rw [hwo165]; exact (L152.out.al (by omega) (.cells #[.bool c1, .slice xa4 sz1.length xc4, .slice ya4 X.length yc4] 24))
      have L172 : Hid (MidC (v6.heap.size) (v7.heap.size) wo165 (g3) (O) (h3)) := by rw [hwo165]; exact (L153.out.al (by omega) (.cells #[.bool c1, .slice xa4 sz1.length xc4, .slice ya4 X.length yc4] 24))
      have L173 : Hid (MidC (wo138.heap.size) (v10.heap.size) wo165 (xa4) (sz1) (xc4)) := by rw [hwo165]; exact (L156.out.al (by omega) (.cells #[.bool c1, .slice xa4 sz1.length xc4, .slice ya4 X.length yc4] 24))
      have L174 : Hid (MidC (wo138.heap.size) (v10.heap.size) wo165 (ya4) (X) (yc4)) := by rw [hwo165]; exact (L157.out.al (by omega) (.cells #[.bool c1, .slice xa4 sz1.length xc4, .slice ya4 X.length yc4] 24))
      have hb175 : Hid (Below w.heap.size w wo165) := by rw [hwo165]; exact (hb154.out.alloc (by omega) (.cells #[.bool c1, .slice xa4 sz1.length xc4, .slice ya4 X.length yc4] 24))
      have zwo165 : w.heap.size ≤ wo165.heap.size := hb175.out.size
      have hc176 : Hid (Below wo138.heap.size wo138 wo165) := by rw [hwo165]; exact (hc155.out.alloc (by omega) (.cells #[.bool c1, .slice xa4 sz1.length xc4, .slice ya4 X.length yc4] 24))
      clear hwo165 n158 l159 l160 l161 l162 l163 l164 hb154 B149 B150 L151 L152 L153 L156 L157 hc155
      refine (alike_eq c1 xa4 xc4 sz1 ya4 yc4 X xa1 xc1 sz1 ya1 yc1 X rfl rfl x11 (by omega) _ (L173.out.is (by omega)) (L174.out.is (by omega)).1 (L170.out.is (by omega)) (L171.out.is (by omega)).1).mono ?_
      rintro e v11 ⟨rfl, hB⟩
      have z177 : wo165.heap.size ≤ v11.heap.size := hB.size
      have B178 : Hid (Abx v11 (w.heap.size) (.bool c1) (.slice sa1 sz1.length sc1) (.slice da1 dz1.length dc1)) := B167.out.go hB
      have B179 : Hid (Abx v11 (v4.heap.size) (.bool c1) (.slice xa1 sz1.length xc1) (.slice ya1 X.length yc1)) := B168.out.go hB
      have B180 : Hid (Abx v11 (v10.heap.size) (.bool c1) (.slice xa4 sz1.length xc4) (.slice ya4 X.length yc4)) := B169.out.go hB
      have L181 : Hid (MidC (v3.heap.size) (v4.heap.size) v11 (xa1) (sz1) (xc1)) := L170.out.go (by omega) hB
      have L182 : Hid (MidC (v3.heap.size) (v4.heap.size) v11 (ya1) (X) (yc1)) := L171.out.go (by omega) hB
      have L183 : Hid (MidC (v6.heap.size) (v7.heap.size) v11 (g3) (O) (h3)) := L172.out.go (by omega) hB
      have L184 : Hid (MidC (wo138.heap.size) (v10.heap.size) v11 (xa4) (sz1) (xc4)) := L173.out.go (by omega) hB
      have L185 : Hid (MidC (wo138.heap.size) (v10.heap.size) v11 (ya4) (X) (yc4)) := L174.out.go (by omega) hB
      have hb186 : Hid (Below w.heap.size w v11) := hb175.out.trans (hB.mono hb175.out.size)
      have hc187 : Hid (Below wo138.heap.size wo138 v11) := hc176.out.trans (hB.mono hc176.out.size)
      clear hB hb175 B167 B168 B169 L170 L171 L172 L173 L174 hc176
      clear L184 L185 B180
      obtain ⟨bz, oz, rfl, hbz, hcz⟩ := (HI1.out.1.1.below hb186.out).at hz1'
      have cz := hcz 0 hz1'
      rw [Nat.add_zero, ← HPN.out] at cz
      clear hcz
      have l188 := (B178.out).c0
      have l189 := (B178.out).c1
      have l190 := (B178.out).c2
      go_wp2_with fail
      clear l188 l189 l190 cz
      refine (vecr_c false pa pc p p.length rfl (by omega) _ ((HPP.out.below hb186.out).mono hb186.out.size)).mono ?_
      rintro e v12 ⟨vat, vct, gat, gct, rfl, hVt, hGt, hB⟩
      have z191 : v11.heap.size ≤ v12.heap.size := hB.size
      have B192 : Hid (Abx v12 (w.heap.size) (.bool c1) (.slice (some ⟨bz, oz, none⟩) sz1.length sc1) (.slice da1 dz1.length dc1)) := B178.out.go hB
      have B193 : Hid (Abx v12 (v4.heap.size) (.bool c1) (.slice xa1 sz1.length xc1) (.slice ya1 X.length yc1)) := B179.out.go hB
      have L194 : Hid (MidC (v3.heap.size) (v4.heap.size) v12 (xa1) (sz1) (xc1)) := L181.out.go (by omega) hB
      have L195 : Hid (MidC (v3.heap.size) (v4.heap.size) v12 (ya1) (X) (yc1)) := L182.out.go (by omega) hB
      have L196 : Hid (MidC (v6.heap.size) (v7.heap.size) v12 (g3) (O) (h3)) := L183.out.go (by omega) hB
      have hb197 : Hid (Below w.heap.size w v12) := hb186.out.trans (hB.mono hb186.out.size)
      have hc198 : Hid (Below wo138.heap.size wo138 v12) := hc187.out.trans (hB.mono hc187.out.size)
      have L199 : Hid (MidC (v11.heap.size) (v12.heap.size) v12 (vat) ([(p.length : Int)]) (vct)) := hVt.midc
      have L200 : Hid (MidC (v11.heap.size) (v12.heap.size) v12 (gat) (p) (gct)) := hGt.midc
      clear hB hb186 B178 B179 L181 L182 L183 hc187 hVt hGt
      have q201 : OWA g v8.heap.size v12 (bs.set 0 (false, (((vas, vcs), [(O.length : Int)]), ((gas, gcs), O)))) := HOB.out.go hc198.out
      have q201v : AvO (some g) v8.heap.size v12 (false, (((vat, vct), [(p.length : Int)]), ((gat, gct), p))) := ⟨by simp, by show p.length ≤ 9223372036854775807; omega, ⟨SepO.of_mid L199.out (by omega) (by omega) (by omega), L199.out.2⟩, ⟨SepO.of_mid L200.out (by omega) (by omega) (by omega), L200.out.2⟩, one64_10 (by omega), HP64.out⟩
      obtain ⟨q201a, q201b, q201c⟩ := q201.2.1 0 (by rw [List.length_set]; exact hb0)
      have q201f := q201.2.2.1 0
      have q201g := q201.2.2.1 1
      have q201h := q201.2.2.1 2
      simp only [Nat.zero_mul, Nat.zero_add] at q201a q201b q201c
      have l202 := ((abx_o3 B192.out (B := g) (by omega) (.bool false) (.slice vat 1 vct) (.slice gat p.length gct))).c0
      have l203 := ((abx_o3 B192.out (B := g) (by omega) (.bool false) (.slice vat 1 vct) (.slice gat p.length gct))).c1
      have l204 := ((abx_o3 B192.out (B := g) (by omega) (.bool false) (.slice vat 1 vct) (.slice gat p.length gct))).c2
      go_wp2_with fail
      obtain ⟨wo205, hwo205⟩ : ∃ wo205, wo205 = (((v12.setCell ⟨g, 0, none⟩ (.bool false)).setCell ⟨g, 1, none⟩ (.slice vat 1 vct)).setCell ⟨g, 2, none⟩ (.slice gat p.length gct)) := ⟨_, rfl⟩
      rw [← hwo205]
      have z206 : v12.heap.size ≤ wo205.heap.size := by rw [hwo205]; simp only [World.size_setCell]; omega
      have B207 : Hid (Abx wo205 (w.heap.size) (.bool c1) (.slice (some ⟨bz, oz, none⟩) sz1.length sc1) (.slice da1 dz1.length dc1)) := by rw [hwo205]; exact (abx_o3 B192.out (B := g) (by omega) (.bool false) (.slice vat 1 vct) (.slice gat p.length gct))
      have B208 : Hid (Abx wo205 (v4.heap.size) (.bool c1) (.slice xa1 sz1.length xc1) (.slice ya1 X.length yc1)) := by rw [hwo205]; exact (abx_o3 B193.out (B := g) (by omega) (.bool false) (.slice vat 1 vct) (.slice gat p.length gct))
      have L209 : Hid (MidC (v3.heap.size) (v4.heap.size) wo205 (xa1) (sz1) (xc1)) := by rw [hwo205]; exact (L194.out.s3 (b := g) (by omega) (.bool false) (.slice vat 1 vct) (.slice gat p.length gct))
      have L210 : Hid (MidC (v3.heap.size) (v4.heap.size) wo205 (ya1) (X) (yc1)) := by rw [hwo205]; exact (L195.out.s3 (b := g) (by omega) (.bool false) (.slice vat 1 vct) (.slice gat p.length gct))
      have L211 : Hid (MidC (v6.heap.size) (v7.heap.size) wo205 (g3) (O) (h3)) := by rw [hwo205]; exact (L196.out.s3 (b := g) (by omega) (.bool false) (.slice vat 1 vct) (.slice gat p.length gct))
      have L212 : Hid (MidC (v11.heap.size) (v12.heap.size) wo205 (vat) ([(p.length : Int)]) (vct)) := by rw [hwo205]; exact (L199.out.s3 (b := g) (by omega) (.bool false) (.slice vat 1 vct) (.slice gat p.length gct))
      have L213 : Hid (MidC (v11.heap.size) (v12.heap.size) wo205 (gat) (p) (gct)) := by rw [hwo205]; exact (L200.out.s3 (b := g) (by omega) (.bool false) (.slice vat 1 vct) (.slice gat p.length gct))
      have hb214 : Hid (Below w.heap.size w wo205) := by rw [hwo205]; exact (bel_s3 hb197.out (B := g) (by omega) (.bool false) (.slice vat 1 vct) (.slice gat p.length gct))
      have zwo205 : w.heap.size ≤ wo205.heap.size := hb214.out.size
      have HGP : Hid (IsAs wo205.heap.size wo205 (some ⟨g, 0, none⟩) ((bs.set 0 (false, (((vas, vcs), [(O.length : Int)]), ((gas, gcs), O)))).set 0 (false, (((vat, vct), [(p.length : Int)]), ((gat, gct), p))))) := by rw [hwo205]; exact q201.store7 (by rw [List.length_set]; exact hb0) q201v (.bool false) (.slice vat 1 vct) (.slice gat p.length gct) rfl rfl rfl
      clear hwo205 q201 q201v q201a q201b q201c q201f q201g q201h l202 l203 l204 hb197 B192 B193 L194 L195 L196 L199 L200
      clear L212 L213
      refine (at_ok c1 (some ⟨bz, oz, none⟩) sc1 sz1 da1 dc1 dz1 (some ⟨g, 0, none⟩) gc ((bs.set 0 (false, (((vas, vcs), [(O.length : Int)]), ((gas, gcs), O)))).set 0 (false, (((vat, vct), [(p.length : Int)]), ((gat, gct), p)))) sz1.length (by rw [List.length_set, List.length_set]; exact HBY.out.1) _ x11 x12 (by omega) ((HI1.out.1.1.below hb214.out).mono hb214.out.size) ((HI1.out.2.1.1.below hb214.out).mono hb214.out.size) HGP.out sz1 Z HA (by have h := HBY.out.2; rw [HL0.out] at h; rw [List.set_set, bya_set10 h]; exact HPZ.out)).mono ?_
      rintro e v13 ⟨xa5, xc5, ya5, yc5, rfl, hX5, hY5, hB⟩
      have z215 : wo205.heap.size ≤ v13.heap.size := hB.size
      have B216 : Hid (Abx v13 (w.heap.size) (.bool c1) (.slice (some ⟨bz, oz, none⟩) sz1.length sc1) (.slice da1 dz1.length dc1)) := B207.out.go hB
      have B217 : Hid (Abx v13 (v4.heap.size) (.bool c1) (.slice xa1 sz1.length xc1) (.slice ya1 X.length yc1)) := B208.out.go hB
      have L218 : Hid (MidC (v3.heap.size) (v4.heap.size) v13 (xa1) (sz1) (xc1)) := L209.out.go (by omega) hB
      have L219 : Hid (MidC (v3.heap.size) (v4.heap.size) v13 (ya1) (X) (yc1)) := L210.out.go (by omega) hB
      have L220 : Hid (MidC (v6.heap.size) (v7.heap.size) v13 (g3) (O) (h3)) := L211.out.go (by omega) hB
      have hb221 : Hid (Below w.heap.size w v13) := hb214.out.trans (hB.mono hb214.out.size)
      have L222 : Hid (MidC (wo205.heap.size) (v13.heap.size) v13 (xa5) (sz1) (xc5)) := hX5.midc
      have L223 : Hid (MidC (wo205.heap.size) (v13.heap.size) v13 (ya5) (Z) (yc5)) := hY5.midc
      clear hB hb214 B207 B208 L209 L210 L211 hX5 hY5
      clear HGP HOB
      have n224 := Abx.new v13 (.bool c1) (.slice xa5 sz1.length xc5) (.slice ya5 Z.length yc5)
      have l225 := (n224).c0
      have l226 := (n224).c1
      have l227 := (n224).c2
      go_wp2_with fail
      obtain ⟨wo228, hwo228⟩ : ∃ wo228, wo228 = (v13.alloc (.cells #[.bool c1, .slice xa5 sz1.length xc5, .slice ya5 Z.length yc5] 24)) := ⟨_, rfl⟩
      rw [← hwo228]
      have z229 : v13.heap.size + 1 ≤ wo228.heap.size := by rw [hwo228]; simp only [World.size_alloc]; omega
      have B230 : Hid (Abx wo228 (w.heap.size) (.bool c1) (.slice (some ⟨bz, oz, none⟩) sz1.length sc1) (.slice da1 dz1.length dc1)) := by rw [hwo228]; exact (B216.out.al (.cells #[.bool c1, .slice xa5 sz1.length xc5, .slice ya5 Z.length yc5] 24))
      have B231 : Hid (Abx wo228 (v4.heap.size) (.bool c1) (.slice xa1 sz1.length xc1) (.slice ya1 X.length yc1)) := by rw [hwo228]; exact (B217.out.al (.cells #[.bool c1, .slice xa5 sz1.length xc5, .slice ya5 Z.length yc5] 24))
      have B232 : Hid (Abx wo228 (v13.heap.size) (.bool c1) (.slice xa5 sz1.length xc5) (.slice ya5 Z.length yc5)) := by rw [hwo228]; exact n224
      have L233 : Hid (MidC (v3.heap.size) (v4.heap.size) wo228 (xa1) (sz1) (xc1)) := by rw [hwo228]; exact (L218.out.al (by omega) (.cells #[.bool c1, .slice xa5 sz1.length xc5, .slice ya5 Z.length yc5] 24))
      have L234 : Hid (MidC (v3.heap.size) (v4.heap.size) wo228 (ya1) (X) (yc1)) := by rw [hwo228]; exact (L219.out.al (by omega) (.cells #[.bool c1, .slice xa5 sz1.length xc5, .slice ya5 Z.length yc5] 24))
      have L235 : Hid (MidC (v6.heap.size) (v7.heap.size) wo228 (g3) (O) (h3)) := by rw [hwo228]; exact (L220.out.al (by omega) (.cells #[.bool c1, .slice xa5 sz1.length xc5, .slice ya5 Z.length yc5] 24))
      have L236 : Hid (MidC (wo205.heap.size) (v13.heap.size) wo228 (xa5) (sz1) (xc5)) := by rw [hwo228]; exact (L222.out.al (by omega) (.cells #[.bool c1, .slice xa5 sz1.length xc5, .slice ya5 Z.length yc5] 24))
      have L237 : Hid (MidC (wo205.heap.size) (v13.heap.size) wo228 (ya5) (Z) (yc5)) := by rw [hwo228]; exact (L223.out.al (by omega) (.cells #[.bool c1, .slice xa5 sz1.length xc5, .slice ya5 Z.length yc5] 24))
      have hb238 : Hid (Below w.heap.size w wo228) := by rw [hwo228]; exact (hb221.out.alloc (by omega) (.cells #[.bool c1, .slice xa5 sz1.length xc5, .slice ya5 Z.length yc5] 24))
      have zwo228 : w.heap.size ≤ wo228.heap.size := hb238.out.size
      clear hwo228 n224 l225 l226 l227 hb221 B216 B217 L218 L219 L220 L222 L223
      refine (sow_ok c1 xa5 xc5 sz1 sz1.length rfl ya5 yc5 Z Z.length rfl _ x11 (by omega) (L236.out.is (by omega)) (L237.out.is (by omega)) X HS HZ.out).mono ?_
      rintro e v14 ⟨xa6, xc6, ya6, yc6, rfl, hX6, hY6, hB⟩
      have z239 : wo228.heap.size ≤ v14.heap.size := hB.size
      have B240 : Hid (Abx v14 (w.heap.size) (.bool c1) (.slice (some ⟨bz, oz, none⟩) sz1.length sc1) (.slice da1 dz1.length dc1)) := B230.out.go hB
      have B241 : Hid (Abx v14 (v4.heap.size) (.bool c1) (.slice xa1 sz1.length xc1) (.slice ya1 X.length yc1)) := B231.out.go hB
      have B242 : Hid (Abx v14 (v13.heap.size) (.bool c1) (.slice xa5 sz1.length xc5) (.slice ya5 Z.length yc5)) := B232.out.go hB
      have L243 : Hid (MidC (v3.heap.size) (v4.heap.size) v14 (xa1) (sz1) (xc1)) := L233.out.go (by omega) hB
      have L244 : Hid (MidC (v3.heap.size) (v4.heap.size) v14 (ya1) (X) (yc1)) := L234.out.go (by omega) hB
      have L245 : Hid (MidC (v6.heap.size) (v7.heap.size) v14 (g3) (O) (h3)) := L235.out.go (by omega) hB
      have L246 : Hid (MidC (wo205.heap.size) (v13.heap.size) v14 (xa5) (sz1) (xc5)) := L236.out.go (by omega) hB
      have L247 : Hid (MidC (wo205.heap.size) (v13.heap.size) v14 (ya5) (Z) (yc5)) := L237.out.go (by omega) hB
      have hb248 : Hid (Below w.heap.size w v14) := hb238.out.trans (hB.mono hb238.out.size)
      have L249 : Hid (MidC (wo228.heap.size) (v14.heap.size) v14 (xa6) (sz1) (xc6)) := hX6.midc
      have L250 : Hid (MidC (wo228.heap.size) (v14.heap.size) v14 (ya6) (X) (yc6)) := hY6.midc
      clear hB hb238 B230 B231 B232 L233 L234 L235 L236 L237 hX6 hY6
      have l251 := (B242.out).fr 0
      have l252 := (B242.out).c0
      have l253 := (B242.out).fr 1
      have l254 := (B242.out).c1
      have l255 := (B242.out).fr 2
      have l256 := (B242.out).c2
      have l257 := ((B242.out.set3 (.bool c1) (.slice xa6 sz1.length xc6) (.slice ya6 X.length yc6))).c0
      have l258 := ((B242.out.set3 (.bool c1) (.slice xa6 sz1.length xc6) (.slice ya6 X.length yc6))).c1
      have l259 := ((B242.out.set3 (.bool c1) (.slice xa6 sz1.length xc6) (.slice ya6 X.length yc6))).c2
      have l260 := ((abx_o3 B241.out (B := v13.heap.size) (by omega) (.bool c1) (.slice xa6 sz1.length xc6) (.slice ya6 X.length yc6))).c0
      have l261 := ((abx_o3 B241.out (B := v13.heap.size) (by omega) (.bool c1) (.slice xa6 sz1.length xc6) (.slice ya6 X.length yc6))).c1
      have l262 := ((abx_o3 B241.out (B := v13.heap.size) (by omega) (.bool c1) (.slice xa6 sz1.length xc6) (.slice ya6 X.length yc6))).c2
      go_wp2_with fail
      obtain ⟨wo263, hwo263⟩ : ∃ wo263, wo263 = (((v14.setCell ⟨v13.heap.size, 0, none⟩ (.bool c1)).setCell ⟨v13.heap.size, 1, none⟩ (.slice xa6 sz1.length xc6)).setCell ⟨v13.heap.size, 2, none⟩ (.slice ya6 X.length yc6)) := ⟨_, rfl⟩
      rw [← hwo263]
      have z264 : v14.heap.size ≤ wo263.heap.size := by rw [hwo263]; simp only [World.size_setCell]; omega
      have B265 : Hid (Abx wo263 (w.heap.size) (.bool c1) (.slice (some ⟨bz, oz, none⟩) sz1.length sc1) (.slice da1 dz1.length dc1)) := by rw [hwo263]; exact (abx_o3 B240.out (B := v13.heap.size) (by omega) (.bool c1) (.slice xa6 sz1.length xc6) (.slice ya6 X.length yc6))
      have B266 : Hid (Abx wo263 (v4.heap.size) (.bool c1) (.slice xa1 sz1.length xc1) (.slice ya1 X.length yc1)) := by rw [hwo263]; exact (abx_o3 B241.out (B := v13.heap.size) (by omega) (.bool c1) (.slice xa6 sz1.length xc6) (.slice ya6 X.length yc6))
      have B267 : Hid (Abx wo263 (v13.heap.size) (.bool c1) (.slice xa6 sz1.length xc6) (.slice ya6 X.length yc6)) := by rw [hwo263]; exact (B242.out.set3 (.bool c1) (.slice xa6 sz1.length xc6) (.slice ya6 X.length yc6))
      have L268 : Hid (MidC (v3.heap.size) (v4.heap.size) wo263 (xa1) (sz1) (xc1)) := by rw [hwo263]; exact (L243.out.s3 (b := v13.heap.size) (by omega) (.bool c1) (.slice xa6 sz1.length xc6) (.slice ya6 X.length yc6))
      have L269 : Hid (MidC (v3.heap.size) (v4.heap.size) wo263 (ya1) (X) (yc1)) := by rw [hwo263]; exact (L244.out.s3 (b := v13.heap.size) (by omega) (.bool c1) (.slice xa6 sz1.length xc6) (.slice ya6 X.length yc6))
      have L270 : Hid (MidC (v6.heap.size) (v7.heap.size) wo263 (g3) (O) (h3)) := by rw [hwo263]; exact (L245.out.s3 (b := v13.heap.size) (by omega) (.bool c1) (.slice xa6 sz1.length xc6) (.slice ya6 X.length yc6))
      have L271 : Hid (MidC (wo205.heap.size) (v13.heap.size) wo263 (xa5) (sz1) (xc5)) := by rw [hwo263]; exact (L246.out.s3 (b := v13.heap.size) (by omega) (.bool c1) (.slice xa6 sz1.length xc6) (.slice ya6 X.length yc6))
      have L272 : Hid (MidC (wo205.heap.size) (v13.heap.size) wo263 (ya5) (Z) (yc5)) := by rw [hwo263]; exact (L247.out.s3 (b := v13.heap.size) (by omega) (.bool c1) (.slice xa6 sz1.length xc6) (.slice ya6 X.length yc6))
      have L273 : Hid (MidC (wo228.heap.size) (v14.heap.size) wo263 (xa6) (sz1) (xc6)) := by rw [hwo263]; exact (L249.out.s3 (b := v13.heap.size) (by omega) (.bool c1) (.slice xa6 sz1.length xc6) (.slice ya6 X.length yc6))
      have L274 : Hid (MidC (wo228.heap.size) (v14.heap.size) wo263 (ya6) (X) (yc6)) := by rw [hwo263]; exact (L250.out.s3 (b := v13.heap.size) (by omega) (.bool c1) (.slice xa6 sz1.length xc6) (.slice ya6 X.length yc6))
      have hb275 : Hid (Below w.heap.size w wo263) := by rw [hwo263]; exact (bel_s3 hb248.out (B := v13.heap.size) (by omega) (.bool c1) (.slice xa6 sz1.length xc6) (.slice ya6 X.length yc6))
      have zwo263 : w.heap.size ≤ wo263.heap.size := hb275.out.size
      clear hwo263 l251 l252 l253 l254 l255 l256 l257 l258 l259 l260 l261 l262 hb248 B240 B241 B242 L243 L244 L245 L246 L247 L249 L250
      refine (alike_eq c1 xa6 xc6 sz1 ya6 yc6 X xa1 xc1 sz1 ya1 yc1 X rfl rfl x11 (by omega) _ (L273.out.is (by omega)) (L274.out.is (by omega)).1 (L268.out.is (by omega)) (L269.out.is (by omega)).1).mono ?_
      rintro e v15 ⟨rfl, hB⟩
      have z276 : wo263.heap.size ≤ v15.heap.size := hB.size
      have B277 : Hid (Abx v15 (w.heap.size) (.bool c1) (.slice (some ⟨bz, oz, none⟩) sz1.length sc1) (.slice da1 dz1.length dc1)) := B265.out.go hB
      have B278 : Hid (Abx v15 (v4.heap.size) (.bool c1) (.slice xa1 sz1.length xc1) (.slice ya1 X.length yc1)) := B266.out.go hB
      have B279 : Hid (Abx v15 (v13.heap.size) (.bool c1) (.slice xa6 sz1.length xc6) (.slice ya6 X.length yc6)) := B267.out.go hB
      have L280 : Hid (MidC (v3.heap.size) (v4.heap.size) v15 (xa1) (sz1) (xc1)) := L268.out.go (by omega) hB
      have L281 : Hid (MidC (v3.heap.size) (v4.heap.size) v15 (ya1) (X) (yc1)) := L269.out.go (by omega) hB
      have L282 : Hid (MidC (v6.heap.size) (v7.heap.size) v15 (g3) (O) (h3)) := L270.out.go (by omega) hB
      have L283 : Hid (MidC (wo205.heap.size) (v13.heap.size) v15 (xa5) (sz1) (xc5)) := L271.out.go (by omega) hB
      have L284 : Hid (MidC (wo205.heap.size) (v13.heap.size) v15 (ya5) (Z) (yc5)) := L272.out.go (by omega) hB
      have L285 : Hid (MidC (wo228.heap.size) (v14.heap.size) v15 (xa6) (sz1) (xc6)) := L273.out.go (by omega) hB
      have L286 : Hid (MidC (wo228.heap.size) (v14.heap.size) v15 (ya6) (X) (yc6)) := L274.out.go (by omega) hB
      have hb287 : Hid (Below w.heap.size w v15) := hb275.out.trans (hB.mono hb275.out.size)
      clear hB hb275 B265 B266 B267 L268 L269 L270 L271 L272 L273 L274
      clear L285 L286 B279
      go_wp2_with fail
      go_ret
      exact ⟨rfl, hb287.out⟩
set_option maxRecDepth 100000 in
set_option maxHeartbeats 8000000 in
theorem mixed_un (HS : CSo) (HU : CUp) (HA : CAt) (c1 : Bool) (sa1 : Option Addr) (sc1 : Nat) (sz1 : List Int) (da1 : Option Addr) (dc1 : Nat) (dz1 : List Int) (pa : Option Addr) (pc : Nat) (p : List Int) (hp9 : p.length ≤ 9223372036854775807) (w : World) (w8 : IsArrD w sa1 sz1 sc1 da1 dz1 dc1) (wp : IsInts w.heap.size w pa p) (F1 : Hid (gdE c1 sz1 dz1 = 0)) (F2 : Hid (¬ (ordB p = true ∧ p.length = nR sz1))) :
    Calls Try.prog 6 #[.agg #[.bool c1, .slice sa1 sz1.length sc1, .slice da1 dz1.length dc1], .slice pa p.length pc] w fun e w' => e = .returned (.bool true) ∧ Below w.heap.size w w' := by
  have T1 := w8.2.2.2.2.2
  have hfl := flawE_short (gdE_zero.1 F1.out).1
  have hs6 : sz1.length ≤ 6 := hfl.1
  have hd4 : dz1.length ≤ 4096 := hfl.2
  have HAI : Hid (AllIn sz1) := (errOf_zero.1 (flawE_zero (gdE_zero.1 F1.out).1).1).2.1
  have hz1' : 0 < sz1.length := (gdE_zero.1 F1.out).2
  obtain ⟨l0, t0, HL0⟩ : ∃ l0 t0, Hid (sz1 = l0 :: t0) := by cases hq : sz1 with | nil => rw [hq] at hz1'; simp at hz1' | cons l t => exact ⟨l, t, rfl⟩
  obtain ⟨O, hO⟩ : ∃ O, O = gdO false sz1 dz1 := ⟨_, rfl⟩
  obtain ⟨X, hX⟩ : ∃ X, X = gdD sz1 dz1 := ⟨_, rfl⟩
  have oO : IsOrd O := by rw [hO]; exact gdO_ord false sz1 dz1
  have lO : O.length = nR sz1 := by rw [hO]; exact gdO_length
  have hn4 : nR sz1 ≤ 4096 := (nR_is F1.out).2
  have eX : srD dz1 (lR sz1 dz1) O = X := by rw [hX]; unfold gdD; rw [hO]
  have gX := srD_gd F1.out oO lO
  rw [eX] at gX
  have fX := srD_flaw F1.out oO lO
  rw [eX] at fX
  have HX : Hid (gdE c1 sz1 dz1 = 0 ∧ gdD sz1 dz1 = X) := ⟨F1.out, hX.symm⟩
  have HXX : Hid (gdE c1 sz1 X = 0 ∧ gdD sz1 X = X) := ⟨gX.1, by rw [gX.2, hX]⟩
  have hX4 : X.length ≤ 4096 := by omega
  have HO : Hid (gdE c1 sz1 dz1 = 0 ∧ gdO false sz1 dz1 = O) := ⟨F1.out, hO.symm⟩
  have hO4 : O.length ≤ 4096 := by omega
  have HPK : Hid (pkE c1 sz1 dz1 ((false, ([(O.length : Int)], O)) :: ioL t0) = 0 ∧ pkS ((false, ([(O.length : Int)], O)) :: ioL t0) = sz1 ∧ pkD sz1 dz1 ((false, ([(O.length : Int)], O)) :: ioL t0) = X) := by have h := F1.out; have h2 := lO; have h3 := eX; rw [HL0.out] at h h2 h3; rw [HL0.out, ← h3]; exact pick_ord h oO h2
  have HO64 : Hid (∀ j, In64 (nth O j)) := ord_64 oO hO4
  clear hO hX oO lO eX gX fX T1 hfl
  obtain ⟨x11, x12, x3, x4, s64, T⟩ := w8
  have HI1 : Hid (IsC w.heap.size w sa1 sz1 sc1 ∧ IsC w.heap.size w da1 dz1 dc1 ∧ (∀ j, In64 (nth sz1 j)) ∧ ∀ j, In64 (nth dz1 j)) := ⟨x3, x4, s64, T⟩
  clear x3 x4 T s64
  have HPP : Hid (IsInts w.heap.size w pa p) := wp
  clear wp
  have n1 := Abx.new w (.bool c1) (.slice sa1 sz1.length sc1) (.slice da1 dz1.length dc1)
  have n2 := lit_mid (w.alloc (.cells #[.bool c1, .slice sa1 sz1.length sc1, .slice da1 dz1.length dc1] 24)) 3 [5, 3, 4] 3 rfl
  simp only [World.size_alloc, List.map_cons, List.map_nil] at n2
  go_enter Try.func6, Try.ntmps6
  go_wp2_with fail
  obtain ⟨wo3, hwo3⟩ : ∃ wo3, wo3 = ((w.alloc (.cells #[.bool c1, .slice sa1 sz1.length sc1, .slice da1 dz1.length dc1] 24)).alloc (.cells #[.int .i64 5, .int .i64 3, .int .i64 4] 3)) := ⟨_, rfl⟩
  rw [← hwo3]
  have z4 : w.heap.size + 1 + 1 ≤ wo3.heap.size := by rw [hwo3]; simp only [World.size_alloc]; omega
  have B5 : Hid (Abx wo3 (w.heap.size) (.bool c1) (.slice sa1 sz1.length sc1) (.slice da1 dz1.length dc1)) := by rw [hwo3]; exact (n1.al (.cells #[.int .i64 5, .int .i64 3, .int .i64 4] 3))
  have L6 : Hid (MidC (w.heap.size + 1) (w.heap.size + 1 + 1) wo3 (some ⟨w.heap.size + 1, 0, none⟩) ([5, 3, 4]) (3)) := by rw [hwo3]; exact n2
  have hb7 : Hid (Below w.heap.size w wo3) := by rw [hwo3]; exact (((Below.refl w.heap.size w).alloc (by omega) (.cells #[.bool c1, .slice sa1 sz1.length sc1, .slice da1 dz1.length dc1] 24)).alloc (by simp only [World.size_alloc]; omega) (.cells #[.int .i64 5, .int .i64 3, .int .i64 4] 3))
  have zwo3 : w.heap.size ≤ wo3.heap.size := hb7.out.size
  clear hwo3 n1 n2
  refine (vec_c (some ⟨w.heap.size + 1, 0, none⟩) 3 [5, 3, 4] (by simp) _ (L6.out.is (by omega)).1).mono ?_
  rintro e v1 ⟨vap, vcp, gap, gcp, rfl, hVp, hGp, hB⟩
  have z8 : wo3.heap.size ≤ v1.heap.size := hB.size
  have B9 : Hid (Abx v1 (w.heap.size) (.bool c1) (.slice sa1 sz1.length sc1) (.slice da1 dz1.length dc1)) := B5.out.go hB
  have L10 : Hid (MidC (w.heap.size + 1) (w.heap.size + 1 + 1) v1 (some ⟨w.heap.size + 1, 0, none⟩) ([5, 3, 4]) (3)) := L6.out.go (by omega) hB
  have hb11 : Hid (Below w.heap.size w v1) := hb7.out.trans (hB.mono hb7.out.size)
  have L12 : Hid (MidC (wo3.heap.size) (v1.heap.size) v1 (vap) ([(3 : Int)]) (vcp)) := hVp.midc
  have L13 : Hid (MidC (wo3.heap.size) (v1.heap.size) v1 (gap) ([5, 3, 4]) (gcp)) := hGp.midc
  clear hB hb7 B5 L6 hVp hGp
  clear L10
  go_wp2_with fail
  refine (sow_ok false vap vcp [(3 : Int)] 1 rfl gap gcp [5, 3, 4] 3 rfl _ (by decide) (by decide) (L12.out.is (by omega)) (L13.out.is (by omega)) [3, 4, 5] HS (by decide)).mono ?_
  rintro e v2 ⟨f1, g1, f2, g2, rfl, hX0, hY0, hB⟩
  have z14 : v1.heap.size ≤ v2.heap.size := hB.size
  have B15 : Hid (Abx v2 (w.heap.size) (.bool c1) (.slice sa1 sz1.length sc1) (.slice da1 dz1.length dc1)) := B9.out.go hB
  have L16 : Hid (MidC (wo3.heap.size) (v1.heap.size) v2 (vap) ([(3 : Int)]) (vcp)) := L12.out.go (by omega) hB
  have L17 : Hid (MidC (wo3.heap.size) (v1.heap.size) v2 (gap) ([5, 3, 4]) (gcp)) := L13.out.go (by omega) hB
  have hb18 : Hid (Below w.heap.size w v2) := hb11.out.trans (hB.mono hb11.out.size)
  have L19 : Hid (MidC (v1.heap.size) (v2.heap.size) v2 (f1) ([(3 : Int)]) (g1)) := hX0.midc
  have L20 : Hid (MidC (v1.heap.size) (v2.heap.size) v2 (f2) ([3, 4, 5]) (g2)) := hY0.midc
  clear hB hb11 B9 L12 L13 hX0 hY0
  clear L16 L17
  have n21 := Abx.new v2 (.bool false) (.slice f1 1 g1) (.slice f2 3 g2)
  have l22 := (n21).c0
  have l23 := (n21).c1
  have l24 := (n21).c2
  have n25 := lit_mid (v2.alloc (.cells #[.bool false, .slice f1 1 g1, .slice f2 3 g2] 24)) 3 [3, 4, 5] 3 rfl
  simp only [World.size_alloc, List.map_cons, List.map_nil] at n25
  go_wp2_with fail
  obtain ⟨wo26, hwo26⟩ : ∃ wo26, wo26 = ((v2.alloc (.cells #[.bool false, .slice f1 1 g1, .slice f2 3 g2] 24)).alloc (.cells #[.int .i64 3, .int .i64 4, .int .i64 5] 3)) := ⟨_, rfl⟩
  rw [← hwo26]
  have z27 : v2.heap.size + 1 + 1 ≤ wo26.heap.size := by rw [hwo26]; simp only [World.size_alloc]; omega
  have B28 : Hid (Abx wo26 (w.heap.size) (.bool c1) (.slice sa1 sz1.length sc1) (.slice da1 dz1.length dc1)) := by rw [hwo26]; exact ((B15.out.al (.cells #[.bool false, .slice f1 1 g1, .slice f2 3 g2] 24)).al (.cells #[.int .i64 3, .int .i64 4, .int .i64 5] 3))
  have B29 : Hid (Abx wo26 (v2.heap.size) (.bool false) (.slice f1 1 g1) (.slice f2 3 g2)) := by rw [hwo26]; exact (n21.al (.cells #[.int .i64 3, .int .i64 4, .int .i64 5] 3))
  have L30 : Hid (MidC (v1.heap.size) (v2.heap.size) wo26 (f1) ([(3 : Int)]) (g1)) := by rw [hwo26]; exact ((L19.out.al (by omega) (.cells #[.bool false, .slice f1 1 g1, .slice f2 3 g2] 24)).al (by simp only [World.size_alloc]; omega) (.cells #[.int .i64 3, .int .i64 4, .int .i64 5] 3))
  have L31 : Hid (MidC (v1.heap.size) (v2.heap.size) wo26 (f2) ([3, 4, 5]) (g2)) := by rw [hwo26]; exact ((L20.out.al (by omega) (.cells #[.bool false, .slice f1 1 g1, .slice f2 3 g2] 24)).al (by simp only [World.size_alloc]; omega) (.cells #[.int .i64 3, .int .i64 4, .int .i64 5] 3))
  have L32 : Hid (MidC (v2.heap.size + 1) (v2.heap.size + 1 + 1) wo26 (some ⟨v2.heap.size + 1, 0, none⟩) ([3, 4, 5]) (3)) := by rw [hwo26]; exact n25
  have hb33 : Hid (Below w.heap.size w wo26) := by rw [hwo26]; exact ((hb18.out.alloc (by omega) (.cells #[.bool false, .slice f1 1 g1, .slice f2 3 g2] 24)).alloc (by simp only [World.size_alloc]; omega) (.cells #[.int .i64 3, .int .i64 4, .int .i64 5] 3))
  have zwo26 : w.heap.size ≤ wo26.heap.size := hb33.out.size
  clear hwo26 n21 l22 l23 l24 n25 hb18 B15 L19 L20
  refine (ints_any f2 g2 [3, 4, 5] (some ⟨v2.heap.size + 1, 0, none⟩) 3 [3, 4, 5] (by simp) _ _ (L31.out.is (by omega)).1 (L32.out.is (by omega)).1).mono ?_
  rintro e v3 ⟨rfl, hB⟩
  have z34 : wo26.heap.size ≤ v3.heap.size := hB.size
  have B35 : Hid (Abx v3 (w.heap.size) (.bool c1) (.slice sa1 sz1.length sc1) (.slice da1 dz1.length dc1)) := B28.out.go hB
  have B36 : Hid (Abx v3 (v2.heap.size) (.bool false) (.slice f1 1 g1) (.slice f2 3 g2)) := B29.out.go hB
  have L37 : Hid (MidC (v1.heap.size) (v2.heap.size) v3 (f1) ([(3 : Int)]) (g1)) := L30.out.go (by omega) hB
  have L38 : Hid (MidC (v1.heap.size) (v2.heap.size) v3 (f2) ([3, 4, 5]) (g2)) := L31.out.go (by omega) hB
  have L39 : Hid (MidC (v2.heap.size + 1) (v2.heap.size + 1 + 1) v3 (some ⟨v2.heap.size + 1, 0, none⟩) ([3, 4, 5]) (3)) := L32.out.go (by omega) hB
  have hb40 : Hid (Below w.heap.size w v3) := hb33.out.trans (hB.mono hb33.out.size)
  clear hB hb33 B28 B29 L30 L31 L32
  rw [eqB_true rfl]
  clear L37 L38 L39 B36
  have l41 := (B35.out).c0
  have l42 := (B35.out).c1
  have l43 := (B35.out).c2
  go_wp2_with fail
  clear l41 l42 l43
  refine (sow_ok c1 sa1 sc1 sz1 sz1.length rfl da1 dc1 dz1 dz1.length rfl _ x11 x12 ((HI1.out.1.below hb40.out).mono hb40.out.size) ((HI1.out.2.1.below hb40.out).mono hb40.out.size) X HS HX.out).mono ?_
  rintro e v4 ⟨xa1, xc1, ya1, yc1, rfl, hX1, hY1, hB⟩
  have z44 : v3.heap.size ≤ v4.heap.size := hB.size
  have B45 : Hid (Abx v4 (w.heap.size) (.bool c1) (.slice sa1 sz1.length sc1) (.slice da1 dz1.length dc1)) := B35.out.go hB
  have hb46 : Hid (Below w.heap.size w v4) := hb40.out.trans (hB.mono hb40.out.size)
  have L47 : Hid (MidC (v3.heap.size) (v4.heap.size) v4 (xa1) (sz1) (xc1)) := hX1.midc
  have L48 : Hid (MidC (v3.heap.size) (v4.heap.size) v4 (ya1) (X) (yc1)) := hY1.midc
  clear hB hb40 B35 hX1 hY1
  have n49 := Abx.new v4 (.bool c1) (.slice xa1 sz1.length xc1) (.slice ya1 X.length yc1)
  have l50 := (n49).c0
  have l51 := (n49).c1
  have l52 := (n49).c2
  go_wp2_with fail
  obtain ⟨wo53, hwo53⟩ : ∃ wo53, wo53 = (v4.alloc (.cells #[.bool c1, .slice xa1 sz1.length xc1, .slice ya1 X.length yc1] 24)) := ⟨_, rfl⟩
  rw [← hwo53]
  have z54 : v4.heap.size + 1 ≤ wo53.heap.size := by rw [hwo53]; simp only [World.size_alloc]; omega
  have B55 : Hid (Abx wo53 (w.heap.size) (.bool c1) (.slice sa1 sz1.length sc1) (.slice da1 dz1.length dc1)) := by rw [hwo53]; exact (B45.out.al (.cells #[.bool c1, .slice xa1 sz1.length xc1, .slice ya1 X.length yc1] 24))
  have B56 : Hid (Abx wo53 (v4.heap.size) (.bool c1) (.slice xa1 sz1.length xc1) (.slice ya1 X.length yc1)) := by rw [hwo53]; exact n49
  have L57 : Hid (MidC (v3.heap.size) (v4.heap.size) wo53 (xa1) (sz1) (xc1)) := by rw [hwo53]; exact (L47.out.al (by omega) (.cells #[.bool c1, .slice xa1 sz1.length xc1, .slice ya1 X.length yc1] 24))
  have L58 : Hid (MidC (v3.heap.size) (v4.heap.size) wo53 (ya1) (X) (yc1)) := by rw [hwo53]; exact (L48.out.al (by omega) (.cells #[.bool c1, .slice xa1 sz1.length xc1, .slice ya1 X.length yc1] 24))
  have hb59 : Hid (Below w.heap.size w wo53) := by rw [hwo53]; exact (hb46.out.alloc (by omega) (.cells #[.bool c1, .slice xa1 sz1.length xc1, .slice ya1 X.length yc1] 24))
  have zwo53 : w.heap.size ≤ wo53.heap.size := hb59.out.size
  clear hwo53 n49 l50 l51 l52 hb46 B45 L47 L48
  refine (sow_ok c1 xa1 xc1 sz1 sz1.length rfl ya1 yc1 X X.length rfl _ x11 (by omega) (L57.out.is (by omega)) (L58.out.is (by omega)) X HS HXX.out).mono ?_
  rintro e v5 ⟨xa2, xc2, ya2, yc2, rfl, hX2, hY2, hB⟩
  have z60 : wo53.heap.size ≤ v5.heap.size := hB.size
  have B61 : Hid (Abx v5 (w.heap.size) (.bool c1) (.slice sa1 sz1.length sc1) (.slice da1 dz1.length dc1)) := B55.out.go hB
  have B62 : Hid (Abx v5 (v4.heap.size) (.bool c1) (.slice xa1 sz1.length xc1) (.slice ya1 X.length yc1)) := B56.out.go hB
  have L63 : Hid (MidC (v3.heap.size) (v4.heap.size) v5 (xa1) (sz1) (xc1)) := L57.out.go (by omega) hB
  have L64 : Hid (MidC (v3.heap.size) (v4.heap.size) v5 (ya1) (X) (yc1)) := L58.out.go (by omega) hB
  have hb65 : Hid (Below w.heap.size w v5) := hb59.out.trans (hB.mono hb59.out.size)
  have L66 : Hid (MidC (wo53.heap.size) (v5.heap.size) v5 (xa2) (sz1) (xc2)) := hX2.midc
  have L67 : Hid (MidC (wo53.heap.size) (v5.heap.size) v5 (ya2) (X) (yc2)) := hY2.midc
  clear hB hb59 B55 B56 L57 L58 hX2 hY2
  have n68 := Abx.new v5 (.bool c1) (.slice xa2 sz1.length xc2) (.slice ya2 X.length yc2)
  have l69 := (n68).c0
  have l70 := (n68).c1
  have l71 := (n68).c2
  have l72 := ((B62.out.al (.cells #[.bool c1, .slice xa2 sz1.length xc2, .slice ya2 X.length yc2] 24))).c0
  have l73 := ((B62.out.al (.cells #[.bool c1, .slice xa2 sz1.length xc2, .slice ya2 X.length yc2] 24))).c1
  have l74 := ((B62.out.al (.cells #[.bool c1, .slice xa2 sz1.length xc2, .slice ya2 X.length yc2] 24))).c2
  go_wp2_with fail
  obtain ⟨wo75, hwo75⟩ : ∃ wo75, wo75 = (v5.alloc (.cells #[.bool c1, .slice xa2 sz1.length xc2, .slice ya2 X.length yc2] 24)) := ⟨_, rfl⟩
  rw [← hwo75]
  have z76 : v5.heap.size + 1 ≤ wo75.heap.size := by rw [hwo75]; simp only [World.size_alloc]; omega
  have B77 : Hid (Abx wo75 (w.heap.size) (.bool c1) (.slice sa1 sz1.length sc1) (.slice da1 dz1.length dc1)) := by rw [hwo75]; exact (B61.out.al (.cells #[.bool c1, .slice xa2 sz1.length xc2, .slice ya2 X.length yc2] 24))
  have B78 : Hid (Abx wo75 (v4.heap.size) (.bool c1) (.slice xa1 sz1.length xc1) (.slice ya1 X.length yc1)) := by rw [hwo75]; exact (B62.out.al (.cells #[.bool c1, .slice xa2 sz1.length xc2, .slice ya2 X.length yc2] 24))
  have B79 : Hid (Abx wo75 (v5.heap.size) (.bool c1) (.slice xa2 sz1.length xc2) (.slice ya2 X.length yc2)) := by rw [hwo75]; exact n68
  have L80 : Hid (MidC (v3.heap.size) (v4.heap.size) wo75 (xa1) (sz1) (xc1)) := by rw [hwo75]; exact (L63.out.al (by omega) (.cells #[.bool c1, .slice xa2 sz1.length xc2, .slice ya2 X.length yc2] 24))
  have L81 : Hid (MidC (v3.heap.size) (v4.heap.size) wo75 (ya1) (X) (yc1)) := by rw [hwo75]; exact (L64.out.al (by omega) (.cells #[.bool c1, .slice xa2 sz1.length xc2, .slice ya2 X.length yc2] 24))
  have L82 : Hid (MidC (wo53.heap.size) (v5.heap.size) wo75 (xa2) (sz1) (xc2)) := by rw [hwo75]; exact (L66.out.al (by omega) (.cells #[.bool c1, .slice xa2 sz1.length xc2, .slice ya2 X.length yc2] 24))
  have L83 : Hid (MidC (wo53.heap.size) (v5.heap.size) wo75 (ya2) (X) (yc2)) := by rw [hwo75]; exact (L67.out.al (by omega) (.cells #[.bool c1, .slice xa2 sz1.length xc2, .slice ya2 X.length yc2] 24))
  have hb84 : Hid (Below w.heap.size w wo75) := by rw [hwo75]; exact (hb65.out.alloc (by omega) (.cells #[.bool c1, .slice xa2 sz1.length xc2, .slice ya2 X.length yc2] 24))
  have zwo75 : w.heap.size ≤ wo75.heap.size := hb84.out.size
  clear hwo75 n68 l69 l70 l71 l72 l73 l74 hb65 B61 B62 L63 L64 L66 L67
  refine (alike_eq c1 xa2 xc2 sz1 ya2 yc2 X xa1 xc1 sz1 ya1 yc1 X rfl rfl x11 (by omega) _ (L82.out.is (by omega)) (L83.out.is (by omega)).1 (L80.out.is (by omega)) (L81.out.is (by omega)).1).mono ?_
  rintro e v6 ⟨rfl, hB⟩
  have z85 : wo75.heap.size ≤ v6.heap.size := hB.size
  have B86 : Hid (Abx v6 (w.heap.size) (.bool c1) (.slice sa1 sz1.length sc1) (.slice da1 dz1.length dc1)) := B77.out.go hB
  have B87 : Hid (Abx v6 (v4.heap.size) (.bool c1) (.slice xa1 sz1.length xc1) (.slice ya1 X.length yc1)) := B78.out.go hB
  have B88 : Hid (Abx v6 (v5.heap.size) (.bool c1) (.slice xa2 sz1.length xc2) (.slice ya2 X.length yc2)) := B79.out.go hB
  have L89 : Hid (MidC (v3.heap.size) (v4.heap.size) v6 (xa1) (sz1) (xc1)) := L80.out.go (by omega) hB
  have L90 : Hid (MidC (v3.heap.size) (v4.heap.size) v6 (ya1) (X) (yc1)) := L81.out.go (by omega) hB
  have L91 : Hid (MidC (wo53.heap.size) (v5.heap.size) v6 (xa2) (sz1) (xc2)) := L82.out.go (by omega) hB
  have L92 : Hid (MidC (wo53.heap.size) (v5.heap.size) v6 (ya2) (X) (yc2)) := L83.out.go (by omega) hB
  have hb93 : Hid (Below w.heap.size w v6) := hb84.out.trans (hB.mono hb84.out.size)
  clear hB hb84 B77 B78 B79 L80 L81 L82 L83
  clear L91 L92 B88
  have l94 := (B86.out).c0
  have l95 := (B86.out).c1
  have l96 := (B86.out).c2
  go_wp2_with fail
  clear l94 l95 l96
  refine (upw_ok c1 sa1 sc1 sz1 sz1.length rfl da1 dc1 dz1 dz1.length rfl _ x11 x12 ((HI1.out.1.below hb93.out).mono hb93.out.size) ((HI1.out.2.1.below hb93.out).mono hb93.out.size) O HU HO.out).mono ?_
  rintro e v7 ⟨g3, h3, rfl, hN3, hB⟩
  have z97 : v6.heap.size ≤ v7.heap.size := hB.size
  have B98 : Hid (Abx v7 (w.heap.size) (.bool c1) (.slice sa1 sz1.length sc1) (.slice da1 dz1.length dc1)) := B86.out.go hB
  have B99 : Hid (Abx v7 (v4.heap.size) (.bool c1) (.slice xa1 sz1.length xc1) (.slice ya1 X.length yc1)) := B87.out.go hB
  have L100 : Hid (MidC (v3.heap.size) (v4.heap.size) v7 (xa1) (sz1) (xc1)) := L89.out.go (by omega) hB
  have L101 : Hid (MidC (v3.heap.size) (v4.heap.size) v7 (ya1) (X) (yc1)) := L90.out.go (by omega) hB
  have hb102 : Hid (Below w.heap.size w v7) := hb93.out.trans (hB.mono hb93.out.size)
  have L103 : Hid (MidC (v6.heap.size) (v7.heap.size) v7 (g3) (O) (h3)) := hN3.midc
  clear hB hb93 B86 B87 L89 L90 hN3
  go_wp2_with fail
  refine (perm_b10 pa pc p hp9 _ ((HPP.out.below hb102.out).mono hb102.out.size) (ordB p) rfl).mono ?_
  rintro e v8 ⟨rfl, hB⟩
  have z104 : v7.heap.size ≤ v8.heap.size := hB.size
  have B105 : Hid (Abx v8 (w.heap.size) (.bool c1) (.slice sa1 sz1.length sc1) (.slice da1 dz1.length dc1)) := B98.out.go hB
  have B106 : Hid (Abx v8 (v4.heap.size) (.bool c1) (.slice xa1 sz1.length xc1) (.slice ya1 X.length yc1)) := B99.out.go hB
  have L107 : Hid (MidC (v3.heap.size) (v4.heap.size) v8 (xa1) (sz1) (xc1)) := L100.out.go (by omega) hB
  have L108 : Hid (MidC (v3.heap.size) (v4.heap.size) v8 (ya1) (X) (yc1)) := L101.out.go (by omega) hB
  have L109 : Hid (MidC (v6.heap.size) (v7.heap.size) v8 (g3) (O) (h3)) := L103.out.go (by omega) hB
  have hb110 : Hid (Below w.heap.size w v8) := hb102.out.trans (hB.mono hb102.out.size)
  clear hB hb102 B98 B99 L100 L101 L103
  have tz : ((sz1.length : Int) == 0) = false := by rw [beq_eq_false_iff_ne]; omega
  have l111 := (B105.out).c0
  have l112 := (B105.out).c1
  have l113 := (B105.out).c2
  go_wp2_with fail
  clear l111 l112 l113 tz
  obtain ⟨i0, hi, hz0, hz1, hz2⟩ := info_parts Try.infoArr
  go_loopw [16, 17] (fun v i wr => ∃ (k : Nat) (bs : List ArV), k ≤ sz1.length ∧ i = .int .i64 k ∧ Hid (bs.length = k ∧ bya bs = ioL (sz1.take k)) ∧ wr.ownsRow v8.heap.size 24 3 v k (cl3 bs) ∧ Hid (∀ j, j < k → AvO v.ownBlock v8.heap.size wr (arz bs j)) ∧ Below v8.heap.size v8 wr) (fun _ i _ => sz1.length - (intOf i).toNat)
  case atStart => exact ⟨0, [], Nat.zero_le _, rfl, ⟨rfl, rfl⟩, World.ownsRow_nil _ _ _ _, fun j hj => absurd hj (Nat.not_lt_zero j), Below.refl _ _⟩
  case round =>
    obtain ⟨k, bs, hk, rfl, HK, hown, HAV, hBv⟩ := hrel
    have HBv : Hid (Below v8.heap.size v8 wr) := hBv
    have HOL : Hid (∀ b, Value.ownBlock u16 = some b → b < wr.heap.size) := fun b hb => own_lt7 hown hb
    have z114 : v8.heap.size ≤ wr.heap.size := hBv.size
    have B115 : Hid (Abx wr (w.heap.size) (.bool c1) (.slice sa1 sz1.length sc1) (.slice da1 dz1.length dc1)) := B105.out.go hBv
    have B116 : Hid (Abx wr (v4.heap.size) (.bool c1) (.slice xa1 sz1.length xc1) (.slice ya1 X.length yc1)) := B106.out.go hBv
    have L117 : Hid (MidC (v3.heap.size) (v4.heap.size) wr (xa1) (sz1) (xc1)) := L107.out.go (by omega) hBv
    have L118 : Hid (MidC (v3.heap.size) (v4.heap.size) wr (ya1) (X) (yc1)) := L108.out.go (by omega) hBv
    have L119 : Hid (MidC (v6.heap.size) (v7.heap.size) wr (g3) (O) (h3)) := L109.out.go (by omega) hBv
    have hb120 : Hid (Below w.heap.size w wr) := hb110.out.trans (hBv.mono hb110.out.size)
    clear hBv hb110 B105 B106 L107 L108 L109
    by_cases hlt : k < sz1.length
    · obtain ⟨bz, oz, rfl, hbz, hcz⟩ := (HI1.out.1.1.below hb120.out).at hlt
      have cz := hcz k hlt
      have hl := HAI.out.nth k
      obtain ⟨n, hn⟩ : ∃ n : Nat, nth sz1 k = (n : Int) := ⟨(nth sz1 k).toNat, by omega⟩
      rw [hn] at cz hl
      have hn4' : n ≤ 4096 := by omega
      have HN : Hid (nth sz1 k = (n : Int)) := hn
      clear hn hl hcz
      have a1 := B115.out.c1
      go_wp2_with fail
      refine (iota_c n hn4' wr).mono ?_
      rintro e y1 ⟨xaI, xcI, yaI, ycI, rfl, hXI, hYI, hB1⟩
      have HB1 : Hid (Below wr.heap.size wr y1) := hB1
      have HXY : Hid (NewC wr.heap.size y1 xaI [(n : Int)] xcI ∧ NewC wr.heap.size y1 yaI (iot n) ycI) := ⟨hXI, hYI⟩
      have zb := HBv.out.size
      have z1 := hB1.size
      have hownL := own_go hown hB1
      obtain ⟨y3, hy3⟩ : ∃ y3, y3 = (y1.alloc (.cells #[.bool false, .slice xaI 1 xcI, .slice yaI n ycI] 24)).alloc (.cells #[.bool false, .slice xaI 1 xcI, .slice yaI n ycI] 24) := ⟨_, rfl⟩
      have HY3 : Hid (y3 = (y1.alloc (.cells #[.bool false, .slice xaI 1 xcI, .slice yaI n ycI] 24)).alloc (.cells #[.bool false, .slice xaI 1 xcI, .slice yaI n ycI] 24)) := hy3
      have HB3 : Hid (Below y1.heap.size y1 y3) := by rw [hy3]; exact ((Below.refl _ y1).alloc (Nat.le_refl _) _).alloc (by simp) _
      have HO3 : Hid (y3.ownsRow v8.heap.size 24 3 u16 k (cl3 bs)) := own_go hownL HB3.out
      have HH3 : Hid (y3.heap[y1.heap.size + 1]? = some (.cells #[.bool false, .slice xaI 1 xcI, .slice yaI n ycI] 24 (0, 0))) := by rw [hy3]; have h := World.alloc_heap_new (y1.alloc (.cells #[.bool false, .slice xaI 1 xcI, .slice yaI n ycI] 24)) (.cells #[.bool false, .slice xaI 1 xcI, .slice yaI n ycI] 24); rw [World.size_alloc] at h; exact h
      have hz3 : y3.heap.size = y1.heap.size + 1 + 1 := by rw [hy3]; simp
      have pb := Abx.new y1 (.bool false) (.slice xaI 1 xcI) (.slice yaI n ycI)
      have pb0 := pb.c0
      have pb1 := pb.c1
      have pb2 := pb.c2
      clear hown hownL hXI hYI hB1 hy3 cz a1
      go_wp2_with (at_builtin; rw [← HY3.out]; refine wpList_append_lies y3 rfl _ _ 44 rfl v8.heap.size 24 i0 (.agg #[.bool false, .slice none 0 0, .slice none 0 0]) 3 56 Try.underlying44 hi hz0 hz1 hz2 rfl (by decide) u16 k (cl3 bs) rfl HO3.out ⟨y1.heap.size + 1, 0, none⟩ 1 1 [.bool false, .slice xaI 1 xcI, .slice yaI n ycI] rfl rfl (World.news_of_block (cs := #[.bool false, .slice xaI 1 xcI, .slice yaI n ycI]) HH3.out) (by simp [Value.oneCell']) (by decide) (by unfold maxLen; omega) (by omega) (by omega) y3.heap.size rfl ?_; intro g gc y4 hown4 hg4 hw4 hl4)
      refine ⟨⟨k + 1, bs ++ [(false, (((xaI, xcI), [(n : Int)]), ((yaI, ycI), iot n)))], by omega, by go_num, ⟨?_, ?_⟩, ?_, ?_, ?_⟩, by simp [intOf]; omega⟩
      · rw [List.length_append, HK.out.1]; rfl
      · exact bya_next10 HK.out.2 hlt HN.out xaI xcI yaI ycI
      · rw [cl3_snoc]; simpa [ArV.s, ArV.d, iot_length] using hown4
      · intro j hj
        have hb3' : Below y1.heap.size y1 y3 := HB3.out
        rw [arz_snoc, HK.out.1]
        have hog : ∀ b, Value.ownBlock u16 = some b → b < wr.heap.size := fun b hb => HOL.out b hb
        by_cases e : j < k
        · rw [if_pos e]
          exact (((HAV.out j e).go HB1.out).go HB3.out).grow hg4 hw4
        · rw [if_neg e, if_pos (by omega)]
          have q1 : SepO (Value.ownBlock u16) v8.heap.size y3 xaI [(n : Int)] := (SepO.of_new HXY.out.1.1 (by omega) hog).go HB3.out
          have q2 : SepO (Value.ownBlock u16) v8.heap.size y3 yaI (iot n) := (SepO.of_new HXY.out.2.1 (by omega) hog).go HB3.out
          exact ⟨by simp, by rw [iot_length]; omega, ⟨q1.grow hg4 hw4, HXY.out.1.2⟩, ⟨q2.grow hg4 hw4, HXY.out.2.2⟩, one64_10 hn4', iot64_10 n hn4'⟩
      · exact ((HBv.out.trans (HB1.out.mono HBv.out.size)).trans (HB3.out.mono (HBv.out.trans (HB1.out.mono HBv.out.size)).size)).grown hg4 (by omega) (own_ge HO3.out)
    · obtain rfl : k = sz1.length := by omega
      have hK2 : bya bs = ioL sz1 := by have h := HK.out.2; rwa [List.take_length] at h
      have HBY : Hid (bs.length = sz1.length ∧ bya bs = ioL sz1) := ⟨HK.out.1, hK2⟩
      clear hK2 HK hlt hk
      have HOW : Hid (wr.ownsRow v8.heap.size 24 3 u16 sz1.length (cl3 bs)) := hown
      clear hown HOL
      have hbs6 : bs.length ≤ 9223372036854775807 := by have := HBY.out.1; omega
      have hb0 : 0 < bs.length := by rw [HBY.out.1]; exact hz1'
      rcases own3_cells HBY.out.1 HOW.out with ⟨e0, _⟩ | ⟨g, gc, rfl, hg1, hg2, hg3, hgc, hgz⟩
      · rw [e0] at hb0; simp at hb0
      have HOA : Hid (OWA g v8.heap.size wr bs) := ⟨hg2, hgc, hgz, fun j hj => HAV.out j (by rw [← HBY.out.1]; exact hj)⟩
      clear hgc hgz HAV HOW
      have HQ0 : Hid (Below wr.heap.size wr wr) := Below.refl _ _
      have l121 := (B115.out).c0
      have l122 := (B115.out).c1
      have l123 := (B115.out).c2
      go_wp2_with fail
      clear l121 l122 l123
      refine (vecr_c false g3 h3 O O.length rfl (by omega) _ (L119.out.is (by omega)).1).mono ?_
      rintro e v9 ⟨vas, vcs, gas, gcs, rfl, hVs, hGs, hB⟩
      have z124 : wr.heap.size ≤ v9.heap.size := hB.size
      have B125 : Hid (Abx v9 (w.heap.size) (.bool c1) (.slice sa1 sz1.length sc1) (.slice da1 dz1.length dc1)) := B115.out.go hB
      have B126 : Hid (Abx v9 (v4.heap.size) (.bool c1) (.slice xa1 sz1.length xc1) (.slice ya1 X.length yc1)) := B116.out.go hB
      have L127 : Hid (MidC (v3.heap.size) (v4.heap.size) v9 (xa1) (sz1) (xc1)) := L117.out.go (by omega) hB
      have L128 : Hid (MidC (v3.heap.size) (v4.heap.size) v9 (ya1) (X) (yc1)) := L118.out.go (by omega) hB
      have L129 : Hid (MidC (v6.heap.size) (v7.heap.size) v9 (g3) (O) (h3)) := L119.out.go (by omega) hB
      have hb130 : Hid (Below w.heap.size w v9) := hb120.out.trans (hB.mono hb120.out.size)
      have hc131 : Hid (Below wr.heap.size wr v9) := HQ0.out.trans (hB.mono HQ0.out.size)
      have L132 : Hid (MidC (wr.heap.size) (v9.heap.size) v9 (vas) ([(O.length : Int)]) (vcs)) := hVs.midc
      have L133 : Hid (MidC (wr.heap.size) (v9.heap.size) v9 (gas) (O) (gcs)) := hGs.midc
      clear hB hb120 B115 B116 L117 L118 L119 HQ0 hVs hGs
      have q134 : OWA g v8.heap.size v9 bs := HOA.out.go hc131.out
      have q134v : AvO (some g) v8.heap.size v9 (false, (((vas, vcs), [(O.length : Int)]), ((gas, gcs), O))) := ⟨by simp, by show O.length ≤ 9223372036854775807; omega, ⟨SepO.of_mid L132.out (by omega) (by omega) (by omega), L132.out.2⟩, ⟨SepO.of_mid L133.out (by omega) (by omega) (by omega), L133.out.2⟩, one64_10 (by omega), HO64.out⟩
      obtain ⟨q134a, q134b, q134c⟩ := q134.2.1 0 hb0
      have q134f := q134.2.2.1 0
      have q134g := q134.2.2.1 1
      have q134h := q134.2.2.1 2
      simp only [Nat.zero_mul, Nat.zero_add] at q134a q134b q134c
      have l135 := ((abx_o3 B125.out (B := g) (by omega) (.bool false) (.slice vas 1 vcs) (.slice gas O.length gcs))).c0
      have l136 := ((abx_o3 B125.out (B := g) (by omega) (.bool false) (.slice vas 1 vcs) (.slice gas O.length gcs))).c1
      have l137 := ((abx_o3 B125.out (B := g) (by omega) (.bool false) (.slice vas 1 vcs) (.slice gas O.length gcs))).c2
      go_wp2_with fail
      obtain ⟨wo138, hwo138⟩ : ∃ wo138, wo138 = (((v9.setCell ⟨g, 0, none⟩ (.bool false)).setCell ⟨g, 1, none⟩ (.slice vas 1 vcs)).setCell ⟨g, 2, none⟩ (.slice gas O.length gcs)) := ⟨_, rfl⟩
      rw [← hwo138]
      have z139 : v9.heap.size ≤ wo138.heap.size := by rw [hwo138]; simp only [World.size_setCell]; omega
      have B140 : Hid (Abx wo138 (w.heap.size) (.bool c1) (.slice sa1 sz1.length sc1) (.slice da1 dz1.length dc1)) := by rw [hwo138]; exact (abx_o3 B125.out (B := g) (by omega) (.bool false) (.slice vas 1 vcs) (.slice gas O.length gcs))
      have B141 : Hid (Abx wo138 (v4.heap.size) (.bool c1) (.slice xa1 sz1.length xc1) (.slice ya1 X.length yc1)) := by rw [hwo138]; exact (abx_o3 B126.out (B := g) (by omega) (.bool false) (.slice vas 1 vcs) (.slice gas O.length gcs))
      have L142 : Hid (MidC (v3.heap.size) (v4.heap.size) wo138 (xa1) (sz1) (xc1)) := by rw [hwo138]; exact (L127.out.s3 (b := g) (by omega) (.bool false) (.slice vas 1 vcs) (.slice gas O.length gcs))
      have L143 : Hid (MidC (v3.heap.size) (v4.heap.size) wo138 (ya1) (X) (yc1)) := by rw [hwo138]; exact (L128.out.s3 (b := g) (by omega) (.bool false) (.slice vas 1 vcs) (.slice gas O.length gcs))
      have L144 : Hid (MidC (v6.heap.size) (v7.heap.size) wo138 (g3) (O) (h3)) := by rw [hwo138]; exact (L129.out.s3 (b := g) (by omega) (.bool false) (.slice vas 1 vcs) (.slice gas O.length gcs))
      have L145 : Hid (MidC (wr.heap.size) (v9.heap.size) wo138 (vas) ([(O.length : Int)]) (vcs)) := by rw [hwo138]; exact (L132.out.s3 (b := g) (by omega) (.bool false) (.slice vas 1 vcs) (.slice gas O.length gcs))
      have L146 : Hid (MidC (wr.heap.size) (v9.heap.size) wo138 (gas) (O) (gcs)) := by rw [hwo138]; exact (L133.out.s3 (b := g) (by omega) (.bool false) (.slice vas 1 vcs) (.slice gas O.length gcs))
      have hb147 : Hid (Below w.heap.size w wo138) := by rw [hwo138]; exact (bel_s3 hb130.out (B := g) (by omega) (.bool false) (.slice vas 1 vcs) (.slice gas O.length gcs))
      have zwo138 : w.heap.size ≤ wo138.heap.size := hb147.out.size
      have HOB : Hid (OWA g v8.heap.size wo138 (bs.set 0 (false, (((vas, vcs), [(O.length : Int)]), ((gas, gcs), O))))) := by rw [hwo138]; exact q134.again hb0 q134v (.bool false) (.slice vas 1 vcs) (.slice gas O.length gcs) rfl rfl rfl
      have HGP : Hid (IsAs wo138.heap.size wo138 (some ⟨g, 0, none⟩) (bs.set 0 (false, (((vas, vcs), [(O.length : Int)]), ((gas, gcs), O))))) := by rw [hwo138]; exact q134.store7 hb0 q134v (.bool false) (.slice vas 1 vcs) (.slice gas O.length gcs) rfl rfl rfl
      clear hwo138 q134 q134v q134a q134b q134c q134f q134g q134h l135 l136 l137 hb130 B125 B126 L127 L128 L129 L132 L133
      clear L145 L146
      have HQ1 : Hid (Below wo138.heap.size wo138 wo138) := Below.refl _ _
      refine (at_ok c1 sa1 sc1 sz1 da1 dc1 dz1 (some ⟨g, 0, none⟩) gc (bs.set 0 (false, (((vas, vcs), [(O.length : Int)]), ((gas, gcs), O)))) sz1.length (by rw [List.length_set]; exact HBY.out.1) _ x11 x12 (by omega) ((HI1.out.1.1.below hb147.out).mono hb147.out.size) ((HI1.out.2.1.1.below hb147.out).mono hb147.out.size) HGP.out sz1 X HA (by have h := HBY.out.2; rw [HL0.out] at h; rw [bya_set10 h]; exact HPK.out)).mono ?_
      rintro e v10 ⟨xa4, xc4, ya4, yc4, rfl, hX4, hY4, hB⟩
      have z148 : wo138.heap.size ≤ v10.heap.size := hB.size
      have B149 : Hid (Abx v10 (w.heap.size) (.bool c1) (.slice sa1 sz1.length sc1) (.slice da1 dz1.length dc1)) := B140.out.go hB
      have B150 : Hid (Abx v10 (v4.heap.size) (.bool c1) (.slice xa1 sz1.length xc1) (.slice ya1 X.length yc1)) := B141.out.go hB
      have L151 : Hid (MidC (v3.heap.size) (v4.heap.size) v10 (xa1) (sz1) (xc1)) := L142.out.go (by omega) hB
      have L152 : Hid (MidC (v3.heap.size) (v4.heap.size) v10 (ya1) (X) (yc1)) := L143.out.go (by omega) hB
      have L153 : Hid (MidC (v6.heap.size) (v7.heap.size) v10 (g3) (O) (h3)) := L144.out.go (by omega) hB
      have hb154 : Hid (Below w.heap.size w v10) := hb147.out.trans (hB.mono hb147.out.size)
      have hc155 : Hid (Below wo138.heap.size wo138 v10) := HQ1.out.trans (hB.mono HQ1.out.size)
      have L156 : Hid (MidC (wo138.heap.size) (v10.heap.size) v10 (xa4) (sz1) (xc4)) := hX4.midc
      have L157 : Hid (MidC (wo138.heap.size) (v10.heap.size) v10 (ya4) (X) (yc4)) := hY4.midc
      clear hB hb147 B140 B141 L142 L143 L144 HQ1 hX4 hY4
      clear HGP HOA
      have n158 := Abx.new v10 (.bool c1) (.slice xa4 sz1.length xc4) (.slice ya4 X.length yc4)
      have l159 := (n158).c0
      have l160 := (n158).c1
      have l161 := (n158).c2
      have l162 := ((B150.out.al (.cells #[.bool c1, .slice xa4 sz1.length xc4, .slice ya4 X.length yc4] 24))).c0
      have l163 := ((B150.out.al (.cells #[.bool c1, .slice xa4 sz1.length xc4, .slice ya4 X.length yc4] 24))).c1
      have l164 := ((B150.out.al (.cells #[.bool c1, .slice xa4 sz1.length xc4, .slice ya4 X.length yc4] 24))).c2
      go_wp2_with fail
      obtain ⟨wo165, hwo165⟩ : ∃ wo165, wo165 = (v10.alloc (.cells #[.bool c1, .slice xa4 sz1.length xc4, .slice ya4 X.length yc4] 24)) := ⟨_, rfl⟩
      rw [← hwo165]
      have z166 : v10.heap.size + 1 ≤ wo165.heap.size := by rw [hwo165]; simp only [World.size_alloc]; omega
      have B167 : Hid (Abx wo165 (w.heap.size) (.bool c1) (.slice sa1 sz1.length sc1) (.slice da1 dz1.length dc1)) := by rw [hwo165]; exact (B149.out.al (.cells #[.bool c1, .slice xa4 sz1.length xc4, .slice ya4 X.length yc4] 24))
      have B168 : Hid (Abx wo165 (v4.heap.size) (.bool c1) (.slice xa1 sz1.length xc1) (.slice ya1 X.length yc1)) := by rw [hwo165]; exact (B150.out.al (.cells #[.bool c1, .slice xa4 sz1.length xc4, .slice ya4 X.length yc4] 24))
      have B169 : Hid (Abx wo165 (v10.heap.size) (.bool c1) (.slice xa4 sz1.length xc4) (.slice ya4 X.length yc4)) := by rw [hwo165]; exact n158
      have L170 : Hid (MidC (v3.heap.size) (v4.heap.size) wo165 (xa1) (sz1) (xc1)) := by rw [hwo165]; exact (L151.out.al (by omega) (.cells #[.bool c1, .slice xa4 sz1.length xc4, .slice ya4 X.length yc4] 24))
      have L171 : Hid (MidC (v3.heap.size) (v4.heap.size) wo165 (ya1) (X) (yc1)) := by rw [hwo165]; exact (L152.out.al (by omega) (.cells #[.bool c1, .slice xa4 sz1.length xc4, .slice ya4 X.length yc4] 24))
      have L172 : Hid (MidC (v6.heap.size) (v7.heap.size) wo165 (g3) (O) (h3)) := by rw [hwo165]; exact (L153.out.al (by omega) (.cells #[.bool c1, .slice xa4 sz1.length xc4, .slice ya4 X.length yc4] 24))
      have L173 : Hid (MidC (wo138.heap.size) (v10.heap.size) wo165 (xa4) (sz1) (xc4)) := by rw [hwo165]; exact (L156.out.al (by omega) (.cells #[.bool c1, .slice xa4 sz1.length xc4, .slice ya4 X.length yc4] 24))
      have L174 : Hid (MidC (wo138.heap.size) (v10.heap.size) wo165 (ya4) (X) (yc4)) := by rw [hwo165]; exact (L157.out.al (by omega) (.cells #[.bool c1, .slice xa4 sz1.length xc4, .slice ya4 X.length yc4] 24))
      have hb175 : Hid (Below w.heap.size w wo165) := by rw [hwo165]; exact (hb154.out.alloc (by omega) (.cells #[.bool c1, .slice xa4 sz1.length xc4, .slice ya4 X.length yc4] 24))
      have zwo165 : w.heap.size ≤ wo165.heap.size := hb175.out.size
      have hc176 : Hid (Below wo138.heap.size wo138 wo165) := by rw [hwo165]; exact (hc155.out.alloc (by omega) (.cells #[.bool c1, .slice xa4 sz1.length xc4, .slice ya4 X.length yc4] 24))
      clear hwo165 n158 l159 l160 l161 l162 l163 l164 hb154 B149 B150 L151 L152 L153 L156 L157 hc155
      refine (alike_eq c1 xa4 xc4 sz1 ya4 yc4 X xa1 xc1 sz1 ya1 yc1 X rfl rfl x11 (by omega) _ (L173.out.is (by omega)) (L174.out.is (by omega)).1 (L170.out.is (by omega)) (L171.out.is (by omega)).1).mono ?_
      rintro e v11 ⟨rfl, hB⟩
      have z177 : wo165.heap.size ≤ v11.heap.size := hB.size
      have B178 : Hid (Abx v11 (w.heap.size) (.bool c1) (.slice sa1 sz1.length sc1) (.slice da1 dz1.length dc1)) := B167.out.go hB
      have B179 : Hid (Abx v11 (v4.heap.size) (.bool c1) (.slice xa1 sz1.length xc1) (.slice ya1 X.length yc1)) := B168.out.go hB
      have B180 : Hid (Abx v11 (v10.heap.size) (.bool c1) (.slice xa4 sz1.length xc4) (.slice ya4 X.length yc4)) := B169.out.go hB
      have L181 : Hid (MidC (v3.heap.size) (v4.heap.size) v11 (xa1) (sz1) (xc1)) := L170.out.go (by omega) hB
      have L182 : Hid (MidC (v3.heap.size) (v4.heap.size) v11 (ya1) (X) (yc1)) := L171.out.go (by omega) hB
      have L183 : Hid (MidC (v6.heap.size) (v7.heap.size) v11 (g3) (O) (h3)) := L172.out.go (by omega) hB
      have L184 : Hid (MidC (wo138.heap.size) (v10.heap.size) v11 (xa4) (sz1) (xc4)) := L173.out.go (by omega) hB
      have L185 : Hid (MidC (wo138.heap.size) (v10.heap.size) v11 (ya4) (X) (yc4)) := L174.out.go (by omega) hB
      have hb186 : Hid (Below w.heap.size w v11) := hb175.out.trans (hB.mono hb175.out.size)
      have hc187 : Hid (Below wo138.heap.size wo138 v11) := hc176.out.trans (hB.mono hc176.out.size)
      clear hB hb175 B167 B168 B169 L170 L171 L172 L173 L174 hc176
      clear L184 L185 B180
      obtain ⟨bz, oz, rfl, hbz, hcz⟩ := (HI1.out.1.1.below hb186.out).at hz1'
      have cz := hcz 0 hz1'
      rw [Nat.add_zero] at cz
      clear hcz
      have a1 := B178.out.c1
      have hnz := nR_is F1.out
      rw [hnz.1] at cz
      cases ho : ordB p with
      | false =>
        go_wp2_with fail
        go_ret
        exact ⟨rfl, hb186.out⟩
      | true =>
        have hne : ((p.length : Int) == ((nR sz1 : Nat) : Int)) = false := by rw [beq_eq_false_iff_ne]; intro e; exact F2.out ⟨ho, by omega⟩
        go_wp2_with fail
        go_ret
        exact ⟨rfl, hb186.out⟩
theorem gmixed_walk (HS : CSo) (HU : CUp) (HA : CAt) (c1 : Bool) (sa1 : Option Addr) (sc1 : Nat) (sz1 : List Int) (da1 : Option Addr) (dc1 : Nat) (dz1 : List Int) (pa : Option Addr) (pc : Nat) (p : List Int) (hp9 : p.length ≤ 9223372036854775807) (w : World) (w8 : IsArrD w sa1 sz1 sc1 da1 dz1 dc1) (wp : IsInts w.heap.size w pa p) :
    Calls Try.prog 6 #[.agg #[.bool c1, .slice sa1 sz1.length sc1, .slice da1 dz1.length dc1], .slice pa p.length pc] w fun e w' => e = .returned (.bool true) ∧ Below w.heap.size w w' := by
  by_cases h1 : gdE c1 sz1 dz1 = 0
  · by_cases h2 : ordB p = true ∧ p.length = nR sz1
    · exact mixed_ok HS HU HA c1 sa1 sc1 sz1 da1 dc1 dz1 pa pc p hp9 w w8 wp h1 h2
    · exact mixed_un HS HU HA c1 sa1 sc1 sz1 da1 dc1 dz1 pa pc p hp9 w w8 wp h1 h2
  · exact mixed_no HS HU HA c1 sa1 sc1 sz1 da1 dc1 dz1 pa pc p hp9 w w8 wp h1
end Go.Proofs.Yteddkfeiikdekaa
