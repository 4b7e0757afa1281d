/-
  The walk of the statement SeekOnce, given what the program tells.
-/
import Derived.Test.YteieliajdfbipaaSekw
import Derived.Test.YteieliajdfbipaaMidc
import Derived.Test.YteieliajdfbipaaSarr
import Derived.Test.YteieliajdfbipaaVec
import Derived.Deep.QuietTactic
import Derived.BigQuiet
import Derived.WalkSmall
namespace Go.Proofs.Yteieliajdfbipaa
open Go.RowKit
set_option linter.unusedVariables false

theorem lit_all {xs : List Int} (h : xs.all (fun x => decide (-9223372036854775808 ≤ x ∧ x ≤ 9223372036854775807)) = true) : ∀ j, In64 (nth xs j) := fun j => by
  by_cases hj : j < xs.length
  · have : nth xs j ∈ xs := by simp [nth, hj]
    exact of_decide_eq_true (p := -9223372036854775808 ≤ nth xs j ∧ nth xs j ≤ 9223372036854775807) (List.all_eq_true.1 h _ this)
  · have : nth xs j = 0 := by simp [nth, List.getElem?_eq_none (Nat.le_of_not_lt hj)]
    rw [this]; unfold In64; decide
set_option maxRecDepth 100000 in
set_option maxHeartbeats 8000000 in
theorem once_no (HNb : CNb) (HIx : CIx) (HIn : CIn) (c1 : Bool) (sa1 : Option Addr) (sc1 : Nat) (sz1 : List Int) (da1 : Option Addr) (dc1 : Nat) (dz1 : List Int) (w : World) (w8 : IsArrD w sa1 sz1 sc1 da1 dz1 dc1) (F1 : Hid (nbE c1 sz1 dz1 ≠ 0)) :
    Calls Try.prog 4 #[.agg #[.bool c1, .slice sa1 sz1.length sc1, .slice da1 dz1.length dc1]] w fun e w' => e = .returned (.bool true) ∧ Below w.heap.size w w' := by
  obtain ⟨x11, x12, x3, x4, s64, T⟩ := w8
  have HI1 : Hid (IsC w.heap.size w sa1 sz1 sc1 ∧ IsC w.heap.size w da1 dz1 dc1 ∧ (∀ j, In64 (nth sz1 j)) ∧ ∀ j, In64 (nth dz1 j)) := ⟨x3, x4, s64, T⟩
  clear x3 x4 T s64
  have n1 := Abx.new w (.bool c1) (.slice sa1 sz1.length sc1) (.slice da1 dz1.length dc1)
  have n2 := lit_mid (w.alloc (.cells #[.bool c1, .slice sa1 sz1.length sc1, .slice da1 dz1.length dc1] 24)) 3 [5, 6, 5] 3 rfl
  simp only [World.size_alloc, List.map_cons, List.map_nil] at n2
  go_enter Try.func4, Try.ntmps4
  go_wp2_with fail
  obtain ⟨wo3, hwo3⟩ : ∃ wo3, wo3 = ((w.alloc (.cells #[.bool c1, .slice sa1 sz1.length sc1, .slice da1 dz1.length dc1] 24)).alloc (.cells #[.int .i64 5, .int .i64 6, .int .i64 5] 3)) := ⟨_, rfl⟩
  rw [← hwo3]
  have z4 : w.heap.size + 1 + 1 ≤ wo3.heap.size := by rw [hwo3]; simp only [World.size_alloc]; omega
  have B5 : Hid (Abx wo3 (w.heap.size) (.bool c1) (.slice sa1 sz1.length sc1) (.slice da1 dz1.length dc1)) := by rw [hwo3]; exact (n1.al (.cells #[.int .i64 5, .int .i64 6, .int .i64 5] 3))
  have L6 : Hid (MidC (w.heap.size + 1) (w.heap.size + 1 + 1) wo3 (some ⟨w.heap.size + 1, 0, none⟩) ([5, 6, 5]) (3)) := by rw [hwo3]; exact n2
  have hb7 : Hid (Below w.heap.size w wo3) := by rw [hwo3]; exact (((Below.refl w.heap.size w).alloc (by omega) (.cells #[.bool c1, .slice sa1 sz1.length sc1, .slice da1 dz1.length dc1] 24)).alloc (by simp only [World.size_alloc]; omega) (.cells #[.int .i64 5, .int .i64 6, .int .i64 5] 3))
  have zwo3 : w.heap.size ≤ wo3.heap.size := hb7.out.size
  clear hwo3 n1 n2
  refine (vec_c (some ⟨w.heap.size + 1, 0, none⟩) 3 [5, 6, 5] (by simp) _ (L6.out.is (by omega)).1).mono ?_
  rintro e v1 ⟨vap, vcp, gap, gcp, rfl, hVp, hGp, hB⟩
  have z8 : wo3.heap.size ≤ v1.heap.size := hB.size
  have B9 : Hid (Abx v1 (w.heap.size) (.bool c1) (.slice sa1 sz1.length sc1) (.slice da1 dz1.length dc1)) := B5.out.go hB
  have L10 : Hid (MidC (w.heap.size + 1) (w.heap.size + 1 + 1) v1 (some ⟨w.heap.size + 1, 0, none⟩) ([5, 6, 5]) (3)) := L6.out.go (by omega) hB
  have hb11 : Hid (Below w.heap.size w v1) := hb7.out.trans (hB.mono hb7.out.size)
  have L12 : Hid (MidC (wo3.heap.size) (v1.heap.size) v1 (vap) ([(3 : Int)]) (vcp)) := hVp.midc
  have L13 : Hid (MidC (wo3.heap.size) (v1.heap.size) v1 (gap) ([5, 6, 5]) (gcp)) := hGp.midc
  clear hB hb7 B5 L6 hVp hGp
  clear L10
  go_wp2_with fail
  refine (nb_ok false vap vcp [(3 : Int)] 1 rfl gap gcp [5, 6, 5] _ (by decide) (by simp) (L12.out.is (by omega)).1 (L13.out.is (by omega)).1  (lit_all (by decide)) [2] [5, 6] HNb (by decide)).mono ?_
  rintro e v2 ⟨f1, g1, f2, g2, rfl, hX0, hY0, hB⟩
  have z14 : v1.heap.size ≤ v2.heap.size := hB.size
  have B15 : Hid (Abx v2 (w.heap.size) (.bool c1) (.slice sa1 sz1.length sc1) (.slice da1 dz1.length dc1)) := B9.out.go hB
  have L16 : Hid (MidC (wo3.heap.size) (v1.heap.size) v2 (vap) ([(3 : Int)]) (vcp)) := L12.out.go (by omega) hB
  have L17 : Hid (MidC (wo3.heap.size) (v1.heap.size) v2 (gap) ([5, 6, 5]) (gcp)) := L13.out.go (by omega) hB
  have hb18 : Hid (Below w.heap.size w v2) := hb11.out.trans (hB.mono hb11.out.size)
  have L19 : Hid (MidC (v1.heap.size) (v2.heap.size) v2 (f1) ([2]) (g1)) := hX0.midc
  have L20 : Hid (MidC (v1.heap.size) (v2.heap.size) v2 (f2) ([5, 6]) (g2)) := hY0.midc
  clear hB hb11 B9 L12 L13 hX0 hY0
  clear L16 L17
  have n21 := Abx.new v2 (.bool false) (.slice f1 1 g1) (.slice f2 2 g2)
  have l22 := (n21).c0
  have l23 := (n21).c1
  have l24 := (n21).c2
  have n25 := lit_mid (v2.alloc (.cells #[.bool false, .slice f1 1 g1, .slice f2 2 g2] 24)) 3 [5, 6] 2 rfl
  simp only [World.size_alloc, List.map_cons, List.map_nil] at n25
  go_wp2_with fail
  obtain ⟨wo26, hwo26⟩ : ∃ wo26, wo26 = ((v2.alloc (.cells #[.bool false, .slice f1 1 g1, .slice f2 2 g2] 24)).alloc (.cells #[.int .i64 5, .int .i64 6] 3)) := ⟨_, rfl⟩
  rw [← hwo26]
  have z27 : v2.heap.size + 1 + 1 ≤ wo26.heap.size := by rw [hwo26]; simp only [World.size_alloc]; omega
  have B28 : Hid (Abx wo26 (w.heap.size) (.bool c1) (.slice sa1 sz1.length sc1) (.slice da1 dz1.length dc1)) := by rw [hwo26]; exact ((B15.out.al (.cells #[.bool false, .slice f1 1 g1, .slice f2 2 g2] 24)).al (.cells #[.int .i64 5, .int .i64 6] 3))
  have B29 : Hid (Abx wo26 (v2.heap.size) (.bool false) (.slice f1 1 g1) (.slice f2 2 g2)) := by rw [hwo26]; exact (n21.al (.cells #[.int .i64 5, .int .i64 6] 3))
  have L30 : Hid (MidC (v1.heap.size) (v2.heap.size) wo26 (f1) ([2]) (g1)) := by rw [hwo26]; exact ((L19.out.al (by omega) (.cells #[.bool false, .slice f1 1 g1, .slice f2 2 g2] 24)).al (by simp only [World.size_alloc]; omega) (.cells #[.int .i64 5, .int .i64 6] 3))
  have L31 : Hid (MidC (v1.heap.size) (v2.heap.size) wo26 (f2) ([5, 6]) (g2)) := by rw [hwo26]; exact ((L20.out.al (by omega) (.cells #[.bool false, .slice f1 1 g1, .slice f2 2 g2] 24)).al (by simp only [World.size_alloc]; omega) (.cells #[.int .i64 5, .int .i64 6] 3))
  have L32 : Hid (MidC (v2.heap.size + 1) (v2.heap.size + 1 + 1) wo26 (some ⟨v2.heap.size + 1, 0, none⟩) ([5, 6]) (2)) := by rw [hwo26]; exact n25
  have hb33 : Hid (Below w.heap.size w wo26) := by rw [hwo26]; exact ((hb18.out.alloc (by omega) (.cells #[.bool false, .slice f1 1 g1, .slice f2 2 g2] 24)).alloc (by simp only [World.size_alloc]; omega) (.cells #[.int .i64 5, .int .i64 6] 3))
  have zwo26 : w.heap.size ≤ wo26.heap.size := hb33.out.size
  clear hwo26 n21 l22 l23 l24 n25 hb18 B15 L19 L20
  refine (ints_any f2 g2 [5, 6] (some ⟨v2.heap.size + 1, 0, none⟩) 2 [5, 6] (by simp) _ _ (L31.out.is (by omega)).1 (L32.out.is (by omega)).1).mono ?_
  rintro e v3 ⟨rfl, hB⟩
  have z34 : wo26.heap.size ≤ v3.heap.size := hB.size
  have B35 : Hid (Abx v3 (w.heap.size) (.bool c1) (.slice sa1 sz1.length sc1) (.slice da1 dz1.length dc1)) := B28.out.go hB
  have B36 : Hid (Abx v3 (v2.heap.size) (.bool false) (.slice f1 1 g1) (.slice f2 2 g2)) := B29.out.go hB
  have L37 : Hid (MidC (v1.heap.size) (v2.heap.size) v3 (f1) ([2]) (g1)) := L30.out.go (by omega) hB
  have L38 : Hid (MidC (v1.heap.size) (v2.heap.size) v3 (f2) ([5, 6]) (g2)) := L31.out.go (by omega) hB
  have L39 : Hid (MidC (v2.heap.size + 1) (v2.heap.size + 1 + 1) v3 (some ⟨v2.heap.size + 1, 0, none⟩) ([5, 6]) (2)) := L32.out.go (by omega) hB
  have hb40 : Hid (Below w.heap.size w v3) := hb33.out.trans (hB.mono hb33.out.size)
  clear hB hb33 B28 B29 L30 L31 L32
  rw [eqB_true rfl]
  clear L37 L38 L39 B36
  have l41 := (B35.out).c0
  have l42 := (B35.out).c1
  have l43 := (B35.out).c2
  go_wp2_with fail
  clear l41 l42 l43
  refine (nb_no c1 sa1 sc1 sz1 sz1.length rfl da1 dc1 dz1 _ x11 x12 ((HI1.out.1.1.below hb40.out).mono hb40.out.size) ((HI1.out.2.1.1.below hb40.out).mono hb40.out.size) HI1.out.2.2.2 HNb F1.out).mono ?_
  rintro e v4 ⟨xa1, xc1, ya1, yc1, rfl, hB⟩
  have z44 : v3.heap.size ≤ v4.heap.size := hB.size
  have B45 : Hid (Abx v4 (w.heap.size) (.bool c1) (.slice sa1 sz1.length sc1) (.slice da1 dz1.length dc1)) := B35.out.go hB
  have hb46 : Hid (Below w.heap.size w v4) := hb40.out.trans (hB.mono hb40.out.size)
  clear hB hb40 B35
  have n47 := Abx.new v4 (.bool false) (.slice xa1 0 xc1) (.slice ya1 0 yc1)
  go_wp2_with fail
  obtain ⟨wo48, hwo48⟩ : ∃ wo48, wo48 = (v4.alloc (.cells #[.bool false, .slice xa1 0 xc1, .slice ya1 0 yc1] 24)) := ⟨_, rfl⟩
  rw [← hwo48]
  have z49 : v4.heap.size + 1 ≤ wo48.heap.size := by rw [hwo48]; simp only [World.size_alloc]; omega
  have B50 : Hid (Abx wo48 (w.heap.size) (.bool c1) (.slice sa1 sz1.length sc1) (.slice da1 dz1.length dc1)) := by rw [hwo48]; exact (B45.out.al (.cells #[.bool false, .slice xa1 0 xc1, .slice ya1 0 yc1] 24))
  have B51 : Hid (Abx wo48 (v4.heap.size) (.bool false) (.slice xa1 0 xc1) (.slice ya1 0 yc1)) := by rw [hwo48]; exact n47
  have hb52 : Hid (Below w.heap.size w wo48) := by rw [hwo48]; exact (hb46.out.alloc (by omega) (.cells #[.bool false, .slice xa1 0 xc1, .slice ya1 0 yc1] 24))
  have zwo48 : w.heap.size ≤ wo48.heap.size := hb52.out.size
  clear hwo48 n47 hb46 B45
  go_wp2_with fail
  go_ret
  exact ⟨rfl, hb52.out⟩
set_option maxRecDepth 100000 in
set_option maxHeartbeats 8000000 in
theorem once_ok (HNb : CNb) (HIx : CIx) (HIn : CIn) (c1 : Bool) (sa1 : Option Addr) (sc1 : Nat) (sz1 : List Int) (da1 : Option Addr) (dc1 : Nat) (dz1 : List Int) (w : World) (w8 : IsArrD w sa1 sz1 sc1 da1 dz1 dc1) (F1 : Hid (nbE c1 sz1 dz1 = 0)) :
    Calls Try.prog 4 #[.agg #[.bool c1, .slice sa1 sz1.length sc1, .slice da1 dz1.length dc1]] w fun e w' => e = .returned (.bool true) ∧ Below w.heap.size w w' := by
  have T1 := w8.2.2.2.2.2
  obtain ⟨fa, la⟩ := nbE_zero.1 F1.out
  have hd1 : dz1.length ≤ 4096 := (flawE_short fa).2
  obtain ⟨X, hX⟩ : ∃ X, X = nbL dz1 := ⟨_, rfl⟩
  obtain ⟨P, hP⟩ : ∃ P, P = ixD c1 dz1 c1 X := ⟨_, rfl⟩
  obtain ⟨N, hN⟩ : ∃ N, N = inD c1 dz1 c1 X := ⟨_, rfl⟩
  have hXl : X.length ≤ 4096 := by rw [hX]; exact Nat.le_trans nbL_le hd1
  have hPl : P.length = X.length := by rw [hP]; exact ixD_length
  have hNl : N.length = dz1.length := by rw [hN]; exact inD_length
  have fX : flawE c1 [(X.length : Int)] X = 0 := by rw [hX]; exact nb_flaw fa
  have HX : Hid (nbE c1 sz1 dz1 = 0 ∧ [((nbL dz1).length : Int)] = [(X.length : Int)] ∧ nbL dz1 = X) := by rw [hX]; exact ⟨F1.out, rfl, rfl⟩
  have HY : Hid (nbE c1 [(X.length : Int)] X = 0 ∧ [((nbL X).length : Int)] = [(X.length : Int)] ∧ nbL X = X) := by have e : nbL X = X := (by rw [hX]; exact nb_nb); exact ⟨nbE_zero.2 ⟨fX, rfl⟩, by rw [e], e⟩
  have HP : Hid (ixE c1 sz1 dz1 c1 [(X.length : Int)] X = 0 ∧ ixD c1 dz1 c1 X = P) := ⟨ixE_zero.2 ⟨fa, fX, la⟩, hP.symm⟩
  have HN : Hid (flawsE c1 sz1 dz1 c1 [(X.length : Int)] X = 0 ∧ inD c1 dz1 c1 X = N) := ⟨flawsE_zero.2 ⟨fa, fX⟩, hN.symm⟩
  have HPF : Hid ((∀ i, i < P.length → nth P i < (dz1.length : Int)) ∧ ∀ i, i + 1 < P.length → nth P i < nth P (i + 1)) := by
    have hr := nbK_rise (dz := dz1) c1 dz1.length (Nat.le_refl _)
    have hn : ∀ i, i < P.length → nth P i = (fdN c1 c1 (nth (nbK dz1 dz1.length) i) dz1 : Int) := fun i hi => by rw [hP, ixD_nth (by omega), hX]; rfl
    have hl : P.length = (nbK dz1 dz1.length).length := by rw [hPl, hX]; rfl
    refine ⟨fun i hi => ?_, fun i hi => ?_⟩
    · rw [hn i hi]; have := hr.1 i (by omega); omega
    · rw [hn i (by omega), hn (i + 1) hi]; have := hr.2 i (by omega); omega
  have HNF : Hid (∀ i, i < N.length → nth N i = 1) := fun i hi => by rw [hN, inD_nth (by omega), if_pos (hsB_iff.2 ⟨rfl, by rw [hX]; exact (nbL_mem _).2 (nth_mem _ _ (by omega))⟩)]
  have HT : Hid (∀ j, In64 (nth X j)) := by rw [hX]; exact nbL_64 T1
  have hs6 : sz1.length ≤ 6 := (flawE_short fa).1
  have HLn : Hid (P.length = X.length ∧ N.length = dz1.length) := ⟨hPl, hNl⟩
  have hP4 : P.length ≤ 4096 := by omega
  have hN4 : N.length ≤ 4096 := by omega
  clear fa la fX hX hP hN T1 hPl hNl
  obtain ⟨x11, x12, x3, x4, s64, T⟩ := w8
  have HI1 : Hid (IsC w.heap.size w sa1 sz1 sc1 ∧ IsC w.heap.size w da1 dz1 dc1 ∧ (∀ j, In64 (nth sz1 j)) ∧ ∀ j, In64 (nth dz1 j)) := ⟨x3, x4, s64, T⟩
  clear x3 x4 T s64
  have n1 := Abx.new w (.bool c1) (.slice sa1 sz1.length sc1) (.slice da1 dz1.length dc1)
  have n2 := lit_mid (w.alloc (.cells #[.bool c1, .slice sa1 sz1.length sc1, .slice da1 dz1.length dc1] 24)) 3 [5, 6, 5] 3 rfl
  simp only [World.size_alloc, List.map_cons, List.map_nil] at n2
  go_enter Try.func4, Try.ntmps4
  go_wp2_with fail
  obtain ⟨wo3, hwo3⟩ : ∃ wo3, wo3 = ((w.alloc (.cells #[.bool c1, .slice sa1 sz1.length sc1, .slice da1 dz1.length dc1] 24)).alloc (.cells #[.int .i64 5, .int .i64 6, .int .i64 5] 3)) := ⟨_, rfl⟩
  rw [← hwo3]
  have z4 : w.heap.size + 1 + 1 ≤ wo3.heap.size := by rw [hwo3]; simp only [World.size_alloc]; omega
  have B5 : Hid (Abx wo3 (w.heap.size) (.bool c1) (.slice sa1 sz1.length sc1) (.slice da1 dz1.length dc1)) := by rw [hwo3]; exact (n1.al (.cells #[.int .i64 5, .int .i64 6, .int .i64 5] 3))
  have L6 : Hid (MidC (w.heap.size + 1) (w.heap.size + 1 + 1) wo3 (some ⟨w.heap.size + 1, 0, none⟩) ([5, 6, 5]) (3)) := by rw [hwo3]; exact n2
  have hb7 : Hid (Below w.heap.size w wo3) := by rw [hwo3]; exact (((Below.refl w.heap.size w).alloc (by omega) (.cells #[.bool c1, .slice sa1 sz1.length sc1, .slice da1 dz1.length dc1] 24)).alloc (by simp only [World.size_alloc]; omega) (.cells #[.int .i64 5, .int .i64 6, .int .i64 5] 3))
  have zwo3 : w.heap.size ≤ wo3.heap.size := hb7.out.size
  clear hwo3 n1 n2
  refine (vec_c (some ⟨w.heap.size + 1, 0, none⟩) 3 [5, 6, 5] (by simp) _ (L6.out.is (by omega)).1).mono ?_
  rintro e v1 ⟨vap, vcp, gap, gcp, rfl, hVp, hGp, hB⟩
  have z8 : wo3.heap.size ≤ v1.heap.size := hB.size
  have B9 : Hid (Abx v1 (w.heap.size) (.bool c1) (.slice sa1 sz1.length sc1) (.slice da1 dz1.length dc1)) := B5.out.go hB
  have L10 : Hid (MidC (w.heap.size + 1) (w.heap.size + 1 + 1) v1 (some ⟨w.heap.size + 1, 0, none⟩) ([5, 6, 5]) (3)) := L6.out.go (by omega) hB
  have hb11 : Hid (Below w.heap.size w v1) := hb7.out.trans (hB.mono hb7.out.size)
  have L12 : Hid (MidC (wo3.heap.size) (v1.heap.size) v1 (vap) ([(3 : Int)]) (vcp)) := hVp.midc
  have L13 : Hid (MidC (wo3.heap.size) (v1.heap.size) v1 (gap) ([5, 6, 5]) (gcp)) := hGp.midc
  clear hB hb7 B5 L6 hVp hGp
  clear L10
  go_wp2_with fail
  refine (nb_ok false vap vcp [(3 : Int)] 1 rfl gap gcp [5, 6, 5] _ (by decide) (by simp) (L12.out.is (by omega)).1 (L13.out.is (by omega)).1  (lit_all (by decide)) [2] [5, 6] HNb (by decide)).mono ?_
  rintro e v2 ⟨f1, g1, f2, g2, rfl, hX0, hY0, hB⟩
  have z14 : v1.heap.size ≤ v2.heap.size := hB.size
  have B15 : Hid (Abx v2 (w.heap.size) (.bool c1) (.slice sa1 sz1.length sc1) (.slice da1 dz1.length dc1)) := B9.out.go hB
  have L16 : Hid (MidC (wo3.heap.size) (v1.heap.size) v2 (vap) ([(3 : Int)]) (vcp)) := L12.out.go (by omega) hB
  have L17 : Hid (MidC (wo3.heap.size) (v1.heap.size) v2 (gap) ([5, 6, 5]) (gcp)) := L13.out.go (by omega) hB
  have hb18 : Hid (Below w.heap.size w v2) := hb11.out.trans (hB.mono hb11.out.size)
  have L19 : Hid (MidC (v1.heap.size) (v2.heap.size) v2 (f1) ([2]) (g1)) := hX0.midc
  have L20 : Hid (MidC (v1.heap.size) (v2.heap.size) v2 (f2) ([5, 6]) (g2)) := hY0.midc
  clear hB hb11 B9 L12 L13 hX0 hY0
  clear L16 L17
  have n21 := Abx.new v2 (.bool false) (.slice f1 1 g1) (.slice f2 2 g2)
  have l22 := (n21).c0
  have l23 := (n21).c1
  have l24 := (n21).c2
  have n25 := lit_mid (v2.alloc (.cells #[.bool false, .slice f1 1 g1, .slice f2 2 g2] 24)) 3 [5, 6] 2 rfl
  simp only [World.size_alloc, List.map_cons, List.map_nil] at n25
  go_wp2_with fail
  obtain ⟨wo26, hwo26⟩ : ∃ wo26, wo26 = ((v2.alloc (.cells #[.bool false, .slice f1 1 g1, .slice f2 2 g2] 24)).alloc (.cells #[.int .i64 5, .int .i64 6] 3)) := ⟨_, rfl⟩
  rw [← hwo26]
  have z27 : v2.heap.size + 1 + 1 ≤ wo26.heap.size := by rw [hwo26]; simp only [World.size_alloc]; omega
  have B28 : Hid (Abx wo26 (w.heap.size) (.bool c1) (.slice sa1 sz1.length sc1) (.slice da1 dz1.length dc1)) := by rw [hwo26]; exact ((B15.out.al (.cells #[.bool false, .slice f1 1 g1, .slice f2 2 g2] 24)).al (.cells #[.int .i64 5, .int .i64 6] 3))
  have B29 : Hid (Abx wo26 (v2.heap.size) (.bool false) (.slice f1 1 g1) (.slice f2 2 g2)) := by rw [hwo26]; exact (n21.al (.cells #[.int .i64 5, .int .i64 6] 3))
  have L30 : Hid (MidC (v1.heap.size) (v2.heap.size) wo26 (f1) ([2]) (g1)) := by rw [hwo26]; exact ((L19.out.al (by omega) (.cells #[.bool false, .slice f1 1 g1, .slice f2 2 g2] 24)).al (by simp only [World.size_alloc]; omega) (.cells #[.int .i64 5, .int .i64 6] 3))
  have L31 : Hid (MidC (v1.heap.size) (v2.heap.size) wo26 (f2) ([5, 6]) (g2)) := by rw [hwo26]; exact ((L20.out.al (by omega) (.cells #[.bool false, .slice f1 1 g1, .slice f2 2 g2] 24)).al (by simp only [World.size_alloc]; omega) (.cells #[.int .i64 5, .int .i64 6] 3))
  have L32 : Hid (MidC (v2.heap.size + 1) (v2.heap.size + 1 + 1) wo26 (some ⟨v2.heap.size + 1, 0, none⟩) ([5, 6]) (2)) := by rw [hwo26]; exact n25
  have hb33 : Hid (Below w.heap.size w wo26) := by rw [hwo26]; exact ((hb18.out.alloc (by omega) (.cells #[.bool false, .slice f1 1 g1, .slice f2 2 g2] 24)).alloc (by simp only [World.size_alloc]; omega) (.cells #[.int .i64 5, .int .i64 6] 3))
  have zwo26 : w.heap.size ≤ wo26.heap.size := hb33.out.size
  clear hwo26 n21 l22 l23 l24 n25 hb18 B15 L19 L20
  refine (ints_any f2 g2 [5, 6] (some ⟨v2.heap.size + 1, 0, none⟩) 2 [5, 6] (by simp) _ _ (L31.out.is (by omega)).1 (L32.out.is (by omega)).1).mono ?_
  rintro e v3 ⟨rfl, hB⟩
  have z34 : wo26.heap.size ≤ v3.heap.size := hB.size
  have B35 : Hid (Abx v3 (w.heap.size) (.bool c1) (.slice sa1 sz1.length sc1) (.slice da1 dz1.length dc1)) := B28.out.go hB
  have B36 : Hid (Abx v3 (v2.heap.size) (.bool false) (.slice f1 1 g1) (.slice f2 2 g2)) := B29.out.go hB
  have L37 : Hid (MidC (v1.heap.size) (v2.heap.size) v3 (f1) ([2]) (g1)) := L30.out.go (by omega) hB
  have L38 : Hid (MidC (v1.heap.size) (v2.heap.size) v3 (f2) ([5, 6]) (g2)) := L31.out.go (by omega) hB
  have L39 : Hid (MidC (v2.heap.size + 1) (v2.heap.size + 1 + 1) v3 (some ⟨v2.heap.size + 1, 0, none⟩) ([5, 6]) (2)) := L32.out.go (by omega) hB
  have hb40 : Hid (Below w.heap.size w v3) := hb33.out.trans (hB.mono hb33.out.size)
  clear hB hb33 B28 B29 L30 L31 L32
  rw [eqB_true rfl]
  clear L37 L38 L39 B36
  have l41 := (B35.out).c0
  have l42 := (B35.out).c1
  have l43 := (B35.out).c2
  go_wp2_with fail
  clear l41 l42 l43
  refine (nb_ok c1 sa1 sc1 sz1 sz1.length rfl da1 dc1 dz1 _ x11 x12 ((HI1.out.1.1.below hb40.out).mono hb40.out.size) ((HI1.out.2.1.1.below hb40.out).mono hb40.out.size) HI1.out.2.2.2 [(X.length : Int)] X HNb HX.out).mono ?_
  rintro e v4 ⟨xa1, xc1, ya1, yc1, rfl, hX1, hY1, hB⟩
  have z44 : v3.heap.size ≤ v4.heap.size := hB.size
  have B45 : Hid (Abx v4 (w.heap.size) (.bool c1) (.slice sa1 sz1.length sc1) (.slice da1 dz1.length dc1)) := B35.out.go hB
  have hb46 : Hid (Below w.heap.size w v4) := hb40.out.trans (hB.mono hb40.out.size)
  have L47 : Hid (MidC (v3.heap.size) (v4.heap.size) v4 (xa1) ([(X.length : Int)]) (xc1)) := hX1.midc
  have L48 : Hid (MidC (v3.heap.size) (v4.heap.size) v4 (ya1) (X) (yc1)) := hY1.midc
  clear hB hb40 B35 hX1 hY1
  have n49 := Abx.new v4 (.bool c1) (.slice xa1 1 xc1) (.slice ya1 X.length yc1)
  have l50 := (n49).c0
  have l51 := (n49).c1
  have l52 := (n49).c2
  go_wp2_with fail
  obtain ⟨wo53, hwo53⟩ : ∃ wo53, wo53 = (v4.alloc (.cells #[.bool c1, .slice xa1 1 xc1, .slice ya1 X.length yc1] 24)) := ⟨_, rfl⟩
  rw [← hwo53]
  have z54 : v4.heap.size + 1 ≤ wo53.heap.size := by rw [hwo53]; simp only [World.size_alloc]; omega
  have B55 : Hid (Abx wo53 (w.heap.size) (.bool c1) (.slice sa1 sz1.length sc1) (.slice da1 dz1.length dc1)) := by rw [hwo53]; exact (B45.out.al (.cells #[.bool c1, .slice xa1 1 xc1, .slice ya1 X.length yc1] 24))
  have B56 : Hid (Abx wo53 (v4.heap.size) (.bool c1) (.slice xa1 1 xc1) (.slice ya1 X.length yc1)) := by rw [hwo53]; exact n49
  have L57 : Hid (MidC (v3.heap.size) (v4.heap.size) wo53 (xa1) ([(X.length : Int)]) (xc1)) := by rw [hwo53]; exact (L47.out.al (by omega) (.cells #[.bool c1, .slice xa1 1 xc1, .slice ya1 X.length yc1] 24))
  have L58 : Hid (MidC (v3.heap.size) (v4.heap.size) wo53 (ya1) (X) (yc1)) := by rw [hwo53]; exact (L48.out.al (by omega) (.cells #[.bool c1, .slice xa1 1 xc1, .slice ya1 X.length yc1] 24))
  have hb59 : Hid (Below w.heap.size w wo53) := by rw [hwo53]; exact (hb46.out.alloc (by omega) (.cells #[.bool c1, .slice xa1 1 xc1, .slice ya1 X.length yc1] 24))
  have zwo53 : w.heap.size ≤ wo53.heap.size := hb59.out.size
  clear hwo53 n49 l50 l51 l52 hb46 B45 L47 L48
  refine (nb_ok c1 xa1 xc1 [(X.length : Int)] 1 rfl ya1 yc1 X _ (by decide) (by omega) (L57.out.is (by omega)).1 (L58.out.is (by omega)).1 HT.out [(X.length : Int)] X HNb HY.out).mono ?_
  rintro e v5 ⟨xa2, xc2, ya2, yc2, rfl, hX2, hY2, hB⟩
  have z60 : wo53.heap.size ≤ v5.heap.size := hB.size
  have B61 : Hid (Abx v5 (w.heap.size) (.bool c1) (.slice sa1 sz1.length sc1) (.slice da1 dz1.length dc1)) := B55.out.go hB
  have B62 : Hid (Abx v5 (v4.heap.size) (.bool c1) (.slice xa1 1 xc1) (.slice ya1 X.length yc1)) := B56.out.go hB
  have L63 : Hid (MidC (v3.heap.size) (v4.heap.size) v5 (xa1) ([(X.length : Int)]) (xc1)) := L57.out.go (by omega) hB
  have L64 : Hid (MidC (v3.heap.size) (v4.heap.size) v5 (ya1) (X) (yc1)) := L58.out.go (by omega) hB
  have hb65 : Hid (Below w.heap.size w v5) := hb59.out.trans (hB.mono hb59.out.size)
  have L66 : Hid (MidC (wo53.heap.size) (v5.heap.size) v5 (xa2) ([(X.length : Int)]) (xc2)) := hX2.midc
  have L67 : Hid (MidC (wo53.heap.size) (v5.heap.size) v5 (ya2) (X) (yc2)) := hY2.midc
  clear hB hb59 B55 B56 L57 L58 hX2 hY2
  have n68 := Abx.new v5 (.bool c1) (.slice xa2 1 xc2) (.slice ya2 X.length yc2)
  have l69 := (n68).c0
  have l70 := (n68).c1
  have l71 := (n68).c2
  have l72 := ((B62.out.al (.cells #[.bool c1, .slice xa2 1 xc2, .slice ya2 X.length yc2] 24))).c0
  have l73 := ((B62.out.al (.cells #[.bool c1, .slice xa2 1 xc2, .slice ya2 X.length yc2] 24))).c1
  have l74 := ((B62.out.al (.cells #[.bool c1, .slice xa2 1 xc2, .slice ya2 X.length yc2] 24))).c2
  go_wp2_with fail
  obtain ⟨wo75, hwo75⟩ : ∃ wo75, wo75 = (v5.alloc (.cells #[.bool c1, .slice xa2 1 xc2, .slice ya2 X.length yc2] 24)) := ⟨_, rfl⟩
  rw [← hwo75]
  have z76 : v5.heap.size + 1 ≤ wo75.heap.size := by rw [hwo75]; simp only [World.size_alloc]; omega
  have B77 : Hid (Abx wo75 (w.heap.size) (.bool c1) (.slice sa1 sz1.length sc1) (.slice da1 dz1.length dc1)) := by rw [hwo75]; exact (B61.out.al (.cells #[.bool c1, .slice xa2 1 xc2, .slice ya2 X.length yc2] 24))
  have B78 : Hid (Abx wo75 (v4.heap.size) (.bool c1) (.slice xa1 1 xc1) (.slice ya1 X.length yc1)) := by rw [hwo75]; exact (B62.out.al (.cells #[.bool c1, .slice xa2 1 xc2, .slice ya2 X.length yc2] 24))
  have B79 : Hid (Abx wo75 (v5.heap.size) (.bool c1) (.slice xa2 1 xc2) (.slice ya2 X.length yc2)) := by rw [hwo75]; exact n68
  have L80 : Hid (MidC (v3.heap.size) (v4.heap.size) wo75 (xa1) ([(X.length : Int)]) (xc1)) := by rw [hwo75]; exact (L63.out.al (by omega) (.cells #[.bool c1, .slice xa2 1 xc2, .slice ya2 X.length yc2] 24))
  have L81 : Hid (MidC (v3.heap.size) (v4.heap.size) wo75 (ya1) (X) (yc1)) := by rw [hwo75]; exact (L64.out.al (by omega) (.cells #[.bool c1, .slice xa2 1 xc2, .slice ya2 X.length yc2] 24))
  have L82 : Hid (MidC (wo53.heap.size) (v5.heap.size) wo75 (xa2) ([(X.length : Int)]) (xc2)) := by rw [hwo75]; exact (L66.out.al (by omega) (.cells #[.bool c1, .slice xa2 1 xc2, .slice ya2 X.length yc2] 24))
  have L83 : Hid (MidC (wo53.heap.size) (v5.heap.size) wo75 (ya2) (X) (yc2)) := by rw [hwo75]; exact (L67.out.al (by omega) (.cells #[.bool c1, .slice xa2 1 xc2, .slice ya2 X.length yc2] 24))
  have hb84 : Hid (Below w.heap.size w wo75) := by rw [hwo75]; exact (hb65.out.alloc (by omega) (.cells #[.bool c1, .slice xa2 1 xc2, .slice ya2 X.length yc2] 24))
  have zwo75 : w.heap.size ≤ wo75.heap.size := hb84.out.size
  clear hwo75 n68 l69 l70 l71 l72 l73 l74 hb65 B61 B62 L63 L64 L66 L67
  refine (alike_eq c1 xa2 xc2 [(X.length : Int)] ya2 yc2 X xa1 xc1 [(X.length : Int)] ya1 yc1 X rfl rfl (by simp) (by omega) _ (L82.out.is (by omega)) (L83.out.is (by omega)).1 (L80.out.is (by omega)) (L81.out.is (by omega)).1).mono ?_
  rintro e v6 ⟨rfl, hB⟩
  have z85 : wo75.heap.size ≤ v6.heap.size := hB.size
  have B86 : Hid (Abx v6 (w.heap.size) (.bool c1) (.slice sa1 sz1.length sc1) (.slice da1 dz1.length dc1)) := B77.out.go hB
  have B87 : Hid (Abx v6 (v4.heap.size) (.bool c1) (.slice xa1 1 xc1) (.slice ya1 X.length yc1)) := B78.out.go hB
  have B88 : Hid (Abx v6 (v5.heap.size) (.bool c1) (.slice xa2 1 xc2) (.slice ya2 X.length yc2)) := B79.out.go hB
  have L89 : Hid (MidC (v3.heap.size) (v4.heap.size) v6 (xa1) ([(X.length : Int)]) (xc1)) := L80.out.go (by omega) hB
  have L90 : Hid (MidC (v3.heap.size) (v4.heap.size) v6 (ya1) (X) (yc1)) := L81.out.go (by omega) hB
  have L91 : Hid (MidC (wo53.heap.size) (v5.heap.size) v6 (xa2) ([(X.length : Int)]) (xc2)) := L82.out.go (by omega) hB
  have L92 : Hid (MidC (wo53.heap.size) (v5.heap.size) v6 (ya2) (X) (yc2)) := L83.out.go (by omega) hB
  have hb93 : Hid (Below w.heap.size w v6) := hb84.out.trans (hB.mono hb84.out.size)
  clear hB hb84 B77 B78 B79 L80 L81 L82 L83
  clear L91 L92 B88
  have l94 := (B86.out).c0
  have l95 := (B86.out).c1
  have l96 := (B86.out).c2
  have l97 := (B87.out).c0
  have l98 := (B87.out).c1
  have l99 := (B87.out).c2
  go_wp2_with fail
  clear l94 l95 l96 l97 l98 l99
  refine (ix_ok c1 sa1 sc1 sz1 sz1.length rfl da1 dc1 dz1 c1 xa1 xc1 [(X.length : Int)] 1 rfl ya1 yc1 X _ x11 x12 (by decide) (by omega) ((HI1.out.1.1.below hb93.out).mono hb93.out.size) ((HI1.out.2.1.1.below hb93.out).mono hb93.out.size) (L89.out.is (by omega)).1 (L90.out.is (by omega)).1 HI1.out.2.2.2 HT.out [(X.length : Int)] P HIx ⟨HP.out.1, rfl, HP.out.2⟩).mono ?_
  rintro e v7 ⟨xa3, xc3, ya3, yc3, rfl, hX3, hY3, hB⟩
  have z100 : v6.heap.size ≤ v7.heap.size := hB.size
  have B101 : Hid (Abx v7 (w.heap.size) (.bool c1) (.slice sa1 sz1.length sc1) (.slice da1 dz1.length dc1)) := B86.out.go hB
  have B102 : Hid (Abx v7 (v4.heap.size) (.bool c1) (.slice xa1 1 xc1) (.slice ya1 X.length yc1)) := B87.out.go hB
  have L103 : Hid (MidC (v3.heap.size) (v4.heap.size) v7 (xa1) ([(X.length : Int)]) (xc1)) := L89.out.go (by omega) hB
  have L104 : Hid (MidC (v3.heap.size) (v4.heap.size) v7 (ya1) (X) (yc1)) := L90.out.go (by omega) hB
  have hb105 : Hid (Below w.heap.size w v7) := hb93.out.trans (hB.mono hb93.out.size)
  have L106 : Hid (MidC (v6.heap.size) (v7.heap.size) v7 (xa3) ([(X.length : Int)]) (xc3)) := hX3.midc
  have L107 : Hid (MidC (v6.heap.size) (v7.heap.size) v7 (ya3) (P) (yc3)) := hY3.midc
  clear hB hb93 B86 B87 L89 L90 hX3 hY3
  have n108 := Abx.new v7 (.bool false) (.slice xa3 1 xc3) (.slice ya3 P.length yc3)
  have l109 := ((B101.out.al (.cells #[.bool false, .slice xa3 1 xc3, .slice ya3 P.length yc3] 24))).c0
  have l110 := ((B101.out.al (.cells #[.bool false, .slice xa3 1 xc3, .slice ya3 P.length yc3] 24))).c1
  have l111 := ((B101.out.al (.cells #[.bool false, .slice xa3 1 xc3, .slice ya3 P.length yc3] 24))).c2
  have l112 := ((B102.out.al (.cells #[.bool false, .slice xa3 1 xc3, .slice ya3 P.length yc3] 24))).c0
  have l113 := ((B102.out.al (.cells #[.bool false, .slice xa3 1 xc3, .slice ya3 P.length yc3] 24))).c1
  have l114 := ((B102.out.al (.cells #[.bool false, .slice xa3 1 xc3, .slice ya3 P.length yc3] 24))).c2
  go_wp2_with fail
  obtain ⟨wo115, hwo115⟩ : ∃ wo115, wo115 = (v7.alloc (.cells #[.bool false, .slice xa3 1 xc3, .slice ya3 P.length yc3] 24)) := ⟨_, rfl⟩
  rw [← hwo115]
  have z116 : v7.heap.size + 1 ≤ wo115.heap.size := by rw [hwo115]; simp only [World.size_alloc]; omega
  have B117 : Hid (Abx wo115 (w.heap.size) (.bool c1) (.slice sa1 sz1.length sc1) (.slice da1 dz1.length dc1)) := by rw [hwo115]; exact (B101.out.al (.cells #[.bool false, .slice xa3 1 xc3, .slice ya3 P.length yc3] 24))
  have B118 : Hid (Abx wo115 (v4.heap.size) (.bool c1) (.slice xa1 1 xc1) (.slice ya1 X.length yc1)) := by rw [hwo115]; exact (B102.out.al (.cells #[.bool false, .slice xa3 1 xc3, .slice ya3 P.length yc3] 24))
  have B119 : Hid (Abx wo115 (v7.heap.size) (.bool false) (.slice xa3 1 xc3) (.slice ya3 P.length yc3)) := by rw [hwo115]; exact n108
  have L120 : Hid (MidC (v3.heap.size) (v4.heap.size) wo115 (xa1) ([(X.length : Int)]) (xc1)) := by rw [hwo115]; exact (L103.out.al (by omega) (.cells #[.bool false, .slice xa3 1 xc3, .slice ya3 P.length yc3] 24))
  have L121 : Hid (MidC (v3.heap.size) (v4.heap.size) wo115 (ya1) (X) (yc1)) := by rw [hwo115]; exact (L104.out.al (by omega) (.cells #[.bool false, .slice xa3 1 xc3, .slice ya3 P.length yc3] 24))
  have L122 : Hid (MidC (v6.heap.size) (v7.heap.size) wo115 (xa3) ([(X.length : Int)]) (xc3)) := by rw [hwo115]; exact (L106.out.al (by omega) (.cells #[.bool false, .slice xa3 1 xc3, .slice ya3 P.length yc3] 24))
  have L123 : Hid (MidC (v6.heap.size) (v7.heap.size) wo115 (ya3) (P) (yc3)) := by rw [hwo115]; exact (L107.out.al (by omega) (.cells #[.bool false, .slice xa3 1 xc3, .slice ya3 P.length yc3] 24))
  have hb124 : Hid (Below w.heap.size w wo115) := by rw [hwo115]; exact (hb105.out.alloc (by omega) (.cells #[.bool false, .slice xa3 1 xc3, .slice ya3 P.length yc3] 24))
  have zwo115 : w.heap.size ≤ wo115.heap.size := hb124.out.size
  clear hwo115 n108 l109 l110 l111 l112 l113 l114 hb105 B101 B102 L103 L104 L106 L107
  refine (in_ok c1 sa1 sc1 sz1 sz1.length rfl da1 dc1 dz1 c1 xa1 xc1 [(X.length : Int)] 1 rfl ya1 yc1 X _ x11 x12 (by decide) (by omega) ((HI1.out.1.1.below hb124.out).mono hb124.out.size) ((HI1.out.2.1.1.below hb124.out).mono hb124.out.size) (L120.out.is (by omega)).1 (L121.out.is (by omega)).1 HI1.out.2.2.2 HT.out sz1 N HIn ⟨HN.out.1, rfl, HN.out.2⟩).mono ?_
  rintro e v8 ⟨xa4, xc4, ya4, yc4, rfl, hX4, hY4, hB⟩
  have z125 : wo115.heap.size ≤ v8.heap.size := hB.size
  have B126 : Hid (Abx v8 (w.heap.size) (.bool c1) (.slice sa1 sz1.length sc1) (.slice da1 dz1.length dc1)) := B117.out.go hB
  have B127 : Hid (Abx v8 (v4.heap.size) (.bool c1) (.slice xa1 1 xc1) (.slice ya1 X.length yc1)) := B118.out.go hB
  have B128 : Hid (Abx v8 (v7.heap.size) (.bool false) (.slice xa3 1 xc3) (.slice ya3 P.length yc3)) := B119.out.go hB
  have L129 : Hid (MidC (v3.heap.size) (v4.heap.size) v8 (xa1) ([(X.length : Int)]) (xc1)) := L120.out.go (by omega) hB
  have L130 : Hid (MidC (v3.heap.size) (v4.heap.size) v8 (ya1) (X) (yc1)) := L121.out.go (by omega) hB
  have L131 : Hid (MidC (v6.heap.size) (v7.heap.size) v8 (xa3) ([(X.length : Int)]) (xc3)) := L122.out.go (by omega) hB
  have L132 : Hid (MidC (v6.heap.size) (v7.heap.size) v8 (ya3) (P) (yc3)) := L123.out.go (by omega) hB
  have hb133 : Hid (Below w.heap.size w v8) := hb124.out.trans (hB.mono hb124.out.size)
  have L134 : Hid (MidC (wo115.heap.size) (v8.heap.size) v8 (xa4) (sz1) (xc4)) := hX4.midc
  have L135 : Hid (MidC (wo115.heap.size) (v8.heap.size) v8 (ya4) (N) (yc4)) := hY4.midc
  clear hB hb124 B117 B118 B119 L120 L121 L122 L123 hX4 hY4
  clear L129 L130
  have tl : ((P.length : Int) != (X.length : Int)) = false := by rw [HLn.out.1]; simp
  have tl2 : ((N.length : Int) != (dz1.length : Int)) = false := by rw [HLn.out.2]; simp
  have n136 := Abx.new v8 (.bool false) (.slice xa4 sz1.length xc4) (.slice ya4 N.length yc4)
  have l137 := ((B128.out.al (.cells #[.bool false, .slice xa4 sz1.length xc4, .slice ya4 N.length yc4] 24))).c0
  have l138 := ((B128.out.al (.cells #[.bool false, .slice xa4 sz1.length xc4, .slice ya4 N.length yc4] 24))).c1
  have l139 := ((B128.out.al (.cells #[.bool false, .slice xa4 sz1.length xc4, .slice ya4 N.length yc4] 24))).c2
  have l140 := ((B127.out.al (.cells #[.bool false, .slice xa4 sz1.length xc4, .slice ya4 N.length yc4] 24))).c0
  have l141 := ((B127.out.al (.cells #[.bool false, .slice xa4 sz1.length xc4, .slice ya4 N.length yc4] 24))).c1
  have l142 := ((B127.out.al (.cells #[.bool false, .slice xa4 sz1.length xc4, .slice ya4 N.length yc4] 24))).c2
  have l143 := (n136).c0
  have l144 := (n136).c1
  have l145 := (n136).c2
  have l146 := ((B126.out.al (.cells #[.bool false, .slice xa4 sz1.length xc4, .slice ya4 N.length yc4] 24))).c0
  have l147 := ((B126.out.al (.cells #[.bool false, .slice xa4 sz1.length xc4, .slice ya4 N.length yc4] 24))).c1
  have l148 := ((B126.out.al (.cells #[.bool false, .slice xa4 sz1.length xc4, .slice ya4 N.length yc4] 24))).c2
  go_wp2_with fail
  obtain ⟨wo149, hwo149⟩ : ∃ wo149, wo149 = (v8.alloc (.cells #[.bool false, .slice xa4 sz1.length xc4, .slice ya4 N.length yc4] 24)) := ⟨_, rfl⟩
  rw [← hwo149]
  have z150 : v8.heap.size + 1 ≤ wo149.heap.size := by rw [hwo149]; simp only [World.size_alloc]; omega
  have B151 : Hid (Abx wo149 (w.heap.size) (.bool c1) (.slice sa1 sz1.length sc1) (.slice da1 dz1.length dc1)) := by rw [hwo149]; exact (B126.out.al (.cells #[.bool false, .slice xa4 sz1.length xc4, .slice ya4 N.length yc4] 24))
  have B152 : Hid (Abx wo149 (v4.heap.size) (.bool c1) (.slice xa1 1 xc1) (.slice ya1 X.length yc1)) := by rw [hwo149]; exact (B127.out.al (.cells #[.bool false, .slice xa4 sz1.length xc4, .slice ya4 N.length yc4] 24))
  have B153 : Hid (Abx wo149 (v7.heap.size) (.bool false) (.slice xa3 1 xc3) (.slice ya3 P.length yc3)) := by rw [hwo149]; exact (B128.out.al (.cells #[.bool false, .slice xa4 sz1.length xc4, .slice ya4 N.length yc4] 24))
  have B154 : Hid (Abx wo149 (v8.heap.size) (.bool false) (.slice xa4 sz1.length xc4) (.slice ya4 N.length yc4)) := by rw [hwo149]; exact n136
  have L155 : Hid (MidC (v6.heap.size) (v7.heap.size) wo149 (xa3) ([(X.length : Int)]) (xc3)) := by rw [hwo149]; exact (L131.out.al (by omega) (.cells #[.bool false, .slice xa4 sz1.length xc4, .slice ya4 N.length yc4] 24))
  have L156 : Hid (MidC (v6.heap.size) (v7.heap.size) wo149 (ya3) (P) (yc3)) := by rw [hwo149]; exact (L132.out.al (by omega) (.cells #[.bool false, .slice xa4 sz1.length xc4, .slice ya4 N.length yc4] 24))
  have L157 : Hid (MidC (wo115.heap.size) (v8.heap.size) wo149 (xa4) (sz1) (xc4)) := by rw [hwo149]; exact (L134.out.al (by omega) (.cells #[.bool false, .slice xa4 sz1.length xc4, .slice ya4 N.length yc4] 24))
  have L158 : Hid (MidC (wo115.heap.size) (v8.heap.size) wo149 (ya4) (N) (yc4)) := by rw [hwo149]; exact (L135.out.al (by omega) (.cells #[.bool false, .slice xa4 sz1.length xc4, .slice ya4 N.length yc4] 24))
  have hb159 : Hid (Below w.heap.size w wo149) := by rw [hwo149]; exact (hb133.out.alloc (by omega) (.cells #[.bool false, .slice xa4 sz1.length xc4, .slice ya4 N.length yc4] 24))
  have zwo149 : w.heap.size ≤ wo149.heap.size := hb159.out.size
  clear hwo149 n136 l137 l138 l139 l140 l141 l142 l143 l144 l145 l146 l147 l148 hb133 B126 B127 B128 L131 L132 L134 L135 tl tl2
  have ca := B153.out.c2
  have cb := B151.out.c2
  have HLA : Hid (IsInts wo149.heap.size wo149 ya3 P) := (L156.out.is (by omega)).1
  go_loopw [15] (fun i wr => ∃ k m : Nat, k ≤ P.length ∧ i = .int .i64 k ∧ wr = wo149.drewN m) (fun i _ => P.length - (intOf i).toNat)
  case atStart => exact ⟨0, 0, Nat.zero_le _, rfl, rfl⟩
  case round =>
    obtain ⟨k, m, hk, rfl, hv⟩ := hrel
    subst hv
    by_cases hlt : k < P.length
    · obtain ⟨bA, oA, rfl, _, hcA⟩ := HLA.out.at hlt
      have cA1 := hcA k hlt
      have t1 : decide (nth P k ≥ (dz1.length : Int)) = false := by have := HPF.out.1 k hlt; exact decide_eq_false (by omega)
      cases k with
      | zero =>
        clear hcA
        simp only [Nat.add_zero] at cA1
        go_wp2_with fail
        go_quiet (fail)
        go_wp2_with fail
        exact ⟨⟨1, _, by omega, by go_num, rfl⟩, by simp [intOf]; omega⟩
      | succ q =>
        have cA2 := hcA q (by omega)
        have t2 : decide (((q + 1 : Nat) : Int) > 0) = true := decide_eq_true (by omega)
        have t3 : decide (nth P (q + 1) ≤ nth P q) = false := by have := HPF.out.2 q hlt; exact decide_eq_false (by omega)
        have hq : q < P.length := by omega
        clear hcA
        go_wp2_with fail
        go_quiet (fail)
        go_wp2_with fail
        exact ⟨⟨q + 1 + 1, _, by omega, by go_num, rfl⟩, by simp [intOf]; omega⟩
    · obtain rfl : k = P.length := by omega
      obtain ⟨y0, hy0⟩ : ∃ y0, y0 = wo149.drewN m := ⟨_, rfl⟩
      have hBy : Below wo149.heap.size wo149 y0 := by rw [hy0]; exact bel_drewN (Below.refl _ _) _
      go_wp2_with fail
      rw [← hy0]
      clear ca cb
      have z160 : wo149.heap.size ≤ y0.heap.size := hBy.size
      have B161 : Hid (Abx y0 (w.heap.size) (.bool c1) (.slice sa1 sz1.length sc1) (.slice da1 dz1.length dc1)) := B151.out.go hBy
      have B162 : Hid (Abx y0 (v4.heap.size) (.bool c1) (.slice xa1 1 xc1) (.slice ya1 X.length yc1)) := B152.out.go hBy
      have B163 : Hid (Abx y0 (v7.heap.size) (.bool false) (.slice xa3 1 xc3) (.slice ya3 P.length yc3)) := B153.out.go hBy
      have B164 : Hid (Abx y0 (v8.heap.size) (.bool false) (.slice xa4 sz1.length xc4) (.slice ya4 N.length yc4)) := B154.out.go hBy
      have L165 : Hid (MidC (v6.heap.size) (v7.heap.size) y0 (xa3) ([(X.length : Int)]) (xc3)) := L155.out.go (by omega) hBy
      have L166 : Hid (MidC (v6.heap.size) (v7.heap.size) y0 (ya3) (P) (yc3)) := L156.out.go (by omega) hBy
      have L167 : Hid (MidC (wo115.heap.size) (v8.heap.size) y0 (xa4) (sz1) (xc4)) := L157.out.go (by omega) hBy
      have L168 : Hid (MidC (wo115.heap.size) (v8.heap.size) y0 (ya4) (N) (yc4)) := L158.out.go (by omega) hBy
      have hb169 : Hid (Below w.heap.size w y0) := hb159.out.trans (hBy.mono hb159.out.size)
      clear hBy hy0 HLA hb159 B151 B152 B153 B154 L155 L156 L157 L158
      clear L165 L166
      have ci := B164.out.c2
      have HLN : Hid (IsInts y0.heap.size y0 ya4 N) := (L168.out.is (by omega)).1
      go_loopw [16] (fun i wr => ∃ k : Nat, k ≤ N.length ∧ i = .int .i64 k ∧ wr = y0) (fun i _ => N.length - (intOf i).toNat)
      case atStart => exact ⟨0, Nat.zero_le _, rfl, rfl⟩
      case round =>
        obtain ⟨k, hk, rfl, hv⟩ := hrel
        obtain rfl := hv.symm
        clear hv
        by_cases hlt : k < N.length
        · obtain ⟨bN, oN, rfl, _, hcN⟩ := HLN.out.at hlt
          have cN := hcN k hlt
          rw [HNF.out k hlt] at cN
          clear hcN
          go_wp2_with fail
          exact ⟨⟨k + 1, by omega, by go_num, by first | rfl | trivial⟩, by simp [intOf]; omega⟩
        · obtain rfl : k = N.length := by omega
          go_wp2_with fail
          go_ret
          exact ⟨rfl, hb169.out⟩
theorem sonce_walk (HNb : CNb) (HIx : CIx) (HIn : CIn) (c1 : Bool) (sa1 : Option Addr) (sc1 : Nat) (sz1 : List Int) (da1 : Option Addr) (dc1 : Nat) (dz1 : List Int) (w : World) (w8 : IsArrD w sa1 sz1 sc1 da1 dz1 dc1) :
    Calls Try.prog 4 #[.agg #[.bool c1, .slice sa1 sz1.length sc1, .slice da1 dz1.length dc1]] w fun e w' => e = .returned (.bool true) ∧ Below w.heap.size w w' := by
  by_cases h1 : nbE c1 sz1 dz1 = 0
  · exact once_ok HNb HIx HIn c1 sa1 sc1 sz1 da1 dc1 dz1 w w8 h1
  · exact once_no HNb HIx HIn c1 sa1 sc1 sz1 da1 dc1 dz1 w w8 h1
end Go.Proofs.Yteieliajdfbipaa
