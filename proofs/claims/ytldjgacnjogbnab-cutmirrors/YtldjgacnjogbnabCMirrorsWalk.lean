/-
  The walk of the statement CutMirrors, given what the program tells.
-/
import Derived.Test.YtldjgacnjogbnabCutx
import Derived.Test.YtldjgacnjogbnabCutn
import Derived.Test.YtldjgacnjogbnabCutr
import Derived.Test.YtldjgacnjogbnabJoinc
import Derived.Test.YtldjgacnjogbnabMidc
import Derived.Test.YtldjgacnjogbnabRevb
namespace Go.Proofs.Ytldjgacnjogbnab
open Go.RowKit
set_option linter.unusedVariables false

theorem lit_all {xs : List Int} (h : xs.all (fun x => decide (-9223372036854775808 ≤ x ∧ x ≤ 9223372036854775807)) = true) : ∀ j, In64 (nth xs j) := fun j => by
  by_cases hj : j < xs.length
  · have : nth xs j ∈ xs := by simp [nth, hj]
    exact of_decide_eq_true (p := -9223372036854775808 ≤ nth xs j ∧ nth xs j ≤ 9223372036854775807) (List.all_eq_true.1 h _ this)
  · have : nth xs j = 0 := by simp [nth, List.getElem?_eq_none (Nat.le_of_not_lt hj)]
    rw [this]; unfold In64; decide
theorem jn_facts {x : Nat} {c : Bool} {s dz : List Int} {c' : Bool} {s' dz' : List Int} (h : jnE x c s dz c' s' dz' = 0) (T : ∀ j, In64 (nth dz j)) (T' : ∀ j, In64 (nth dz' j)) : (jnS x s s').length ≤ 6 ∧ (jnD x s dz s' dz').length ≤ 4096 ∧ ∀ j, In64 (nth (jnD x s dz s' dz') j) := by
  have h7 := (jnZ.1 h).2.2.2.2.2.2
  refine ⟨(errOf_zero.1 h7).1, ?_, ?_⟩
  · unfold jnD; rw [TA_length]; exact (errS h7).2
  · have := jn_64 h T T'
    rw [Int.toNat_natCast] at this
    exact this
theorem rvb_ok (c : Bool) (sa : Option Addr) (sc : Nat) (sz : List Int) (da : Option Addr) (dc : Nat) (dz : List Int) (w : World) (h1 : sz.length ≤ 9223372036854775807) (h2 : dz.length ≤ 9223372036854775807) (hs : IsC w.heap.size w sa sz sc) (hd : IsC w.heap.size w da dz dc) (T : ∀ j, In64 (nth dz j)) (D : List Int) (H : CRvB) (x : Int) (hx : In64 x) (h : axE x c sz dz = 0 ∧ rvG x sz dz = D) :
    Calls Try.prog 17 #[.int .i64 x, .agg #[.bool c, .slice sa sz.length sc, .slice da dz.length dc]] w (OkB c sz D w) :=
  (H x c sa sc sz da dc dz w hx h1 h2 hs hd.1 T).mono fun r w' h' => UB.ok ⟨h.1, rfl, h.2⟩ h'
theorem rv_facts {x : Int} {c : Bool} {s dz : List Int} (h : axE x c s dz = 0) (T : ∀ j, In64 (nth dz j)) : s.length ≤ 6 ∧ (rvG x s dz).length ≤ 4096 ∧ ∀ j, In64 (nth (rvG x s dz) j) := by
  have he := (axE_err h).1
  refine ⟨(errOf_zero.1 he).1, ?_, GA_64 T⟩
  unfold rvG; rw [GA_length]; exact (errS he).2
set_option maxRecDepth 100000 in
set_option maxHeartbeats 8000000 in
theorem mirrors_no (HT : CTk) (HJ : CJn) (HR : CRvB) (x : Int) (hx : In64 x) (c1 : Bool) (sa1 : Option Addr) (sc1 : Nat) (sz1 : List Int) (da1 : Option Addr) (dc1 : Nat) (dz1 : List Int) (c2 : Bool) (sa2 : Option Addr) (sc2 : Nat) (sz2 : List Int) (da2 : Option Addr) (dc2 : Nat) (dz2 : List Int) (n : Int) (hn : In64 n) (w : World) (w9_1 : IsArrD w sa1 sz1 sc1 da1 dz1 dc1) (w9_2 : IsArrD w sa2 sz2 sc2 da2 dz2 dc2) (E1 : Hid (jnE x c1 sz1 dz1 c2 sz2 dz2 ≠ 0)) :
    Calls Try.prog 6 #[.int .i64 x, .agg #[.bool c1, .slice sa1 sz1.length sc1, .slice da1 dz1.length dc1], .agg #[.bool c2, .slice sa2 sz2.length sc2, .slice da2 dz2.length dc2], .int .i64 n] w fun e w' => e = .returned (.bool true) ∧ Below w.heap.size w w' := by
  obtain ⟨x1_1, x2_1, x3, x4, s64, T⟩ := w9_1
  have HI1 : Hid (IsC w.heap.size w sa1 sz1 sc1 ∧ IsC w.heap.size w da1 dz1 dc1 ∧ ∀ j, In64 (nth dz1 j)) := ⟨x3, x4, T⟩
  clear x3 x4 T s64
  obtain ⟨x1_2, x2_2, x3, x4, s64, T⟩ := w9_2
  have HI2 : Hid (IsC w.heap.size w sa2 sz2 sc2 ∧ IsC w.heap.size w da2 dz2 dc2 ∧ ∀ j, In64 (nth dz2 j)) := ⟨x3, x4, T⟩
  clear x3 x4 T s64
  have n1 := Abx.new w (.bool c1) (.slice sa1 sz1.length sc1) (.slice da1 dz1.length dc1)
  have n2 := Abx.new (w.alloc (.cells #[.bool c1, .slice sa1 sz1.length sc1, .slice da1 dz1.length dc1] 24)) (.bool c2) (.slice sa2 sz2.length sc2) (.slice da2 dz2.length dc2)
  simp only [World.size_alloc] at n2
  have n3 := lit_mid ((w.alloc (.cells #[.bool c1, .slice sa1 sz1.length sc1, .slice da1 dz1.length dc1] 24)).alloc (.cells #[.bool c2, .slice sa2 sz2.length sc2, .slice da2 dz2.length dc2] 24)) 3 [1] 1 rfl
  simp only [World.size_alloc, List.map_cons, List.map_nil] at n3
  go_enter Try.func6, Try.ntmps6
  go_wp2_with fail
  obtain ⟨u4, hu4⟩ : ∃ u4, u4 = (((w.alloc (.cells #[.bool c1, .slice sa1 sz1.length sc1, .slice da1 dz1.length dc1] 24)).alloc (.cells #[.bool c2, .slice sa2 sz2.length sc2, .slice da2 dz2.length dc2] 24)).alloc (.cells #[.int .i64 1] 3)) := ⟨_, rfl⟩
  rw [← hu4]
  have z5 : w.heap.size + 1 + 1 + 1 ≤ u4.heap.size := by rw [hu4]; simp only [World.size_alloc]; omega
  have B6 : Hid (Abx u4 (w.heap.size) (.bool c1) (.slice sa1 sz1.length sc1) (.slice da1 dz1.length dc1)) := by rw [hu4]; exact ((n1.al (.cells #[.bool c2, .slice sa2 sz2.length sc2, .slice da2 dz2.length dc2] 24)).al (.cells #[.int .i64 1] 3))
  have B7 : Hid (Abx u4 (w.heap.size + 1) (.bool c2) (.slice sa2 sz2.length sc2) (.slice da2 dz2.length dc2)) := by rw [hu4]; exact (n2.al (.cells #[.int .i64 1] 3))
  have L8 : Hid (MidC (w.heap.size + 1 + 1) (w.heap.size + 1 + 1 + 1) u4 (some ⟨w.heap.size + 1 + 1, 0, none⟩) ([1]) (1)) := by rw [hu4]; exact n3
  have hb9 : Hid (Below w.heap.size w u4) := by rw [hu4]; exact ((((Below.refl w.heap.size w).alloc (by omega) (.cells #[.bool c1, .slice sa1 sz1.length sc1, .slice da1 dz1.length dc1] 24)).alloc (by simp only [World.size_alloc]; omega) (.cells #[.bool c2, .slice sa2 sz2.length sc2, .slice da2 dz2.length dc2] 24)).alloc (by simp only [World.size_alloc]; omega) (.cells #[.int .i64 1] 3))
  have zu4 : w.heap.size ≤ u4.heap.size := hb9.out.size
  clear hu4 n1 n2 n3
  refine (vec_c (some ⟨w.heap.size + 1 + 1, 0, none⟩) 1 [1] (by simp) _ (L8.out.is (by omega)).1).mono ?_
  rintro e v1 ⟨va1, vc1, ga1, gc1, rfl, hV, hG, hB⟩
  have z10 : u4.heap.size ≤ v1.heap.size := hB.size
  have B11 : Hid (Abx v1 (w.heap.size) (.bool c1) (.slice sa1 sz1.length sc1) (.slice da1 dz1.length dc1)) := B6.out.go hB
  have B12 : Hid (Abx v1 (w.heap.size + 1) (.bool c2) (.slice sa2 sz2.length sc2) (.slice da2 dz2.length dc2)) := B7.out.go hB
  have L13 : Hid (MidC (w.heap.size + 1 + 1) (w.heap.size + 1 + 1 + 1) v1 (some ⟨w.heap.size + 1 + 1, 0, none⟩) ([1]) (1)) := L8.out.go (by omega) hB
  have hb14 : Hid (Below w.heap.size w v1) := hb9.out.trans (hB.mono hb9.out.size)
  have L15 : Hid (MidC (u4.heap.size) (v1.heap.size) v1 (va1) ([(1 : Int)]) (vc1)) := hV.midc
  have L16 : Hid (MidC (u4.heap.size) (v1.heap.size) v1 (ga1) ([1]) (gc1)) := hG.midc
  clear hB hb9 B6 B7 L8 hV hG
  clear L13
  have n17 := lit_mid v1 3 [2, 3] 2 rfl
  simp only [List.map_cons, List.map_nil] at n17
  go_wp2_with fail
  obtain ⟨u18, hu18⟩ : ∃ u18, u18 = (v1.alloc (.cells #[.int .i64 2, .int .i64 3] 3)) := ⟨_, rfl⟩
  rw [← hu18]
  have z19 : v1.heap.size + 1 ≤ u18.heap.size := by rw [hu18]; simp only [World.size_alloc]; omega
  have B20 : Hid (Abx u18 (w.heap.size) (.bool c1) (.slice sa1 sz1.length sc1) (.slice da1 dz1.length dc1)) := by rw [hu18]; exact (B11.out.al (.cells #[.int .i64 2, .int .i64 3] 3))
  have B21 : Hid (Abx u18 (w.heap.size + 1) (.bool c2) (.slice sa2 sz2.length sc2) (.slice da2 dz2.length dc2)) := by rw [hu18]; exact (B12.out.al (.cells #[.int .i64 2, .int .i64 3] 3))
  have L22 : Hid (MidC (u4.heap.size) (v1.heap.size) u18 (va1) ([(1 : Int)]) (vc1)) := by rw [hu18]; exact (L15.out.al (by omega) (.cells #[.int .i64 2, .int .i64 3] 3))
  have L23 : Hid (MidC (u4.heap.size) (v1.heap.size) u18 (ga1) ([1]) (gc1)) := by rw [hu18]; exact (L16.out.al (by omega) (.cells #[.int .i64 2, .int .i64 3] 3))
  have L24 : Hid (MidC (v1.heap.size) (v1.heap.size + 1) u18 (some ⟨v1.heap.size, 0, none⟩) ([2, 3]) (2)) := by rw [hu18]; exact n17
  have hb25 : Hid (Below w.heap.size w u18) := by rw [hu18]; exact (hb14.out.alloc (by omega) (.cells #[.int .i64 2, .int .i64 3] 3))
  have zu18 : w.heap.size ≤ u18.heap.size := hb25.out.size
  clear hu18 n17 hb14 B11 B12 L15 L16
  refine (vec_c (some ⟨v1.heap.size, 0, none⟩) 2 [2, 3] (by simp) _ (L24.out.is (by omega)).1).mono ?_
  rintro e v2 ⟨va2, vc2, ga2, gc2, rfl, hV, hG, hB⟩
  have z26 : u18.heap.size ≤ v2.heap.size := hB.size
  have B27 : Hid (Abx v2 (w.heap.size) (.bool c1) (.slice sa1 sz1.length sc1) (.slice da1 dz1.length dc1)) := B20.out.go hB
  have B28 : Hid (Abx v2 (w.heap.size + 1) (.bool c2) (.slice sa2 sz2.length sc2) (.slice da2 dz2.length dc2)) := B21.out.go hB
  have L29 : Hid (MidC (u4.heap.size) (v1.heap.size) v2 (va1) ([(1 : Int)]) (vc1)) := L22.out.go (by omega) hB
  have L30 : Hid (MidC (u4.heap.size) (v1.heap.size) v2 (ga1) ([1]) (gc1)) := L23.out.go (by omega) hB
  have L31 : Hid (MidC (v1.heap.size) (v1.heap.size + 1) v2 (some ⟨v1.heap.size, 0, none⟩) ([2, 3]) (2)) := L24.out.go (by omega) hB
  have hb32 : Hid (Below w.heap.size w v2) := hb25.out.trans (hB.mono hb25.out.size)
  have L33 : Hid (MidC (u18.heap.size) (v2.heap.size) v2 (va2) ([(2 : Int)]) (vc2)) := hV.midc
  have L34 : Hid (MidC (u18.heap.size) (v2.heap.size) v2 (ga2) ([2, 3]) (gc2)) := hG.midc
  clear hB hb25 B20 B21 L22 L23 L24 hV hG
  clear L31
  go_wp2_with fail
  refine (jn_ok 0 (by unfold In64; decide) false va1 vc1 [1] ga1 gc1 [1] false va2 vc2 [2] ga2 gc2 [2, 3] _ (by simp) (by simp) (L29.out.is (by omega)) (L30.out.is (by omega)) (lit_all (by decide)) (by simp) (by simp) (L33.out.is (by omega)) (L34.out.is (by omega)) (lit_all (by decide)) [3] [1, 2, 3] HJ (by decide)).mono ?_
  rintro e v3 ⟨f1, g1, f2, g2, rfl, hX0, hY0, hB⟩
  have z35 : v2.heap.size ≤ v3.heap.size := hB.size
  have B36 : Hid (Abx v3 (w.heap.size) (.bool c1) (.slice sa1 sz1.length sc1) (.slice da1 dz1.length dc1)) := B27.out.go hB
  have B37 : Hid (Abx v3 (w.heap.size + 1) (.bool c2) (.slice sa2 sz2.length sc2) (.slice da2 dz2.length dc2)) := B28.out.go hB
  have L38 : Hid (MidC (u4.heap.size) (v1.heap.size) v3 (va1) ([(1 : Int)]) (vc1)) := L29.out.go (by omega) hB
  have L39 : Hid (MidC (u4.heap.size) (v1.heap.size) v3 (ga1) ([1]) (gc1)) := L30.out.go (by omega) hB
  have L40 : Hid (MidC (u18.heap.size) (v2.heap.size) v3 (va2) ([(2 : Int)]) (vc2)) := L33.out.go (by omega) hB
  have L41 : Hid (MidC (u18.heap.size) (v2.heap.size) v3 (ga2) ([2, 3]) (gc2)) := L34.out.go (by omega) hB
  have hb42 : Hid (Below w.heap.size w v3) := hb32.out.trans (hB.mono hb32.out.size)
  have L43 : Hid (MidC (v2.heap.size) (v3.heap.size) v3 (f1) ([3]) (g1)) := hX0.midc
  have L44 : Hid (MidC (v2.heap.size) (v3.heap.size) v3 (f2) ([1, 2, 3]) (g2)) := hY0.midc
  clear hB hb32 B27 B28 L29 L30 L33 L34 hX0 hY0
  clear L38 L39 L40 L41
  have n45 := Abx.new v3 (.bool false) (.slice f1 1 g1) (.slice f2 3 g2)
  have l46 := (n45).c0
  have l47 := (n45).c1
  have l48 := (n45).c2
  have n49 := lit_mid (v3.alloc (.cells #[.bool false, .slice f1 1 g1, .slice f2 3 g2] 24)) 3 [1, 2, 3] 3 rfl
  simp only [World.size_alloc, List.map_cons, List.map_nil] at n49
  go_wp2_with fail
  obtain ⟨u50, hu50⟩ : ∃ u50, u50 = ((v3.alloc (.cells #[.bool false, .slice f1 1 g1, .slice f2 3 g2] 24)).alloc (.cells #[.int .i64 1, .int .i64 2, .int .i64 3] 3)) := ⟨_, rfl⟩
  rw [← hu50]
  have z51 : v3.heap.size + 1 + 1 ≤ u50.heap.size := by rw [hu50]; simp only [World.size_alloc]; omega
  have B52 : Hid (Abx u50 (w.heap.size) (.bool c1) (.slice sa1 sz1.length sc1) (.slice da1 dz1.length dc1)) := by rw [hu50]; exact ((B36.out.al (.cells #[.bool false, .slice f1 1 g1, .slice f2 3 g2] 24)).al (.cells #[.int .i64 1, .int .i64 2, .int .i64 3] 3))
  have B53 : Hid (Abx u50 (w.heap.size + 1) (.bool c2) (.slice sa2 sz2.length sc2) (.slice da2 dz2.length dc2)) := by rw [hu50]; exact ((B37.out.al (.cells #[.bool false, .slice f1 1 g1, .slice f2 3 g2] 24)).al (.cells #[.int .i64 1, .int .i64 2, .int .i64 3] 3))
  have B54 : Hid (Abx u50 (v3.heap.size) (.bool false) (.slice f1 1 g1) (.slice f2 3 g2)) := by rw [hu50]; exact (n45.al (.cells #[.int .i64 1, .int .i64 2, .int .i64 3] 3))
  have L55 : Hid (MidC (v2.heap.size) (v3.heap.size) u50 (f1) ([3]) (g1)) := by rw [hu50]; exact ((L43.out.al (by omega) (.cells #[.bool false, .slice f1 1 g1, .slice f2 3 g2] 24)).al (by simp only [World.size_alloc]; omega) (.cells #[.int .i64 1, .int .i64 2, .int .i64 3] 3))
  have L56 : Hid (MidC (v2.heap.size) (v3.heap.size) u50 (f2) ([1, 2, 3]) (g2)) := by rw [hu50]; exact ((L44.out.al (by omega) (.cells #[.bool false, .slice f1 1 g1, .slice f2 3 g2] 24)).al (by simp only [World.size_alloc]; omega) (.cells #[.int .i64 1, .int .i64 2, .int .i64 3] 3))
  have L57 : Hid (MidC (v3.heap.size + 1) (v3.heap.size + 1 + 1) u50 (some ⟨v3.heap.size + 1, 0, none⟩) ([1, 2, 3]) (3)) := by rw [hu50]; exact n49
  have hb58 : Hid (Below w.heap.size w u50) := by rw [hu50]; exact ((hb42.out.alloc (by omega) (.cells #[.bool false, .slice f1 1 g1, .slice f2 3 g2] 24)).alloc (by simp only [World.size_alloc]; omega) (.cells #[.int .i64 1, .int .i64 2, .int .i64 3] 3))
  have zu50 : w.heap.size ≤ u50.heap.size := hb58.out.size
  clear hu50 n45 l46 l47 l48 n49 hb42 B36 B37 L43 L44
  refine (ints_any f2 g2 [1, 2, 3] (some ⟨v3.heap.size + 1, 0, none⟩) 3 [1, 2, 3] (by simp) _ _ (L56.out.is (by omega)).1 (L57.out.is (by omega)).1).mono ?_
  rintro e v4 ⟨rfl, hB⟩
  have z59 : u50.heap.size ≤ v4.heap.size := hB.size
  have B60 : Hid (Abx v4 (w.heap.size) (.bool c1) (.slice sa1 sz1.length sc1) (.slice da1 dz1.length dc1)) := B52.out.go hB
  have B61 : Hid (Abx v4 (w.heap.size + 1) (.bool c2) (.slice sa2 sz2.length sc2) (.slice da2 dz2.length dc2)) := B53.out.go hB
  have B62 : Hid (Abx v4 (v3.heap.size) (.bool false) (.slice f1 1 g1) (.slice f2 3 g2)) := B54.out.go hB
  have L63 : Hid (MidC (v2.heap.size) (v3.heap.size) v4 (f1) ([3]) (g1)) := L55.out.go (by omega) hB
  have L64 : Hid (MidC (v2.heap.size) (v3.heap.size) v4 (f2) ([1, 2, 3]) (g2)) := L56.out.go (by omega) hB
  have L65 : Hid (MidC (v3.heap.size + 1) (v3.heap.size + 1 + 1) v4 (some ⟨v3.heap.size + 1, 0, none⟩) ([1, 2, 3]) (3)) := L57.out.go (by omega) hB
  have hb66 : Hid (Below w.heap.size w v4) := hb58.out.trans (hB.mono hb58.out.size)
  clear hB hb58 B52 B53 B54 L55 L56 L57
  rw [eqB_true rfl]
  clear L63 L64 L65 B62
  have l67 := (B60.out).c0
  have l68 := (B60.out).c1
  have l69 := (B60.out).c2
  have l70 := (B61.out).c0
  have l71 := (B61.out).c1
  have l72 := (B61.out).c2
  go_wp2_with fail
  clear l67 l68 l69 l70 l71 l72
  refine (jn_no x hx c1 sa1 sc1 sz1 da1 dc1 dz1 c2 sa2 sc2 sz2 da2 dc2 dz2 _ x1_1 x2_1 ((HI1.out.1.below hb66.out).mono hb66.out.size) ((HI1.out.2.1.below hb66.out).mono hb66.out.size) HI1.out.2.2 x1_2 x2_2 ((HI2.out.1.below hb66.out).mono hb66.out.size) ((HI2.out.2.1.below hb66.out).mono hb66.out.size) HI2.out.2.2 HJ E1.out).mono ?_
  rintro e v5 ⟨xa9, xc9, ya9, yc9, rfl, hB⟩
  have z73 : v4.heap.size ≤ v5.heap.size := hB.size
  have B74 : Hid (Abx v5 (w.heap.size) (.bool c1) (.slice sa1 sz1.length sc1) (.slice da1 dz1.length dc1)) := B60.out.go hB
  have B75 : Hid (Abx v5 (w.heap.size + 1) (.bool c2) (.slice sa2 sz2.length sc2) (.slice da2 dz2.length dc2)) := B61.out.go hB
  have hb76 : Hid (Below w.heap.size w v5) := hb66.out.trans (hB.mono hb66.out.size)
  clear hB hb66 B60 B61
  go_wp2_with fail
  go_ret
  exact ⟨rfl, hb76.out.alloc hb76.out.size _⟩
end Go.Proofs.Ytldjgacnjogbnab
