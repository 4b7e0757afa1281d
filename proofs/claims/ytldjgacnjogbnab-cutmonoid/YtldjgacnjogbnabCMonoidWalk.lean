/-
  The walk of the statement CutMonoid, given what the program tells.
-/
import Derived.Test.YtldjgacnjogbnabCutx
import Derived.Test.YtldjgacnjogbnabCutn
import Derived.Test.YtldjgacnjogbnabJoinc
import Derived.Test.YtldjgacnjogbnabMidc
namespace Go.Proofs.Ytldjgacnjogbnab
open Go.RowKit
set_option linter.unusedVariables false

theorem lit_all {xs : List Int} (h : xs.all (fun x => decide (-9223372036854775808 ≤ x ∧ x ≤ 9223372036854775807)) = true) : ∀ j, In64 (nth xs j) := fun j => by
  by_cases hj : j < xs.length
  · have : nth xs j ∈ xs := by simp [nth, hj]
    exact of_decide_eq_true (p := -9223372036854775808 ≤ nth xs j ∧ nth xs j ≤ 9223372036854775807) (List.all_eq_true.1 h _ this)
  · have : nth xs j = 0 := by simp [nth, List.getElem?_eq_none (Nat.le_of_not_lt hj)]
    rw [this]; unfold In64; decide
theorem jn_facts {x : Nat} {c : Bool} {s dz : List Int} {c' : Bool} {s' dz' : List Int} (h : jnE x c s dz c' s' dz' = 0) (T : ∀ j, In64 (nth dz j)) (T' : ∀ j, In64 (nth dz' j)) : (jnS x s s').length ≤ 6 ∧ (jnD x s dz s' dz').length ≤ 4096 ∧ ∀ j, In64 (nth (jnD x s dz s' dz') j) := by
  have h7 := (jnZ.1 h).2.2.2.2.2.2
  refine ⟨(errOf_zero.1 h7).1, ?_, ?_⟩
  · unfold jnD; rw [TA_length]; exact (errS h7).2
  · have := jn_64 h T T'
    rw [Int.toNat_natCast] at this
    exact this
set_option maxRecDepth 100000 in
set_option maxHeartbeats 8000000 in
theorem monoid_no1 (HT : CTk) (HJ : CJn) (x : Int) (hx : In64 x) (c1 : Bool) (sa1 : Option Addr) (sc1 : Nat) (sz1 : List Int) (da1 : Option Addr) (dc1 : Nat) (dz1 : List Int) (c2 : Bool) (sa2 : Option Addr) (sc2 : Nat) (sz2 : List Int) (da2 : Option Addr) (dc2 : Nat) (dz2 : List Int) (c3 : Bool) (sa3 : Option Addr) (sc3 : Nat) (sz3 : List Int) (da3 : Option Addr) (dc3 : Nat) (dz3 : List Int) (w : World) (w9_1 : IsArrD w sa1 sz1 sc1 da1 dz1 dc1) (w9_2 : IsArrD w sa2 sz2 sc2 da2 dz2 dc2) (w9_3 : IsArrD w sa3 sz3 sc3 da3 dz3 dc3) (E1 : Hid (jnE x c1 sz1 dz1 c2 sz2 dz2 ≠ 0)) :
    Calls Try.prog 3 #[.int .i64 x, .agg #[.bool c1, .slice sa1 sz1.length sc1, .slice da1 dz1.length dc1], .agg #[.bool c2, .slice sa2 sz2.length sc2, .slice da2 dz2.length dc2], .agg #[.bool c3, .slice sa3 sz3.length sc3, .slice da3 dz3.length dc3]] w fun e w' => e = .returned (.bool true) ∧ Below w.heap.size w w' := by
  obtain ⟨x1_1, x2_1, x3, x4, s64, T⟩ := w9_1
  have HI1 : Hid (IsC w.heap.size w sa1 sz1 sc1 ∧ IsC w.heap.size w da1 dz1 dc1 ∧ ∀ j, In64 (nth dz1 j)) := ⟨x3, x4, T⟩
  clear x3 x4 T s64
  obtain ⟨x1_2, x2_2, x3, x4, s64, T⟩ := w9_2
  have HI2 : Hid (IsC w.heap.size w sa2 sz2 sc2 ∧ IsC w.heap.size w da2 dz2 dc2 ∧ ∀ j, In64 (nth dz2 j)) := ⟨x3, x4, T⟩
  clear x3 x4 T s64
  obtain ⟨x1_3, x2_3, x3, x4, s64, T⟩ := w9_3
  have HI3 : Hid (IsC w.heap.size w sa3 sz3 sc3 ∧ IsC w.heap.size w da3 dz3 dc3 ∧ ∀ j, In64 (nth dz3 j)) := ⟨x3, x4, T⟩
  clear x3 x4 T s64
  have n1 := Abx.new w (.bool c1) (.slice sa1 sz1.length sc1) (.slice da1 dz1.length dc1)
  have n2 := Abx.new (w.alloc (.cells #[.bool c1, .slice sa1 sz1.length sc1, .slice da1 dz1.length dc1] 24)) (.bool c2) (.slice sa2 sz2.length sc2) (.slice da2 dz2.length dc2)
  simp only [World.size_alloc] at n2
  have n3 := Abx.new ((w.alloc (.cells #[.bool c1, .slice sa1 sz1.length sc1, .slice da1 dz1.length dc1] 24)).alloc (.cells #[.bool c2, .slice sa2 sz2.length sc2, .slice da2 dz2.length dc2] 24)) (.bool c3) (.slice sa3 sz3.length sc3) (.slice da3 dz3.length dc3)
  simp only [World.size_alloc] at n3
  have n4 := lit_mid (((w.alloc (.cells #[.bool c1, .slice sa1 sz1.length sc1, .slice da1 dz1.length dc1] 24)).alloc (.cells #[.bool c2, .slice sa2 sz2.length sc2, .slice da2 dz2.length dc2] 24)).alloc (.cells #[.bool c3, .slice sa3 sz3.length sc3, .slice da3 dz3.length dc3] 24)) 3 [1] 1 rfl
  simp only [World.size_alloc, List.map_cons, List.map_nil] at n4
  go_enter Try.func3, Try.ntmps3
  go_wp2_with fail
  obtain ⟨u5, hu5⟩ : ∃ u5, u5 = ((((w.alloc (.cells #[.bool c1, .slice sa1 sz1.length sc1, .slice da1 dz1.length dc1] 24)).alloc (.cells #[.bool c2, .slice sa2 sz2.length sc2, .slice da2 dz2.length dc2] 24)).alloc (.cells #[.bool c3, .slice sa3 sz3.length sc3, .slice da3 dz3.length dc3] 24)).alloc (.cells #[.int .i64 1] 3)) := ⟨_, rfl⟩
  rw [← hu5]
  have z6 : w.heap.size + 1 + 1 + 1 + 1 ≤ u5.heap.size := by rw [hu5]; simp only [World.size_alloc]; omega
  have B7 : Hid (Abx u5 (w.heap.size) (.bool c1) (.slice sa1 sz1.length sc1) (.slice da1 dz1.length dc1)) := by rw [hu5]; exact (((n1.al (.cells #[.bool c2, .slice sa2 sz2.length sc2, .slice da2 dz2.length dc2] 24)).al (.cells #[.bool c3, .slice sa3 sz3.length sc3, .slice da3 dz3.length dc3] 24)).al (.cells #[.int .i64 1] 3))
  have B8 : Hid (Abx u5 (w.heap.size + 1) (.bool c2) (.slice sa2 sz2.length sc2) (.slice da2 dz2.length dc2)) := by rw [hu5]; exact ((n2.al (.cells #[.bool c3, .slice sa3 sz3.length sc3, .slice da3 dz3.length dc3] 24)).al (.cells #[.int .i64 1] 3))
  have B9 : Hid (Abx u5 (w.heap.size + 1 + 1) (.bool c3) (.slice sa3 sz3.length sc3) (.slice da3 dz3.length dc3)) := by rw [hu5]; exact (n3.al (.cells #[.int .i64 1] 3))
  have L10 : Hid (MidC (w.heap.size + 1 + 1 + 1) (w.heap.size + 1 + 1 + 1 + 1) u5 (some ⟨w.heap.size + 1 + 1 + 1, 0, none⟩) ([1]) (1)) := by rw [hu5]; exact n4
  have hb11 : Hid (Below w.heap.size w u5) := by rw [hu5]; exact (((((Below.refl w.heap.size w).alloc (by omega) (.cells #[.bool c1, .slice sa1 sz1.length sc1, .slice da1 dz1.length dc1] 24)).alloc (by simp only [World.size_alloc]; omega) (.cells #[.bool c2, .slice sa2 sz2.length sc2, .slice da2 dz2.length dc2] 24)).alloc (by simp only [World.size_alloc]; omega) (.cells #[.bool c3, .slice sa3 sz3.length sc3, .slice da3 dz3.length dc3] 24)).alloc (by simp only [World.size_alloc]; omega) (.cells #[.int .i64 1] 3))
  have zu5 : w.heap.size ≤ u5.heap.size := hb11.out.size
  clear hu5 n1 n2 n3 n4
  refine (vec_c (some ⟨w.heap.size + 1 + 1 + 1, 0, none⟩) 1 [1] (by simp) _ (L10.out.is (by omega)).1).mono ?_
  rintro e v1 ⟨va1, vc1, ga1, gc1, rfl, hV, hG, hB⟩
  have z12 : u5.heap.size ≤ v1.heap.size := hB.size
  have B13 : Hid (Abx v1 (w.heap.size) (.bool c1) (.slice sa1 sz1.length sc1) (.slice da1 dz1.length dc1)) := B7.out.go hB
  have B14 : Hid (Abx v1 (w.heap.size + 1) (.bool c2) (.slice sa2 sz2.length sc2) (.slice da2 dz2.length dc2)) := B8.out.go hB
  have B15 : Hid (Abx v1 (w.heap.size + 1 + 1) (.bool c3) (.slice sa3 sz3.length sc3) (.slice da3 dz3.length dc3)) := B9.out.go hB
  have L16 : Hid (MidC (w.heap.size + 1 + 1 + 1) (w.heap.size + 1 + 1 + 1 + 1) v1 (some ⟨w.heap.size + 1 + 1 + 1, 0, none⟩) ([1]) (1)) := L10.out.go (by omega) hB
  have hb17 : Hid (Below w.heap.size w v1) := hb11.out.trans (hB.mono hb11.out.size)
  have L18 : Hid (MidC (u5.heap.size) (v1.heap.size) v1 (va1) ([(1 : Int)]) (vc1)) := hV.midc
  have L19 : Hid (MidC (u5.heap.size) (v1.heap.size) v1 (ga1) ([1]) (gc1)) := hG.midc
  clear hB hb11 B7 B8 B9 L10 hV hG
  clear L16
  have n20 := lit_mid v1 3 [2] 1 rfl
  simp only [List.map_cons, List.map_nil] at n20
  go_wp2_with fail
  obtain ⟨u21, hu21⟩ : ∃ u21, u21 = (v1.alloc (.cells #[.int .i64 2] 3)) := ⟨_, rfl⟩
  rw [← hu21]
  have z22 : v1.heap.size + 1 ≤ u21.heap.size := by rw [hu21]; simp only [World.size_alloc]; omega
  have B23 : Hid (Abx u21 (w.heap.size) (.bool c1) (.slice sa1 sz1.length sc1) (.slice da1 dz1.length dc1)) := by rw [hu21]; exact (B13.out.al (.cells #[.int .i64 2] 3))
  have B24 : Hid (Abx u21 (w.heap.size + 1) (.bool c2) (.slice sa2 sz2.length sc2) (.slice da2 dz2.length dc2)) := by rw [hu21]; exact (B14.out.al (.cells #[.int .i64 2] 3))
  have B25 : Hid (Abx u21 (w.heap.size + 1 + 1) (.bool c3) (.slice sa3 sz3.length sc3) (.slice da3 dz3.length dc3)) := by rw [hu21]; exact (B15.out.al (.cells #[.int .i64 2] 3))
  have L26 : Hid (MidC (u5.heap.size) (v1.heap.size) u21 (va1) ([(1 : Int)]) (vc1)) := by rw [hu21]; exact (L18.out.al (by omega) (.cells #[.int .i64 2] 3))
  have L27 : Hid (MidC (u5.heap.size) (v1.heap.size) u21 (ga1) ([1]) (gc1)) := by rw [hu21]; exact (L19.out.al (by omega) (.cells #[.int .i64 2] 3))
  have L28 : Hid (MidC (v1.heap.size) (v1.heap.size + 1) u21 (some ⟨v1.heap.size, 0, none⟩) ([2]) (1)) := by rw [hu21]; exact n20
  have hb29 : Hid (Below w.heap.size w u21) := by rw [hu21]; exact (hb17.out.alloc (by omega) (.cells #[.int .i64 2] 3))
  have zu21 : w.heap.size ≤ u21.heap.size := hb29.out.size
  clear hu21 n20 hb17 B13 B14 B15 L18 L19
  refine (vec_c (some ⟨v1.heap.size, 0, none⟩) 1 [2] (by simp) _ (L28.out.is (by omega)).1).mono ?_
  rintro e v2 ⟨va2, vc2, ga2, gc2, rfl, hV, hG, hB⟩
  have z30 : u21.heap.size ≤ v2.heap.size := hB.size
  have B31 : Hid (Abx v2 (w.heap.size) (.bool c1) (.slice sa1 sz1.length sc1) (.slice da1 dz1.length dc1)) := B23.out.go hB
  have B32 : Hid (Abx v2 (w.heap.size + 1) (.bool c2) (.slice sa2 sz2.length sc2) (.slice da2 dz2.length dc2)) := B24.out.go hB
  have B33 : Hid (Abx v2 (w.heap.size + 1 + 1) (.bool c3) (.slice sa3 sz3.length sc3) (.slice da3 dz3.length dc3)) := B25.out.go hB
  have L34 : Hid (MidC (u5.heap.size) (v1.heap.size) v2 (va1) ([(1 : Int)]) (vc1)) := L26.out.go (by omega) hB
  have L35 : Hid (MidC (u5.heap.size) (v1.heap.size) v2 (ga1) ([1]) (gc1)) := L27.out.go (by omega) hB
  have L36 : Hid (MidC (v1.heap.size) (v1.heap.size + 1) v2 (some ⟨v1.heap.size, 0, none⟩) ([2]) (1)) := L28.out.go (by omega) hB
  have hb37 : Hid (Below w.heap.size w v2) := hb29.out.trans (hB.mono hb29.out.size)
  have L38 : Hid (MidC (u21.heap.size) (v2.heap.size) v2 (va2) ([(1 : Int)]) (vc2)) := hV.midc
  have L39 : Hid (MidC (u21.heap.size) (v2.heap.size) v2 (ga2) ([2]) (gc2)) := hG.midc
  clear hB hb29 B23 B24 B25 L26 L27 L28 hV hG
  clear L36
  go_wp2_with fail
  refine (jn_ok 0 (by unfold In64; decide) false va1 vc1 [1] ga1 gc1 [1] false va2 vc2 [1] ga2 gc2 [2] _ (by simp) (by simp) (L34.out.is (by omega)) (L35.out.is (by omega)) (lit_all (by decide)) (by simp) (by simp) (L38.out.is (by omega)) (L39.out.is (by omega)) (lit_all (by decide)) [2] [1, 2] HJ (by decide)).mono ?_
  rintro e v3 ⟨f1, g1, f2, g2, rfl, hX0, hY0, hB⟩
  have z40 : v2.heap.size ≤ v3.heap.size := hB.size
  have B41 : Hid (Abx v3 (w.heap.size) (.bool c1) (.slice sa1 sz1.length sc1) (.slice da1 dz1.length dc1)) := B31.out.go hB
  have B42 : Hid (Abx v3 (w.heap.size + 1) (.bool c2) (.slice sa2 sz2.length sc2) (.slice da2 dz2.length dc2)) := B32.out.go hB
  have B43 : Hid (Abx v3 (w.heap.size + 1 + 1) (.bool c3) (.slice sa3 sz3.length sc3) (.slice da3 dz3.length dc3)) := B33.out.go hB
  have L44 : Hid (MidC (u5.heap.size) (v1.heap.size) v3 (va1) ([(1 : Int)]) (vc1)) := L34.out.go (by omega) hB
  have L45 : Hid (MidC (u5.heap.size) (v1.heap.size) v3 (ga1) ([1]) (gc1)) := L35.out.go (by omega) hB
  have L46 : Hid (MidC (u21.heap.size) (v2.heap.size) v3 (va2) ([(1 : Int)]) (vc2)) := L38.out.go (by omega) hB
  have L47 : Hid (MidC (u21.heap.size) (v2.heap.size) v3 (ga2) ([2]) (gc2)) := L39.out.go (by omega) hB
  have hb48 : Hid (Below w.heap.size w v3) := hb37.out.trans (hB.mono hb37.out.size)
  have L49 : Hid (MidC (v2.heap.size) (v3.heap.size) v3 (f1) ([2]) (g1)) := hX0.midc
  have L50 : Hid (MidC (v2.heap.size) (v3.heap.size) v3 (f2) ([1, 2]) (g2)) := hY0.midc
  clear hB hb37 B31 B32 B33 L34 L35 L38 L39 hX0 hY0
  clear L44 L45 L46 L47
  have n51 := Abx.new v3 (.bool false) (.slice f1 1 g1) (.slice f2 2 g2)
  have l52 := (n51).c0
  have l53 := (n51).c1
  have l54 := (n51).c2
  have n55 := lit_mid (v3.alloc (.cells #[.bool false, .slice f1 1 g1, .slice f2 2 g2] 24)) 3 [1, 2] 2 rfl
  simp only [World.size_alloc, List.map_cons, List.map_nil] at n55
  go_wp2_with fail
  obtain ⟨u56, hu56⟩ : ∃ u56, u56 = ((v3.alloc (.cells #[.bool false, .slice f1 1 g1, .slice f2 2 g2] 24)).alloc (.cells #[.int .i64 1, .int .i64 2] 3)) := ⟨_, rfl⟩
  rw [← hu56]
  have z57 : v3.heap.size + 1 + 1 ≤ u56.heap.size := by rw [hu56]; simp only [World.size_alloc]; omega
  have B58 : Hid (Abx u56 (w.heap.size) (.bool c1) (.slice sa1 sz1.length sc1) (.slice da1 dz1.length dc1)) := by rw [hu56]; exact ((B41.out.al (.cells #[.bool false, .slice f1 1 g1, .slice f2 2 g2] 24)).al (.cells #[.int .i64 1, .int .i64 2] 3))
  have B59 : Hid (Abx u56 (w.heap.size + 1) (.bool c2) (.slice sa2 sz2.length sc2) (.slice da2 dz2.length dc2)) := by rw [hu56]; exact ((B42.out.al (.cells #[.bool false, .slice f1 1 g1, .slice f2 2 g2] 24)).al (.cells #[.int .i64 1, .int .i64 2] 3))
  have B60 : Hid (Abx u56 (w.heap.size + 1 + 1) (.bool c3) (.slice sa3 sz3.length sc3) (.slice da3 dz3.length dc3)) := by rw [hu56]; exact ((B43.out.al (.cells #[.bool false, .slice f1 1 g1, .slice f2 2 g2] 24)).al (.cells #[.int .i64 1, .int .i64 2] 3))
  have B61 : Hid (Abx u56 (v3.heap.size) (.bool false) (.slice f1 1 g1) (.slice f2 2 g2)) := by rw [hu56]; exact (n51.al (.cells #[.int .i64 1, .int .i64 2] 3))
  have L62 : Hid (MidC (v2.heap.size) (v3.heap.size) u56 (f1) ([2]) (g1)) := by rw [hu56]; exact ((L49.out.al (by omega) (.cells #[.bool false, .slice f1 1 g1, .slice f2 2 g2] 24)).al (by simp only [World.size_alloc]; omega) (.cells #[.int .i64 1, .int .i64 2] 3))
  have L63 : Hid (MidC (v2.heap.size) (v3.heap.size) u56 (f2) ([1, 2]) (g2)) := by rw [hu56]; exact ((L50.out.al (by omega) (.cells #[.bool false, .slice f1 1 g1, .slice f2 2 g2] 24)).al (by simp only [World.size_alloc]; omega) (.cells #[.int .i64 1, .int .i64 2] 3))
  have L64 : Hid (MidC (v3.heap.size + 1) (v3.heap.size + 1 + 1) u56 (some ⟨v3.heap.size + 1, 0, none⟩) ([1, 2]) (2)) := by rw [hu56]; exact n55
  have hb65 : Hid (Below w.heap.size w u56) := by rw [hu56]; exact ((hb48.out.alloc (by omega) (.cells #[.bool false, .slice f1 1 g1, .slice f2 2 g2] 24)).alloc (by simp only [World.size_alloc]; omega) (.cells #[.int .i64 1, .int .i64 2] 3))
  have zu56 : w.heap.size ≤ u56.heap.size := hb65.out.size
  clear hu56 n51 l52 l53 l54 n55 hb48 B41 B42 B43 L49 L50
  refine (ints_any f2 g2 [1, 2] (some ⟨v3.heap.size + 1, 0, none⟩) 2 [1, 2] (by simp) _ _ (L63.out.is (by omega)).1 (L64.out.is (by omega)).1).mono ?_
  rintro e v4 ⟨rfl, hB⟩
  have z66 : u56.heap.size ≤ v4.heap.size := hB.size
  have B67 : Hid (Abx v4 (w.heap.size) (.bool c1) (.slice sa1 sz1.length sc1) (.slice da1 dz1.length dc1)) := B58.out.go hB
  have B68 : Hid (Abx v4 (w.heap.size + 1) (.bool c2) (.slice sa2 sz2.length sc2) (.slice da2 dz2.length dc2)) := B59.out.go hB
  have B69 : Hid (Abx v4 (w.heap.size + 1 + 1) (.bool c3) (.slice sa3 sz3.length sc3) (.slice da3 dz3.length dc3)) := B60.out.go hB
  have B70 : Hid (Abx v4 (v3.heap.size) (.bool false) (.slice f1 1 g1) (.slice f2 2 g2)) := B61.out.go hB
  have L71 : Hid (MidC (v2.heap.size) (v3.heap.size) v4 (f1) ([2]) (g1)) := L62.out.go (by omega) hB
  have L72 : Hid (MidC (v2.heap.size) (v3.heap.size) v4 (f2) ([1, 2]) (g2)) := L63.out.go (by omega) hB
  have L73 : Hid (MidC (v3.heap.size + 1) (v3.heap.size + 1 + 1) v4 (some ⟨v3.heap.size + 1, 0, none⟩) ([1, 2]) (2)) := L64.out.go (by omega) hB
  have hb74 : Hid (Below w.heap.size w v4) := hb65.out.trans (hB.mono hb65.out.size)
  clear hB hb65 B58 B59 B60 B61 L62 L63 L64
  rw [eqB_true rfl]
  clear L71 L72 L73 B70
  have l75 := (B67.out).c0
  have l76 := (B67.out).c1
  have l77 := (B67.out).c2
  have l78 := (B68.out).c0
  have l79 := (B68.out).c1
  have l80 := (B68.out).c2
  go_wp2_with fail
  clear l75 l76 l77 l78 l79 l80
  refine (jn_no x hx c1 sa1 sc1 sz1 da1 dc1 dz1 c2 sa2 sc2 sz2 da2 dc2 dz2 _ x1_1 x2_1 ((HI1.out.1.below hb74.out).mono hb74.out.size) ((HI1.out.2.1.below hb74.out).mono hb74.out.size) HI1.out.2.2 x1_2 x2_2 ((HI2.out.1.below hb74.out).mono hb74.out.size) ((HI2.out.2.1.below hb74.out).mono hb74.out.size) HI2.out.2.2 HJ E1.out).mono ?_
  rintro e v5 ⟨xa9, xc9, ya9, yc9, rfl, hB⟩
  have z81 : v4.heap.size ≤ v5.heap.size := hB.size
  have B82 : Hid (Abx v5 (w.heap.size) (.bool c1) (.slice sa1 sz1.length sc1) (.slice da1 dz1.length dc1)) := B67.out.go hB
  have B83 : Hid (Abx v5 (w.heap.size + 1) (.bool c2) (.slice sa2 sz2.length sc2) (.slice da2 dz2.length dc2)) := B68.out.go hB
  have B84 : Hid (Abx v5 (w.heap.size + 1 + 1) (.bool c3) (.slice sa3 sz3.length sc3) (.slice da3 dz3.length dc3)) := B69.out.go hB
  have hb85 : Hid (Below w.heap.size w v5) := hb74.out.trans (hB.mono hb74.out.size)
  clear hB hb74 B67 B68 B69
  have n86 := Abx.new v5 (.bool false) (.slice xa9 0 xc9) (.slice ya9 0 yc9)
  have l87 := (n86).c0
  have l88 := (n86).c1
  have l89 := (n86).c2
  have l90 := ((B84.out.al (.cells #[.bool false, .slice xa9 0 xc9, .slice ya9 0 yc9] 24))).c0
  have l91 := ((B84.out.al (.cells #[.bool false, .slice xa9 0 xc9, .slice ya9 0 yc9] 24))).c1
  have l92 := ((B84.out.al (.cells #[.bool false, .slice xa9 0 xc9, .slice ya9 0 yc9] 24))).c2
  go_wp2_with fail
  obtain ⟨u93, hu93⟩ : ∃ u93, u93 = (v5.alloc (.cells #[.bool false, .slice xa9 0 xc9, .slice ya9 0 yc9] 24)) := ⟨_, rfl⟩
  rw [← hu93]
  have z94 : v5.heap.size + 1 ≤ u93.heap.size := by rw [hu93]; simp only [World.size_alloc]; omega
  have B95 : Hid (Abx u93 (w.heap.size) (.bool c1) (.slice sa1 sz1.length sc1) (.slice da1 dz1.length dc1)) := by rw [hu93]; exact (B82.out.al (.cells #[.bool false, .slice xa9 0 xc9, .slice ya9 0 yc9] 24))
  have B96 : Hid (Abx u93 (w.heap.size + 1) (.bool c2) (.slice sa2 sz2.length sc2) (.slice da2 dz2.length dc2)) := by rw [hu93]; exact (B83.out.al (.cells #[.bool false, .slice xa9 0 xc9, .slice ya9 0 yc9] 24))
  have B97 : Hid (Abx u93 (w.heap.size + 1 + 1) (.bool c3) (.slice sa3 sz3.length sc3) (.slice da3 dz3.length dc3)) := by rw [hu93]; exact (B84.out.al (.cells #[.bool false, .slice xa9 0 xc9, .slice ya9 0 yc9] 24))
  have B98 : Hid (Abx u93 (v5.heap.size) (.bool false) (.slice xa9 0 xc9) (.slice ya9 0 yc9)) := by rw [hu93]; exact n86
  have hb99 : Hid (Below w.heap.size w u93) := by rw [hu93]; exact (hb85.out.alloc (by omega) (.cells #[.bool false, .slice xa9 0 xc9, .slice ya9 0 yc9] 24))
  have zu93 : w.heap.size ≤ u93.heap.size := hb99.out.size
  clear hu93 n86 l87 l88 l89 l90 l91 l92 hb85 B82 B83 B84
  refine (HJ x false xa9 xc9 [] ya9 yc9 [] c3 sa3 sc3 sz3 da3 dc3 dz3 _ hx (by simp) (by simp) x1_3 x2_3 ⟨.inl rfl, by simp⟩ ⟨.inl rfl, by simp⟩ ((HI3.out.1.below hb99.out).mono hb99.out.size) ((HI3.out.2.1.below hb99.out).mono hb99.out.size) (fun j => by rw [nth_nil]; unfold In64; decide) HI3.out.2.2).mono ?_
  rintro e v6 ⟨xa2, xc2, ya2, yc2, rfl, _, _, hB⟩
  have z100 : u93.heap.size ≤ v6.heap.size := hB.size
  have B101 : Hid (Abx v6 (w.heap.size) (.bool c1) (.slice sa1 sz1.length sc1) (.slice da1 dz1.length dc1)) := B95.out.go hB
  have B102 : Hid (Abx v6 (w.heap.size + 1) (.bool c2) (.slice sa2 sz2.length sc2) (.slice da2 dz2.length dc2)) := B96.out.go hB
  have B103 : Hid (Abx v6 (w.heap.size + 1 + 1) (.bool c3) (.slice sa3 sz3.length sc3) (.slice da3 dz3.length dc3)) := B97.out.go hB
  have B104 : Hid (Abx v6 (v5.heap.size) (.bool false) (.slice xa9 0 xc9) (.slice ya9 0 yc9)) := B98.out.go hB
  have hb105 : Hid (Below w.heap.size w v6) := hb99.out.trans (hB.mono hb99.out.size)
  clear hB hb99 B95 B96 B97 B98
  generalize jnS6 x false [] [] c3 sz3 dz3 = Q2
  generalize jnD6 x false [] [] c3 sz3 dz3 = R2
  generalize onc (jnE x false [] [] c3 sz3 dz3) false = C2
  generalize jnE x false [] [] c3 sz3 dz3 = E2
  go_wp2_with fail
  go_ret
  exact ⟨rfl, hb105.out.alloc hb105.out.size _⟩
set_option maxRecDepth 100000 in
set_option maxHeartbeats 8000000 in
theorem monoid_no2 (HT : CTk) (HJ : CJn) (x : Int) (hx : In64 x) (c1 : Bool) (sa1 : Option Addr) (sc1 : Nat) (sz1 : List Int) (da1 : Option Addr) (dc1 : Nat) (dz1 : List Int) (c2 : Bool) (sa2 : Option Addr) (sc2 : Nat) (sz2 : List Int) (da2 : Option Addr) (dc2 : Nat) (dz2 : List Int) (c3 : Bool) (sa3 : Option Addr) (sc3 : Nat) (sz3 : List Int) (da3 : Option Addr) (dc3 : Nat) (dz3 : List Int) (w : World) (w9_1 : IsArrD w sa1 sz1 sc1 da1 dz1 dc1) (w9_2 : IsArrD w sa2 sz2 sc2 da2 dz2 dc2) (w9_3 : IsArrD w sa3 sz3 sc3 da3 dz3 dc3) (E1 : Hid (jnE x c1 sz1 dz1 c2 sz2 dz2 = 0)) (E2 : Hid (jnE x c1 (jnS x.toNat sz1 sz2) (jnD x.toNat sz1 dz1 sz2 dz2) c3 sz3 dz3 ≠ 0)) :
    Calls Try.prog 3 #[.int .i64 x, .agg #[.bool c1, .slice sa1 sz1.length sc1, .slice da1 dz1.length dc1], .agg #[.bool c2, .slice sa2 sz2.length sc2, .slice da2 dz2.length dc2], .agg #[.bool c3, .slice sa3 sz3.length sc3, .slice da3 dz3.length dc3]] w fun e w' => e = .returned (.bool true) ∧ Below w.heap.size w w' := by
  obtain ⟨x1_1, x2_1, x3, x4, s64, T⟩ := w9_1
  have HI1 : Hid (IsC w.heap.size w sa1 sz1 sc1 ∧ IsC w.heap.size w da1 dz1 dc1 ∧ ∀ j, In64 (nth dz1 j)) := ⟨x3, x4, T⟩
  clear x3 x4 T s64
  obtain ⟨x1_2, x2_2, x3, x4, s64, T⟩ := w9_2
  have HI2 : Hid (IsC w.heap.size w sa2 sz2 sc2 ∧ IsC w.heap.size w da2 dz2 dc2 ∧ ∀ j, In64 (nth dz2 j)) := ⟨x3, x4, T⟩
  clear x3 x4 T s64
  obtain ⟨x1_3, x2_3, x3, x4, s64, T⟩ := w9_3
  have HI3 : Hid (IsC w.heap.size w sa3 sz3 sc3 ∧ IsC w.heap.size w da3 dz3 dc3 ∧ ∀ j, In64 (nth dz3 j)) := ⟨x3, x4, T⟩
  clear x3 x4 T s64
  obtain ⟨S1, hS1⟩ : ∃ S, S = jnS x.toNat sz1 sz2 := ⟨_, rfl⟩
  obtain ⟨D1, hD1⟩ : ∃ D, D = jnD x.toNat sz1 dz1 sz2 dz2 := ⟨_, rfl⟩
  have HS1 : Hid (jnE x c1 sz1 dz1 c2 sz2 dz2 = 0 ∧ jnS x.toNat sz1 sz2 = S1 ∧ jnD x.toNat sz1 dz1 sz2 dz2 = D1) := ⟨E1.out, hS1.symm, hD1.symm⟩
  rw [← hS1, ← hD1] at E2
  clear hS1 hD1
  have hxp : 0 ≤ x := (jnE_zero.1 E1.out).2.2.2.1
  have L1 : Hid (S1.length ≤ 6 ∧ D1.length ≤ 4096 ∧ ∀ j, In64 (nth D1 j)) := by rw [← HS1.out.2.1, ← HS1.out.2.2]; exact jn_facts (x := x.toNat) (by rw [Int.toNat_of_nonneg hxp]; exact E1.out) HI1.out.2.2 HI2.out.2.2
  have n1 := Abx.new w (.bool c1) (.slice sa1 sz1.length sc1) (.slice da1 dz1.length dc1)
  have n2 := Abx.new (w.alloc (.cells #[.bool c1, .slice sa1 sz1.length sc1, .slice da1 dz1.length dc1] 24)) (.bool c2) (.slice sa2 sz2.length sc2) (.slice da2 dz2.length dc2)
  simp only [World.size_alloc] at n2
  have n3 := Abx.new ((w.alloc (.cells #[.bool c1, .slice sa1 sz1.length sc1, .slice da1 dz1.length dc1] 24)).alloc (.cells #[.bool c2, .slice sa2 sz2.length sc2, .slice da2 dz2.length dc2] 24)) (.bool c3) (.slice sa3 sz3.length sc3) (.slice da3 dz3.length dc3)
  simp only [World.size_alloc] at n3
  have n4 := lit_mid (((w.alloc (.cells #[.bool c1, .slice sa1 sz1.length sc1, .slice da1 dz1.length dc1] 24)).alloc (.cells #[.bool c2, .slice sa2 sz2.length sc2, .slice da2 dz2.length dc2] 24)).alloc (.cells #[.bool c3, .slice sa3 sz3.length sc3, .slice da3 dz3.length dc3] 24)) 3 [1] 1 rfl
  simp only [World.size_alloc, List.map_cons, List.map_nil] at n4
  go_enter Try.func3, Try.ntmps3
  go_wp2_with fail
  obtain ⟨u5, hu5⟩ : ∃ u5, u5 = ((((w.alloc (.cells #[.bool c1, .slice sa1 sz1.length sc1, .slice da1 dz1.length dc1] 24)).alloc (.cells #[.bool c2, .slice sa2 sz2.length sc2, .slice da2 dz2.length dc2] 24)).alloc (.cells #[.bool c3, .slice sa3 sz3.length sc3, .slice da3 dz3.length dc3] 24)).alloc (.cells #[.int .i64 1] 3)) := ⟨_, rfl⟩
  rw [← hu5]
  have z6 : w.heap.size + 1 + 1 + 1 + 1 ≤ u5.heap.size := by rw [hu5]; simp only [World.size_alloc]; omega
  have B7 : Hid (Abx u5 (w.heap.size) (.bool c1) (.slice sa1 sz1.length sc1) (.slice da1 dz1.length dc1)) := by rw [hu5]; exact (((n1.al (.cells #[.bool c2, .slice sa2 sz2.length sc2, .slice da2 dz2.length dc2] 24)).al (.cells #[.bool c3, .slice sa3 sz3.length sc3, .slice da3 dz3.length dc3] 24)).al (.cells #[.int .i64 1] 3))
  have B8 : Hid (Abx u5 (w.heap.size + 1) (.bool c2) (.slice sa2 sz2.length sc2) (.slice da2 dz2.length dc2)) := by rw [hu5]; exact ((n2.al (.cells #[.bool c3, .slice sa3 sz3.length sc3, .slice da3 dz3.length dc3] 24)).al (.cells #[.int .i64 1] 3))
  have B9 : Hid (Abx u5 (w.heap.size + 1 + 1) (.bool c3) (.slice sa3 sz3.length sc3) (.slice da3 dz3.length dc3)) := by rw [hu5]; exact (n3.al (.cells #[.int .i64 1] 3))
  have L10 : Hid (MidC (w.heap.size + 1 + 1 + 1) (w.heap.size + 1 + 1 + 1 + 1) u5 (some ⟨w.heap.size + 1 + 1 + 1, 0, none⟩) ([1]) (1)) := by rw [hu5]; exact n4
  have hb11 : Hid (Below w.heap.size w u5) := by rw [hu5]; exact (((((Below.refl w.heap.size w).alloc (by omega) (.cells #[.bool c1, .slice sa1 sz1.length sc1, .slice da1 dz1.length dc1] 24)).alloc (by simp only [World.size_alloc]; omega) (.cells #[.bool c2, .slice sa2 sz2.length sc2, .slice da2 dz2.length dc2] 24)).alloc (by simp only [World.size_alloc]; omega) (.cells #[.bool c3, .slice sa3 sz3.length sc3, .slice da3 dz3.length dc3] 24)).alloc (by simp only [World.size_alloc]; omega) (.cells #[.int .i64 1] 3))
  have zu5 : w.heap.size ≤ u5.heap.size := hb11.out.size
  clear hu5 n1 n2 n3 n4
  refine (vec_c (some ⟨w.heap.size + 1 + 1 + 1, 0, none⟩) 1 [1] (by simp) _ (L10.out.is (by omega)).1).mono ?_
  rintro e v1 ⟨va1, vc1, ga1, gc1, rfl, hV, hG, hB⟩
  have z12 : u5.heap.size ≤ v1.heap.size := hB.size
  have B13 : Hid (Abx v1 (w.heap.size) (.bool c1) (.slice sa1 sz1.length sc1) (.slice da1 dz1.length dc1)) := B7.out.go hB
  have B14 : Hid (Abx v1 (w.heap.size + 1) (.bool c2) (.slice sa2 sz2.length sc2) (.slice da2 dz2.length dc2)) := B8.out.go hB
  have B15 : Hid (Abx v1 (w.heap.size + 1 + 1) (.bool c3) (.slice sa3 sz3.length sc3) (.slice da3 dz3.length dc3)) := B9.out.go hB
  have L16 : Hid (MidC (w.heap.size + 1 + 1 + 1) (w.heap.size + 1 + 1 + 1 + 1) v1 (some ⟨w.heap.size + 1 + 1 + 1, 0, none⟩) ([1]) (1)) := L10.out.go (by omega) hB
  have hb17 : Hid (Below w.heap.size w v1) := hb11.out.trans (hB.mono hb11.out.size)
  have L18 : Hid (MidC (u5.heap.size) (v1.heap.size) v1 (va1) ([(1 : Int)]) (vc1)) := hV.midc
  have L19 : Hid (MidC (u5.heap.size) (v1.heap.size) v1 (ga1) ([1]) (gc1)) := hG.midc
  clear hB hb11 B7 B8 B9 L10 hV hG
  clear L16
  have n20 := lit_mid v1 3 [2] 1 rfl
  simp only [List.map_cons, List.map_nil] at n20
  go_wp2_with fail
  obtain ⟨u21, hu21⟩ : ∃ u21, u21 = (v1.alloc (.cells #[.int .i64 2] 3)) := ⟨_, rfl⟩
  rw [← hu21]
  have z22 : v1.heap.size + 1 ≤ u21.heap.size := by rw [hu21]; simp only [World.size_alloc]; omega
  have B23 : Hid (Abx u21 (w.heap.size) (.bool c1) (.slice sa1 sz1.length sc1) (.slice da1 dz1.length dc1)) := by rw [hu21]; exact (B13.out.al (.cells #[.int .i64 2] 3))
  have B24 : Hid (Abx u21 (w.heap.size + 1) (.bool c2) (.slice sa2 sz2.length sc2) (.slice da2 dz2.length dc2)) := by rw [hu21]; exact (B14.out.al (.cells #[.int .i64 2] 3))
  have B25 : Hid (Abx u21 (w.heap.size + 1 + 1) (.bool c3) (.slice sa3 sz3.length sc3) (.slice da3 dz3.length dc3)) := by rw [hu21]; exact (B15.out.al (.cells #[.int .i64 2] 3))
  have L26 : Hid (MidC (u5.heap.size) (v1.heap.size) u21 (va1) ([(1 : Int)]) (vc1)) := by rw [hu21]; exact (L18.out.al (by omega) (.cells #[.int .i64 2] 3))
  have L27 : Hid (MidC (u5.heap.size) (v1.heap.size) u21 (ga1) ([1]) (gc1)) := by rw [hu21]; exact (L19.out.al (by omega) (.cells #[.int .i64 2] 3))
  have L28 : Hid (MidC (v1.heap.size) (v1.heap.size + 1) u21 (some ⟨v1.heap.size, 0, none⟩) ([2]) (1)) := by rw [hu21]; exact n20
  have hb29 : Hid (Below w.heap.size w u21) := by rw [hu21]; exact (hb17.out.alloc (by omega) (.cells #[.int .i64 2] 3))
  have zu21 : w.heap.size ≤ u21.heap.size := hb29.out.size
  clear hu21 n20 hb17 B13 B14 B15 L18 L19
  refine (vec_c (some ⟨v1.heap.size, 0, none⟩) 1 [2] (by simp) _ (L28.out.is (by omega)).1).mono ?_
  rintro e v2 ⟨va2, vc2, ga2, gc2, rfl, hV, hG, hB⟩
  have z30 : u21.heap.size ≤ v2.heap.size := hB.size
  have B31 : Hid (Abx v2 (w.heap.size) (.bool c1) (.slice sa1 sz1.length sc1) (.slice da1 dz1.length dc1)) := B23.out.go hB
  have B32 : Hid (Abx v2 (w.heap.size + 1) (.bool c2) (.slice sa2 sz2.length sc2) (.slice da2 dz2.length dc2)) := B24.out.go hB
  have B33 : Hid (Abx v2 (w.heap.size + 1 + 1) (.bool c3) (.slice sa3 sz3.length sc3) (.slice da3 dz3.length dc3)) := B25.out.go hB
  have L34 : Hid (MidC (u5.heap.size) (v1.heap.size) v2 (va1) ([(1 : Int)]) (vc1)) := L26.out.go (by omega) hB
  have L35 : Hid (MidC (u5.heap.size) (v1.heap.size) v2 (ga1) ([1]) (gc1)) := L27.out.go (by omega) hB
  have L36 : Hid (MidC (v1.heap.size) (v1.heap.size + 1) v2 (some ⟨v1.heap.size, 0, none⟩) ([2]) (1)) := L28.out.go (by omega) hB
  have hb37 : Hid (Below w.heap.size w v2) := hb29.out.trans (hB.mono hb29.out.size)
  have L38 : Hid (MidC (u21.heap.size) (v2.heap.size) v2 (va2) ([(1 : Int)]) (vc2)) := hV.midc
  have L39 : Hid (MidC (u21.heap.size) (v2.heap.size) v2 (ga2) ([2]) (gc2)) := hG.midc
  clear hB hb29 B23 B24 B25 L26 L27 L28 hV hG
  clear L36
  go_wp2_with fail
  refine (jn_ok 0 (by unfold In64; decide) false va1 vc1 [1] ga1 gc1 [1] false va2 vc2 [1] ga2 gc2 [2] _ (by simp) (by simp) (L34.out.is (by omega)) (L35.out.is (by omega)) (lit_all (by decide)) (by simp) (by simp) (L38.out.is (by omega)) (L39.out.is (by omega)) (lit_all (by decide)) [2] [1, 2] HJ (by decide)).mono ?_
  rintro e v3 ⟨f1, g1, f2, g2, rfl, hX0, hY0, hB⟩
  have z40 : v2.heap.size ≤ v3.heap.size := hB.size
  have B41 : Hid (Abx v3 (w.heap.size) (.bool c1) (.slice sa1 sz1.length sc1) (.slice da1 dz1.length dc1)) := B31.out.go hB
  have B42 : Hid (Abx v3 (w.heap.size + 1) (.bool c2) (.slice sa2 sz2.length sc2) (.slice da2 dz2.length dc2)) := B32.out.go hB
  have B43 : Hid (Abx v3 (w.heap.size + 1 + 1) (.bool c3) (.slice sa3 sz3.length sc3) (.slice da3 dz3.length dc3)) := B33.out.go hB
  have L44 : Hid (MidC (u5.heap.size) (v1.heap.size) v3 (va1) ([(1 : Int)]) (vc1)) := L34.out.go (by omega) hB
  have L45 : Hid (MidC (u5.heap.size) (v1.heap.size) v3 (ga1) ([1]) (gc1)) := L35.out.go (by omega) hB
  have L46 : Hid (MidC (u21.heap.size) (v2.heap.size) v3 (va2) ([(1 : Int)]) (vc2)) := L38.out.go (by omega) hB
  have L47 : Hid (MidC (u21.heap.size) (v2.heap.size) v3 (ga2) ([2]) (gc2)) := L39.out.go (by omega) hB
  have hb48 : Hid (Below w.heap.size w v3) := hb37.out.trans (hB.mono hb37.out.size)
  have L49 : Hid (MidC (v2.heap.size) (v3.heap.size) v3 (f1) ([2]) (g1)) := hX0.midc
  have L50 : Hid (MidC (v2.heap.size) (v3.heap.size) v3 (f2) ([1, 2]) (g2)) := hY0.midc
  clear hB hb37 B31 B32 B33 L34 L35 L38 L39 hX0 hY0
  clear L44 L45 L46 L47
  have n51 := Abx.new v3 (.bool false) (.slice f1 1 g1) (.slice f2 2 g2)
  have l52 := (n51).c0
  have l53 := (n51).c1
  have l54 := (n51).c2
  have n55 := lit_mid (v3.alloc (.cells #[.bool false, .slice f1 1 g1, .slice f2 2 g2] 24)) 3 [1, 2] 2 rfl
  simp only [World.size_alloc, List.map_cons, List.map_nil] at n55
  go_wp2_with fail
  obtain ⟨u56, hu56⟩ : ∃ u56, u56 = ((v3.alloc (.cells #[.bool false, .slice f1 1 g1, .slice f2 2 g2] 24)).alloc (.cells #[.int .i64 1, .int .i64 2] 3)) := ⟨_, rfl⟩
  rw [← hu56]
  have z57 : v3.heap.size + 1 + 1 ≤ u56.heap.size := by rw [hu56]; simp only [World.size_alloc]; omega
  have B58 : Hid (Abx u56 (w.heap.size) (.bool c1) (.slice sa1 sz1.length sc1) (.slice da1 dz1.length dc1)) := by rw [hu56]; exact ((B41.out.al (.cells #[.bool false, .slice f1 1 g1, .slice f2 2 g2] 24)).al (.cells #[.int .i64 1, .int .i64 2] 3))
  have B59 : Hid (Abx u56 (w.heap.size + 1) (.bool c2) (.slice sa2 sz2.length sc2) (.slice da2 dz2.length dc2)) := by rw [hu56]; exact ((B42.out.al (.cells #[.bool false, .slice f1 1 g1, .slice f2 2 g2] 24)).al (.cells #[.int .i64 1, .int .i64 2] 3))
  have B60 : Hid (Abx u56 (w.heap.size + 1 + 1) (.bool c3) (.slice sa3 sz3.length sc3) (.slice da3 dz3.length dc3)) := by rw [hu56]; exact ((B43.out.al (.cells #[.bool false, .slice f1 1 g1, .slice f2 2 g2] 24)).al (.cells #[.int .i64 1, .int .i64 2] 3))
  have B61 : Hid (Abx u56 (v3.heap.size) (.bool false) (.slice f1 1 g1) (.slice f2 2 g2)) := by rw [hu56]; exact (n51.al (.cells #[.int .i64 1, .int .i64 2] 3))
  have L62 : Hid (MidC (v2.heap.size) (v3.heap.size) u56 (f1) ([2]) (g1)) := by rw [hu56]; exact ((L49.out.al (by omega) (.cells #[.bool false, .slice f1 1 g1, .slice f2 2 g2] 24)).al (by simp only [World.size_alloc]; omega) (.cells #[.int .i64 1, .int .i64 2] 3))
  have L63 : Hid (MidC (v2.heap.size) (v3.heap.size) u56 (f2) ([1, 2]) (g2)) := by rw [hu56]; exact ((L50.out.al (by omega) (.cells #[.bool false, .slice f1 1 g1, .slice f2 2 g2] 24)).al (by simp only [World.size_alloc]; omega) (.cells #[.int .i64 1, .int .i64 2] 3))
  have L64 : Hid (MidC (v3.heap.size + 1) (v3.heap.size + 1 + 1) u56 (some ⟨v3.heap.size + 1, 0, none⟩) ([1, 2]) (2)) := by rw [hu56]; exact n55
  have hb65 : Hid (Below w.heap.size w u56) := by rw [hu56]; exact ((hb48.out.alloc (by omega) (.cells #[.bool false, .slice f1 1 g1, .slice f2 2 g2] 24)).alloc (by simp only [World.size_alloc]; omega) (.cells #[.int .i64 1, .int .i64 2] 3))
  have zu56 : w.heap.size ≤ u56.heap.size := hb65.out.size
  clear hu56 n51 l52 l53 l54 n55 hb48 B41 B42 B43 L49 L50
  refine (ints_any f2 g2 [1, 2] (some ⟨v3.heap.size + 1, 0, none⟩) 2 [1, 2] (by simp) _ _ (L63.out.is (by omega)).1 (L64.out.is (by omega)).1).mono ?_
  rintro e v4 ⟨rfl, hB⟩
  have z66 : u56.heap.size ≤ v4.heap.size := hB.size
  have B67 : Hid (Abx v4 (w.heap.size) (.bool c1) (.slice sa1 sz1.length sc1) (.slice da1 dz1.length dc1)) := B58.out.go hB
  have B68 : Hid (Abx v4 (w.heap.size + 1) (.bool c2) (.slice sa2 sz2.length sc2) (.slice da2 dz2.length dc2)) := B59.out.go hB
  have B69 : Hid (Abx v4 (w.heap.size + 1 + 1) (.bool c3) (.slice sa3 sz3.length sc3) (.slice da3 dz3.length dc3)) := B60.out.go hB
  have B70 : Hid (Abx v4 (v3.heap.size) (.bool false) (.slice f1 1 g1) (.slice f2 2 g2)) := B61.out.go hB
  have L71 : Hid (MidC (v2.heap.size) (v3.heap.size) v4 (f1) ([2]) (g1)) := L62.out.go (by omega) hB
  have L72 : Hid (MidC (v2.heap.size) (v3.heap.size) v4 (f2) ([1, 2]) (g2)) := L63.out.go (by omega) hB
  have L73 : Hid (MidC (v3.heap.size + 1) (v3.heap.size + 1 + 1) v4 (some ⟨v3.heap.size + 1, 0, none⟩) ([1, 2]) (2)) := L64.out.go (by omega) hB
  have hb74 : Hid (Below w.heap.size w v4) := hb65.out.trans (hB.mono hb65.out.size)
  clear hB hb65 B58 B59 B60 B61 L62 L63 L64
  rw [eqB_true rfl]
  clear L71 L72 L73 B70
  have l75 := (B67.out).c0
  have l76 := (B67.out).c1
  have l77 := (B67.out).c2
  have l78 := (B68.out).c0
  have l79 := (B68.out).c1
  have l80 := (B68.out).c2
  go_wp2_with fail
  clear l75 l76 l77 l78 l79 l80
  refine (jn_ok x hx c1 sa1 sc1 sz1 da1 dc1 dz1 c2 sa2 sc2 sz2 da2 dc2 dz2 _ x1_1 x2_1 ((HI1.out.1.below hb74.out).mono hb74.out.size) ((HI1.out.2.1.below hb74.out).mono hb74.out.size) HI1.out.2.2 x1_2 x2_2 ((HI2.out.1.below hb74.out).mono hb74.out.size) ((HI2.out.2.1.below hb74.out).mono hb74.out.size) HI2.out.2.2 S1 D1 HJ HS1.out).mono ?_
  rintro e v5 ⟨xa1, xc1, ya1, yc1, rfl, hX1, hY1, hB⟩
  have z81 : v4.heap.size ≤ v5.heap.size := hB.size
  have B82 : Hid (Abx v5 (w.heap.size) (.bool c1) (.slice sa1 sz1.length sc1) (.slice da1 dz1.length dc1)) := B67.out.go hB
  have B83 : Hid (Abx v5 (w.heap.size + 1) (.bool c2) (.slice sa2 sz2.length sc2) (.slice da2 dz2.length dc2)) := B68.out.go hB
  have B84 : Hid (Abx v5 (w.heap.size + 1 + 1) (.bool c3) (.slice sa3 sz3.length sc3) (.slice da3 dz3.length dc3)) := B69.out.go hB
  have hb85 : Hid (Below w.heap.size w v5) := hb74.out.trans (hB.mono hb74.out.size)
  have L86 : Hid (MidC (v4.heap.size) (v5.heap.size) v5 (xa1) (S1) (xc1)) := hX1.midc
  have L87 : Hid (MidC (v4.heap.size) (v5.heap.size) v5 (ya1) (D1) (yc1)) := hY1.midc
  clear hB hb74 B67 B68 B69 hX1 hY1
  have n88 := Abx.new v5 (.bool c1) (.slice xa1 S1.length xc1) (.slice ya1 D1.length yc1)
  have l89 := (n88).c0
  have l90 := (n88).c1
  have l91 := (n88).c2
  have l92 := ((B84.out.al (.cells #[.bool c1, .slice xa1 S1.length xc1, .slice ya1 D1.length yc1] 24))).c0
  have l93 := ((B84.out.al (.cells #[.bool c1, .slice xa1 S1.length xc1, .slice ya1 D1.length yc1] 24))).c1
  have l94 := ((B84.out.al (.cells #[.bool c1, .slice xa1 S1.length xc1, .slice ya1 D1.length yc1] 24))).c2
  go_wp2_with fail
  obtain ⟨u95, hu95⟩ : ∃ u95, u95 = (v5.alloc (.cells #[.bool c1, .slice xa1 S1.length xc1, .slice ya1 D1.length yc1] 24)) := ⟨_, rfl⟩
  rw [← hu95]
  have z96 : v5.heap.size + 1 ≤ u95.heap.size := by rw [hu95]; simp only [World.size_alloc]; omega
  have B97 : Hid (Abx u95 (w.heap.size) (.bool c1) (.slice sa1 sz1.length sc1) (.slice da1 dz1.length dc1)) := by rw [hu95]; exact (B82.out.al (.cells #[.bool c1, .slice xa1 S1.length xc1, .slice ya1 D1.length yc1] 24))
  have B98 : Hid (Abx u95 (w.heap.size + 1) (.bool c2) (.slice sa2 sz2.length sc2) (.slice da2 dz2.length dc2)) := by rw [hu95]; exact (B83.out.al (.cells #[.bool c1, .slice xa1 S1.length xc1, .slice ya1 D1.length yc1] 24))
  have B99 : Hid (Abx u95 (w.heap.size + 1 + 1) (.bool c3) (.slice sa3 sz3.length sc3) (.slice da3 dz3.length dc3)) := by rw [hu95]; exact (B84.out.al (.cells #[.bool c1, .slice xa1 S1.length xc1, .slice ya1 D1.length yc1] 24))
  have B100 : Hid (Abx u95 (v5.heap.size) (.bool c1) (.slice xa1 S1.length xc1) (.slice ya1 D1.length yc1)) := by rw [hu95]; exact n88
  have L101 : Hid (MidC (v4.heap.size) (v5.heap.size) u95 (xa1) (S1) (xc1)) := by rw [hu95]; exact (L86.out.al (by omega) (.cells #[.bool c1, .slice xa1 S1.length xc1, .slice ya1 D1.length yc1] 24))
  have L102 : Hid (MidC (v4.heap.size) (v5.heap.size) u95 (ya1) (D1) (yc1)) := by rw [hu95]; exact (L87.out.al (by omega) (.cells #[.bool c1, .slice xa1 S1.length xc1, .slice ya1 D1.length yc1] 24))
  have hb103 : Hid (Below w.heap.size w u95) := by rw [hu95]; exact (hb85.out.alloc (by omega) (.cells #[.bool c1, .slice xa1 S1.length xc1, .slice ya1 D1.length yc1] 24))
  have zu95 : w.heap.size ≤ u95.heap.size := hb103.out.size
  clear hu95 n88 l89 l90 l91 l92 l93 l94 hb85 B82 B83 B84 L86 L87
  refine (jn_no x hx c1 xa1 xc1 S1 ya1 yc1 D1 c3 sa3 sc3 sz3 da3 dc3 dz3 _ (by have := L1.out.1; omega) (by have := L1.out.2.1; omega) (L101.out.is (by omega)) (L102.out.is (by omega)) L1.out.2.2 x1_3 x2_3 ((HI3.out.1.below hb103.out).mono hb103.out.size) ((HI3.out.2.1.below hb103.out).mono hb103.out.size) HI3.out.2.2 HJ E2.out).mono ?_
  rintro e v6 ⟨xa9, xc9, ya9, yc9, rfl, hB⟩
  have z104 : u95.heap.size ≤ v6.heap.size := hB.size
  have B105 : Hid (Abx v6 (w.heap.size) (.bool c1) (.slice sa1 sz1.length sc1) (.slice da1 dz1.length dc1)) := B97.out.go hB
  have B106 : Hid (Abx v6 (w.heap.size + 1) (.bool c2) (.slice sa2 sz2.length sc2) (.slice da2 dz2.length dc2)) := B98.out.go hB
  have B107 : Hid (Abx v6 (w.heap.size + 1 + 1) (.bool c3) (.slice sa3 sz3.length sc3) (.slice da3 dz3.length dc3)) := B99.out.go hB
  have B108 : Hid (Abx v6 (v5.heap.size) (.bool c1) (.slice xa1 S1.length xc1) (.slice ya1 D1.length yc1)) := B100.out.go hB
  have L109 : Hid (MidC (v4.heap.size) (v5.heap.size) v6 (xa1) (S1) (xc1)) := L101.out.go (by omega) hB
  have L110 : Hid (MidC (v4.heap.size) (v5.heap.size) v6 (ya1) (D1) (yc1)) := L102.out.go (by omega) hB
  have hb111 : Hid (Below w.heap.size w v6) := hb103.out.trans (hB.mono hb103.out.size)
  clear hB hb103 B97 B98 B99 B100 L101 L102
  go_wp2_with fail
  go_ret
  exact ⟨rfl, hb111.out.alloc hb111.out.size _⟩
end Go.Proofs.Ytldjgacnjogbnab
