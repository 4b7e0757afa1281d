/-
  The walk of the statement CutMeshes, given what the program tells.
-/
import Derived.Test.YtnfdcdoelhanlaaCutx
import Derived.Test.YtnfdcdoelhanlaaCutq
import Derived.Test.YtnfdcdoelhanlaaMidc
import Derived.Test.YtnfdcdoelhanlaaCute
import Derived.Test.YtnfdcdoelhanlaaEachc
namespace Go.Proofs.Ytnfdcdoelhanlaa
open Go.RowKit
set_option linter.unusedVariables false

theorem lit_all {xs : List Int} (h : xs.all (fun x => decide (-9223372036854775808 ≤ x ∧ x ≤ 9223372036854775807)) = true) : ∀ j, In64 (nth xs j) := fun j => by
  by_cases hj : j < xs.length
  · have : nth xs j ∈ xs := by simp [nth, hj]
    exact of_decide_eq_true (p := -9223372036854775808 ≤ nth xs j ∧ nth xs j ≤ 9223372036854775807) (List.all_eq_true.1 h _ this)
  · have : nth xs j = 0 := by simp [nth, List.getElem?_eq_none (Nat.le_of_not_lt hj)]
    rw [this]; unfold In64; decide
theorem kp_facts {m : List Int} {x : Nat} {c : Bool} {s dz : List Int} (h : kpE m x c s dz = 0) (T : ∀ j, In64 (nth dz j)) : (kpS m x s).length ≤ 6 ∧ (kpD m x s dz).length ≤ 4096 ∧ ∀ j, In64 (nth (kpD m x s dz) j) := by
  have he := kp_err h
  refine ⟨(errOf_zero.1 he).1, ?_, kp_64 h T⟩
  unfold kpD; rw [TA_length]; exact (errS he).2
theorem sp_facts {m : List Int} {x : Nat} {c : Bool} {s dz : List Int} (h : spE m x c s dz = 0) (T : ∀ j, In64 (nth dz j)) : (spS m x s).length ≤ 6 ∧ (spD m x c s dz).length ≤ 4096 ∧ ∀ j, In64 (nth (spD m x c s dz) j) := by
  have he := (spZ.1 h).2.2.2.2
  refine ⟨(errOf_zero.1 he).1, ?_, sp_64 h T⟩
  unfold spD; rw [TA_length]; exact (errS he).2
theorem otm_64 {m : List Int} (h : mskB m = true) : ∀ j, In64 (nth (otm m) j) := fun j => by
  by_cases hj : j < m.length
  · rw [otm_nth m hj]; have := mskB_nth h hj; unfold In64; omega
  · have : nth (otm m) j = 0 := by simp [nth, List.getElem?_eq_none (show (otm m).length ≤ j by rw [otm_length]; omega)]
    rw [this]; unfold In64; decide
set_option maxRecDepth 100000 in
set_option maxHeartbeats 8000000 in
theorem meshes_no (HE : C2c) (HK0 : CKp) (HSp : CSp) (ma : Option Addr) (mc : Nat) (m : List Int) (hm : m.length ≤ 9223372036854775807) (Tm : ∀ j, In64 (nth m j)) (x : Int) (hx : In64 x) (c1 : Bool) (sa1 : Option Addr) (sc1 : Nat) (sz1 : List Int) (da1 : Option Addr) (dc1 : Nat) (dz1 : List Int) (w : World) (wm : IsC w.heap.size w ma m mc) (w9 : IsArrD w sa1 sz1 sc1 da1 dz1 dc1) (E1 : Hid (kpE m x c1 sz1 dz1 ≠ 0)) :
    Calls Try.prog 4 #[.slice ma m.length mc, .int .i64 x, .agg #[.bool c1, .slice sa1 sz1.length sc1, .slice da1 dz1.length dc1]] w fun e w' => e = .returned (.bool true) ∧ Below w.heap.size w w' := by
  obtain ⟨x1, x2, x3, x4, s64, T⟩ := w9
  have HI : Hid (IsC w.heap.size w sa1 sz1 sc1 ∧ IsC w.heap.size w da1 dz1 dc1 ∧ ∀ j, In64 (nth dz1 j)) := ⟨x3, x4, T⟩
  clear x3 x4 T s64
  have HM : Hid (IsC w.heap.size w ma m mc ∧ ∀ j, In64 (nth m j)) := ⟨wm, Tm⟩
  clear wm Tm
  have n1 := Abx.new w (.bool c1) (.slice sa1 sz1.length sc1) (.slice da1 dz1.length dc1)
  have n2 := lit_mid (w.alloc (.cells #[.bool c1, .slice sa1 sz1.length sc1, .slice da1 dz1.length dc1] 25)) 3 [1, 0, 1] 3 rfl
  simp only [World.size_alloc, List.map_cons, List.map_nil] at n2
  have n3 := lit_mid ((w.alloc (.cells #[.bool c1, .slice sa1 sz1.length sc1, .slice da1 dz1.length dc1] 25)).alloc (.cells #[.int .i64 1, .int .i64 0, .int .i64 1] 3)) 3 [5, 6, 7] 3 rfl
  simp only [World.size_alloc, List.map_cons, List.map_nil] at n3
  go_enter Try.func4, Try.ntmps4
  go_wp2_with fail
  obtain ⟨wo4, hwo4⟩ : ∃ wo4, wo4 = (((w.alloc (.cells #[.bool c1, .slice sa1 sz1.length sc1, .slice da1 dz1.length dc1] 25)).alloc (.cells #[.int .i64 1, .int .i64 0, .int .i64 1] 3)).alloc (.cells #[.int .i64 5, .int .i64 6, .int .i64 7] 3)) := ⟨_, rfl⟩
  rw [← hwo4]
  have z5 : w.heap.size + 1 + 1 + 1 ≤ wo4.heap.size := by rw [hwo4]; simp only [World.size_alloc]; omega
  have B6 : Hid (Abx wo4 (w.heap.size) (.bool c1) (.slice sa1 sz1.length sc1) (.slice da1 dz1.length dc1)) := by rw [hwo4]; exact ((n1.al (.cells #[.int .i64 1, .int .i64 0, .int .i64 1] 3)).al (.cells #[.int .i64 5, .int .i64 6, .int .i64 7] 3))
  have L7 : Hid (MidC (w.heap.size + 1) (w.heap.size + 1 + 1) wo4 (some ⟨w.heap.size + 1, 0, none⟩) ([1, 0, 1]) (3)) := by rw [hwo4]; exact (n2.al (by simp only [World.size_alloc]; omega) (.cells #[.int .i64 5, .int .i64 6, .int .i64 7] 3))
  have L8 : Hid (MidC (w.heap.size + 1 + 1) (w.heap.size + 1 + 1 + 1) wo4 (some ⟨w.heap.size + 1 + 1, 0, none⟩) ([5, 6, 7]) (3)) := by rw [hwo4]; exact n3
  have hb9 : Hid (Below w.heap.size w wo4) := by rw [hwo4]; exact ((((Below.refl w.heap.size w).alloc (by omega) (.cells #[.bool c1, .slice sa1 sz1.length sc1, .slice da1 dz1.length dc1] 25)).alloc (by simp only [World.size_alloc]; omega) (.cells #[.int .i64 1, .int .i64 0, .int .i64 1] 3)).alloc (by simp only [World.size_alloc]; omega) (.cells #[.int .i64 5, .int .i64 6, .int .i64 7] 3))
  have zwo4 : w.heap.size ≤ wo4.heap.size := hb9.out.size
  clear hwo4 n1 n2 n3
  refine (vec_c (some ⟨w.heap.size + 1 + 1, 0, none⟩) 3 [5, 6, 7] (by simp) _ (L8.out.is (by omega)).1).mono ?_
  rintro e v1 ⟨va, vc, ga, gc, rfl, hV, hG, hB⟩
  have z10 : wo4.heap.size ≤ v1.heap.size := hB.size
  have B11 : Hid (Abx v1 (w.heap.size) (.bool c1) (.slice sa1 sz1.length sc1) (.slice da1 dz1.length dc1)) := B6.out.go hB
  have L12 : Hid (MidC (w.heap.size + 1) (w.heap.size + 1 + 1) v1 (some ⟨w.heap.size + 1, 0, none⟩) ([1, 0, 1]) (3)) := L7.out.go (by omega) hB
  have L13 : Hid (MidC (w.heap.size + 1 + 1) (w.heap.size + 1 + 1 + 1) v1 (some ⟨w.heap.size + 1 + 1, 0, none⟩) ([5, 6, 7]) (3)) := L8.out.go (by omega) hB
  have hb14 : Hid (Below w.heap.size w v1) := hb9.out.trans (hB.mono hb9.out.size)
  have L15 : Hid (MidC (wo4.heap.size) (v1.heap.size) v1 (va) ([(3 : Int)]) (vc)) := hV.midc
  have L16 : Hid (MidC (wo4.heap.size) (v1.heap.size) v1 (ga) ([5, 6, 7]) (gc)) := hG.midc
  clear hB hb9 B6 L7 L8 hV hG
  clear L13
  go_wp2_with fail
  refine (kp_ok (some ⟨w.heap.size + 1, 0, none⟩) 3 [1, 0, 1] 0 (by unfold In64; decide) false va vc [3] ga gc [5, 6, 7] _ (by simp) (lit_all (by decide)) (L12.out.is (by omega)) (by simp) (by simp) (L15.out.is (by omega)) (L16.out.is (by omega)) (lit_all (by decide)) [2] [5, 7] HK0 (by decide)).mono ?_
  rintro e v2 ⟨f1, g1, f2, g2, rfl, hX0, hY0, hB⟩
  have z17 : v1.heap.size ≤ v2.heap.size := hB.size
  have B18 : Hid (Abx v2 (w.heap.size) (.bool c1) (.slice sa1 sz1.length sc1) (.slice da1 dz1.length dc1)) := B11.out.go hB
  have L19 : Hid (MidC (w.heap.size + 1) (w.heap.size + 1 + 1) v2 (some ⟨w.heap.size + 1, 0, none⟩) ([1, 0, 1]) (3)) := L12.out.go (by omega) hB
  have L20 : Hid (MidC (wo4.heap.size) (v1.heap.size) v2 (va) ([(3 : Int)]) (vc)) := L15.out.go (by omega) hB
  have L21 : Hid (MidC (wo4.heap.size) (v1.heap.size) v2 (ga) ([5, 6, 7]) (gc)) := L16.out.go (by omega) hB
  have hb22 : Hid (Below w.heap.size w v2) := hb14.out.trans (hB.mono hb14.out.size)
  have L23 : Hid (MidC (v1.heap.size) (v2.heap.size) v2 (f1) ([2]) (g1)) := hX0.midc
  have L24 : Hid (MidC (v1.heap.size) (v2.heap.size) v2 (f2) ([5, 7]) (g2)) := hY0.midc
  clear hB hb14 B11 L12 L15 L16 hX0 hY0
  clear L20 L21 L19
  have n25 := Abx.new v2 (.bool false) (.slice f1 1 g1) (.slice f2 2 g2)
  have l26 := (n25).c0
  have l27 := (n25).c1
  have l28 := (n25).c2
  have n29 := lit_mid (v2.alloc (.cells #[.bool false, .slice f1 1 g1, .slice f2 2 g2] 25)) 3 [5, 7] 2 rfl
  simp only [World.size_alloc, List.map_cons, List.map_nil] at n29
  go_wp2_with fail
  obtain ⟨wo30, hwo30⟩ : ∃ wo30, wo30 = ((v2.alloc (.cells #[.bool false, .slice f1 1 g1, .slice f2 2 g2] 25)).alloc (.cells #[.int .i64 5, .int .i64 7] 3)) := ⟨_, rfl⟩
  rw [← hwo30]
  have z31 : v2.heap.size + 1 + 1 ≤ wo30.heap.size := by rw [hwo30]; simp only [World.size_alloc]; omega
  have B32 : Hid (Abx wo30 (w.heap.size) (.bool c1) (.slice sa1 sz1.length sc1) (.slice da1 dz1.length dc1)) := by rw [hwo30]; exact ((B18.out.al (.cells #[.bool false, .slice f1 1 g1, .slice f2 2 g2] 25)).al (.cells #[.int .i64 5, .int .i64 7] 3))
  have B33 : Hid (Abx wo30 (v2.heap.size) (.bool false) (.slice f1 1 g1) (.slice f2 2 g2)) := by rw [hwo30]; exact (n25.al (.cells #[.int .i64 5, .int .i64 7] 3))
  have L34 : Hid (MidC (v1.heap.size) (v2.heap.size) wo30 (f1) ([2]) (g1)) := by rw [hwo30]; exact ((L23.out.al (by omega) (.cells #[.bool false, .slice f1 1 g1, .slice f2 2 g2] 25)).al (by simp only [World.size_alloc]; omega) (.cells #[.int .i64 5, .int .i64 7] 3))
  have L35 : Hid (MidC (v1.heap.size) (v2.heap.size) wo30 (f2) ([5, 7]) (g2)) := by rw [hwo30]; exact ((L24.out.al (by omega) (.cells #[.bool false, .slice f1 1 g1, .slice f2 2 g2] 25)).al (by simp only [World.size_alloc]; omega) (.cells #[.int .i64 5, .int .i64 7] 3))
  have L36 : Hid (MidC (v2.heap.size + 1) (v2.heap.size + 1 + 1) wo30 (some ⟨v2.heap.size + 1, 0, none⟩) ([5, 7]) (2)) := by rw [hwo30]; exact n29
  have hb37 : Hid (Below w.heap.size w wo30) := by rw [hwo30]; exact ((hb22.out.alloc (by omega) (.cells #[.bool false, .slice f1 1 g1, .slice f2 2 g2] 25)).alloc (by simp only [World.size_alloc]; omega) (.cells #[.int .i64 5, .int .i64 7] 3))
  have zwo30 : w.heap.size ≤ wo30.heap.size := hb37.out.size
  clear hwo30 n25 l26 l27 l28 n29 hb22 B18 L23 L24
  refine (ints_any f2 g2 [5, 7] (some ⟨v2.heap.size + 1, 0, none⟩) 2 [5, 7] (by simp) _ _ (L35.out.is (by omega)).1 (L36.out.is (by omega)).1).mono ?_
  rintro e v3 ⟨rfl, hB⟩
  have z38 : wo30.heap.size ≤ v3.heap.size := hB.size
  have B39 : Hid (Abx v3 (w.heap.size) (.bool c1) (.slice sa1 sz1.length sc1) (.slice da1 dz1.length dc1)) := B32.out.go hB
  have B40 : Hid (Abx v3 (v2.heap.size) (.bool false) (.slice f1 1 g1) (.slice f2 2 g2)) := B33.out.go hB
  have L41 : Hid (MidC (v1.heap.size) (v2.heap.size) v3 (f1) ([2]) (g1)) := L34.out.go (by omega) hB
  have L42 : Hid (MidC (v1.heap.size) (v2.heap.size) v3 (f2) ([5, 7]) (g2)) := L35.out.go (by omega) hB
  have L43 : Hid (MidC (v2.heap.size + 1) (v2.heap.size + 1 + 1) v3 (some ⟨v2.heap.size + 1, 0, none⟩) ([5, 7]) (2)) := L36.out.go (by omega) hB
  have hb44 : Hid (Below w.heap.size w v3) := hb37.out.trans (hB.mono hb37.out.size)
  clear hB hb37 B32 B33 L34 L35 L36
  rw [eqB_true rfl]
  clear L41 L42 L43 B40
  have l45 := (B39.out).c0
  have l46 := (B39.out).c1
  have l47 := (B39.out).c2
  go_wp2_with fail
  clear l45 l46 l47
  refine (kp_no ma mc m x hx c1 sa1 sc1 sz1 da1 dc1 dz1 _ hm HM.out.2 ((HM.out.1.below hb44.out).mono hb44.out.size) x1 x2 ((HI.out.1.below hb44.out).mono hb44.out.size) ((HI.out.2.1.below hb44.out).mono hb44.out.size) HI.out.2.2 HK0 E1.out).mono ?_
  rintro e v4 ⟨xa9, xc9, ya9, yc9, rfl, hB⟩
  have z48 : v3.heap.size ≤ v4.heap.size := hB.size
  have B49 : Hid (Abx v4 (w.heap.size) (.bool c1) (.slice sa1 sz1.length sc1) (.slice da1 dz1.length dc1)) := B39.out.go hB
  have hb50 : Hid (Below w.heap.size w v4) := hb44.out.trans (hB.mono hb44.out.size)
  clear hB hb44 B39
  go_wp2_with fail
  go_ret
  exact ⟨rfl, hb50.out.alloc hb50.out.size _⟩
set_option maxRecDepth 100000 in
set_option maxHeartbeats 8000000 in
theorem meshes_ch (HE : C2c) (HK0 : CKp) (HSp : CSp) (ma : Option Addr) (mc : Nat) (m : List Int) (hm : m.length ≤ 9223372036854775807) (Tm : ∀ j, In64 (nth m j)) (x : Int) (hx : In64 x) (sa1 : Option Addr) (sc1 : Nat) (sz1 : List Int) (da1 : Option Addr) (dc1 : Nat) (dz1 : List Int) (w : World) (wm : IsC w.heap.size w ma m mc) (w9 : IsArrD w sa1 sz1 sc1 da1 dz1 dc1) (E1 : Hid (kpE m x true sz1 dz1 = 0)) :
    Calls Try.prog 4 #[.slice ma m.length mc, .int .i64 x, .agg #[.bool true, .slice sa1 sz1.length sc1, .slice da1 dz1.length dc1]] w fun e w' => e = .returned (.bool true) ∧ Below w.heap.size w w' := by
  obtain ⟨x1, x2, x3, x4, s64, T⟩ := w9
  have HI : Hid (IsC w.heap.size w sa1 sz1 sc1 ∧ IsC w.heap.size w da1 dz1 dc1 ∧ ∀ j, In64 (nth dz1 j)) := ⟨x3, x4, T⟩
  clear x3 x4 T s64
  have HM : Hid (IsC w.heap.size w ma m mc ∧ ∀ j, In64 (nth m j)) := ⟨wm, Tm⟩
  clear wm Tm
  have n1 := Abx.new w (.bool true) (.slice sa1 sz1.length sc1) (.slice da1 dz1.length dc1)
  have n2 := lit_mid (w.alloc (.cells #[.bool true, .slice sa1 sz1.length sc1, .slice da1 dz1.length dc1] 25)) 3 [1, 0, 1] 3 rfl
  simp only [World.size_alloc, List.map_cons, List.map_nil] at n2
  have n3 := lit_mid ((w.alloc (.cells #[.bool true, .slice sa1 sz1.length sc1, .slice da1 dz1.length dc1] 25)).alloc (.cells #[.int .i64 1, .int .i64 0, .int .i64 1] 3)) 3 [5, 6, 7] 3 rfl
  simp only [World.size_alloc, List.map_cons, List.map_nil] at n3
  go_enter Try.func4, Try.ntmps4
  go_wp2_with fail
  obtain ⟨wo4, hwo4⟩ : ∃ wo4, wo4 = (((w.alloc (.cells #[.bool true, .slice sa1 sz1.length sc1, .slice da1 dz1.length dc1] 25)).alloc (.cells #[.int .i64 1, .int .i64 0, .int .i64 1] 3)).alloc (.cells #[.int .i64 5, .int .i64 6, .int .i64 7] 3)) := ⟨_, rfl⟩
  rw [← hwo4]
  have z5 : w.heap.size + 1 + 1 + 1 ≤ wo4.heap.size := by rw [hwo4]; simp only [World.size_alloc]; omega
  have B6 : Hid (Abx wo4 (w.heap.size) (.bool true) (.slice sa1 sz1.length sc1) (.slice da1 dz1.length dc1)) := by rw [hwo4]; exact ((n1.al (.cells #[.int .i64 1, .int .i64 0, .int .i64 1] 3)).al (.cells #[.int .i64 5, .int .i64 6, .int .i64 7] 3))
  have L7 : Hid (MidC (w.heap.size + 1) (w.heap.size + 1 + 1) wo4 (some ⟨w.heap.size + 1, 0, none⟩) ([1, 0, 1]) (3)) := by rw [hwo4]; exact (n2.al (by simp only [World.size_alloc]; omega) (.cells #[.int .i64 5, .int .i64 6, .int .i64 7] 3))
  have L8 : Hid (MidC (w.heap.size + 1 + 1) (w.heap.size + 1 + 1 + 1) wo4 (some ⟨w.heap.size + 1 + 1, 0, none⟩) ([5, 6, 7]) (3)) := by rw [hwo4]; exact n3
  have hb9 : Hid (Below w.heap.size w wo4) := by rw [hwo4]; exact ((((Below.refl w.heap.size w).alloc (by omega) (.cells #[.bool true, .slice sa1 sz1.length sc1, .slice da1 dz1.length dc1] 25)).alloc (by simp only [World.size_alloc]; omega) (.cells #[.int .i64 1, .int .i64 0, .int .i64 1] 3)).alloc (by simp only [World.size_alloc]; omega) (.cells #[.int .i64 5, .int .i64 6, .int .i64 7] 3))
  have zwo4 : w.heap.size ≤ wo4.heap.size := hb9.out.size
  clear hwo4 n1 n2 n3
  refine (vec_c (some ⟨w.heap.size + 1 + 1, 0, none⟩) 3 [5, 6, 7] (by simp) _ (L8.out.is (by omega)).1).mono ?_
  rintro e v1 ⟨va, vc, ga, gc, rfl, hV, hG, hB⟩
  have z10 : wo4.heap.size ≤ v1.heap.size := hB.size
  have B11 : Hid (Abx v1 (w.heap.size) (.bool true) (.slice sa1 sz1.length sc1) (.slice da1 dz1.length dc1)) := B6.out.go hB
  have L12 : Hid (MidC (w.heap.size + 1) (w.heap.size + 1 + 1) v1 (some ⟨w.heap.size + 1, 0, none⟩) ([1, 0, 1]) (3)) := L7.out.go (by omega) hB
  have L13 : Hid (MidC (w.heap.size + 1 + 1) (w.heap.size + 1 + 1 + 1) v1 (some ⟨w.heap.size + 1 + 1, 0, none⟩) ([5, 6, 7]) (3)) := L8.out.go (by omega) hB
  have hb14 : Hid (Below w.heap.size w v1) := hb9.out.trans (hB.mono hb9.out.size)
  have L15 : Hid (MidC (wo4.heap.size) (v1.heap.size) v1 (va) ([(3 : Int)]) (vc)) := hV.midc
  have L16 : Hid (MidC (wo4.heap.size) (v1.heap.size) v1 (ga) ([5, 6, 7]) (gc)) := hG.midc
  clear hB hb9 B6 L7 L8 hV hG
  clear L13
  go_wp2_with fail
  refine (kp_ok (some ⟨w.heap.size + 1, 0, none⟩) 3 [1, 0, 1] 0 (by unfold In64; decide) false va vc [3] ga gc [5, 6, 7] _ (by simp) (lit_all (by decide)) (L12.out.is (by omega)) (by simp) (by simp) (L15.out.is (by omega)) (L16.out.is (by omega)) (lit_all (by decide)) [2] [5, 7] HK0 (by decide)).mono ?_
  rintro e v2 ⟨f1, g1, f2, g2, rfl, hX0, hY0, hB⟩
  have z17 : v1.heap.size ≤ v2.heap.size := hB.size
  have B18 : Hid (Abx v2 (w.heap.size) (.bool true) (.slice sa1 sz1.length sc1) (.slice da1 dz1.length dc1)) := B11.out.go hB
  have L19 : Hid (MidC (w.heap.size + 1) (w.heap.size + 1 + 1) v2 (some ⟨w.heap.size + 1, 0, none⟩) ([1, 0, 1]) (3)) := L12.out.go (by omega) hB
  have L20 : Hid (MidC (wo4.heap.size) (v1.heap.size) v2 (va) ([(3 : Int)]) (vc)) := L15.out.go (by omega) hB
  have L21 : Hid (MidC (wo4.heap.size) (v1.heap.size) v2 (ga) ([5, 6, 7]) (gc)) := L16.out.go (by omega) hB
  have hb22 : Hid (Below w.heap.size w v2) := hb14.out.trans (hB.mono hb14.out.size)
  have L23 : Hid (MidC (v1.heap.size) (v2.heap.size) v2 (f1) ([2]) (g1)) := hX0.midc
  have L24 : Hid (MidC (v1.heap.size) (v2.heap.size) v2 (f2) ([5, 7]) (g2)) := hY0.midc
  clear hB hb14 B11 L12 L15 L16 hX0 hY0
  clear L20 L21 L19
  have n25 := Abx.new v2 (.bool false) (.slice f1 1 g1) (.slice f2 2 g2)
  have l26 := (n25).c0
  have l27 := (n25).c1
  have l28 := (n25).c2
  have n29 := lit_mid (v2.alloc (.cells #[.bool false, .slice f1 1 g1, .slice f2 2 g2] 25)) 3 [5, 7] 2 rfl
  simp only [World.size_alloc, List.map_cons, List.map_nil] at n29
  go_wp2_with fail
  obtain ⟨wo30, hwo30⟩ : ∃ wo30, wo30 = ((v2.alloc (.cells #[.bool false, .slice f1 1 g1, .slice f2 2 g2] 25)).alloc (.cells #[.int .i64 5, .int .i64 7] 3)) := ⟨_, rfl⟩
  rw [← hwo30]
  have z31 : v2.heap.size + 1 + 1 ≤ wo30.heap.size := by rw [hwo30]; simp only [World.size_alloc]; omega
  have B32 : Hid (Abx wo30 (w.heap.size) (.bool true) (.slice sa1 sz1.length sc1) (.slice da1 dz1.length dc1)) := by rw [hwo30]; exact ((B18.out.al (.cells #[.bool false, .slice f1 1 g1, .slice f2 2 g2] 25)).al (.cells #[.int .i64 5, .int .i64 7] 3))
  have B33 : Hid (Abx wo30 (v2.heap.size) (.bool false) (.slice f1 1 g1) (.slice f2 2 g2)) := by rw [hwo30]; exact (n25.al (.cells #[.int .i64 5, .int .i64 7] 3))
  have L34 : Hid (MidC (v1.heap.size) (v2.heap.size) wo30 (f1) ([2]) (g1)) := by rw [hwo30]; exact ((L23.out.al (by omega) (.cells #[.bool false, .slice f1 1 g1, .slice f2 2 g2] 25)).al (by simp only [World.size_alloc]; omega) (.cells #[.int .i64 5, .int .i64 7] 3))
  have L35 : Hid (MidC (v1.heap.size) (v2.heap.size) wo30 (f2) ([5, 7]) (g2)) := by rw [hwo30]; exact ((L24.out.al (by omega) (.cells #[.bool false, .slice f1 1 g1, .slice f2 2 g2] 25)).al (by simp only [World.size_alloc]; omega) (.cells #[.int .i64 5, .int .i64 7] 3))
  have L36 : Hid (MidC (v2.heap.size + 1) (v2.heap.size + 1 + 1) wo30 (some ⟨v2.heap.size + 1, 0, none⟩) ([5, 7]) (2)) := by rw [hwo30]; exact n29
  have hb37 : Hid (Below w.heap.size w wo30) := by rw [hwo30]; exact ((hb22.out.alloc (by omega) (.cells #[.bool false, .slice f1 1 g1, .slice f2 2 g2] 25)).alloc (by simp only [World.size_alloc]; omega) (.cells #[.int .i64 5, .int .i64 7] 3))
  have zwo30 : w.heap.size ≤ wo30.heap.size := hb37.out.size
  clear hwo30 n25 l26 l27 l28 n29 hb22 B18 L23 L24
  refine (ints_any f2 g2 [5, 7] (some ⟨v2.heap.size + 1, 0, none⟩) 2 [5, 7] (by simp) _ _ (L35.out.is (by omega)).1 (L36.out.is (by omega)).1).mono ?_
  rintro e v3 ⟨rfl, hB⟩
  have z38 : wo30.heap.size ≤ v3.heap.size := hB.size
  have B39 : Hid (Abx v3 (w.heap.size) (.bool true) (.slice sa1 sz1.length sc1) (.slice da1 dz1.length dc1)) := B32.out.go hB
  have B40 : Hid (Abx v3 (v2.heap.size) (.bool false) (.slice f1 1 g1) (.slice f2 2 g2)) := B33.out.go hB
  have L41 : Hid (MidC (v1.heap.size) (v2.heap.size) v3 (f1) ([2]) (g1)) := L34.out.go (by omega) hB
  have L42 : Hid (MidC (v1.heap.size) (v2.heap.size) v3 (f2) ([5, 7]) (g2)) := L35.out.go (by omega) hB
  have L43 : Hid (MidC (v2.heap.size + 1) (v2.heap.size + 1 + 1) v3 (some ⟨v2.heap.size + 1, 0, none⟩) ([5, 7]) (2)) := L36.out.go (by omega) hB
  have hb44 : Hid (Below w.heap.size w v3) := hb37.out.trans (hB.mono hb37.out.size)
  clear hB hb37 B32 B33 L34 L35 L36
  rw [eqB_true rfl]
  clear L41 L42 L43 B40
  have l45 := (B39.out).c0
  have l46 := (B39.out).c1
  have l47 := (B39.out).c2
  go_wp2_with fail
  clear l45 l46 l47
  refine (kp_ok ma mc m x hx true sa1 sc1 sz1 da1 dc1 dz1 _ hm HM.out.2 ((HM.out.1.below hb44.out).mono hb44.out.size) x1 x2 ((HI.out.1.below hb44.out).mono hb44.out.size) ((HI.out.2.1.below hb44.out).mono hb44.out.size) HI.out.2.2 (kpS m x.toNat sz1) (kpD m x.toNat sz1 dz1) HK0 ⟨E1.out, rfl, rfl⟩).mono ?_
  rintro e v4 ⟨xa1, xc1, ya1, yc1, rfl, _, _, hB⟩
  have z48 : v3.heap.size ≤ v4.heap.size := hB.size
  have B49 : Hid (Abx v4 (w.heap.size) (.bool true) (.slice sa1 sz1.length sc1) (.slice da1 dz1.length dc1)) := B39.out.go hB
  have hb50 : Hid (Below w.heap.size w v4) := hb44.out.trans (hB.mono hb44.out.size)
  clear hB hb44 B39
  generalize kpS m x.toNat sz1 = S1
  generalize kpD m x.toNat sz1 dz1 = D1
  have l1 := (B49.out.al (.cells #[.bool true, .slice xa1 S1.length xc1, .slice ya1 D1.length yc1] 25)).c0
  go_wp2_with fail
  go_ret
  exact ⟨rfl, hb50.out.alloc hb50.out.size _⟩
end Go.Proofs.Ytnfdcdoelhanlaa
