/-
  The walk of the statement TurnMirrors, given what the program tells.
-/
import Derived.Test.YtaahndglgjhneaaTurnw
namespace Go.Proofs.Ytaahndglgjhneaa
open Go.RowKit
set_option linter.unusedVariables false

theorem lit_all {xs : List Int} (h : xs.all (fun x => decide (-9223372036854775808 ≤ x ∧ x ≤ 9223372036854775807)) = true) : ∀ j, In64 (nth xs j) := fun j => by
  by_cases hj : j < xs.length
  · have : nth xs j ∈ xs := by simp [nth, hj]
    exact of_decide_eq_true (p := -9223372036854775808 ≤ nth xs j ∧ nth xs j ≤ 9223372036854775807) (List.all_eq_true.1 h _ this)
  · have : nth xs j = 0 := by simp [nth, List.getElem?_eq_none (Nat.le_of_not_lt hj)]
    rw [this]; unfold In64; decide
theorem fact_v : rtG (-1) 0 [3] [1, 2, 3] = [3, 1, 2] := by decide
set_option maxRecDepth 100000 in
set_option maxHeartbeats 8000000 in
theorem mirrors_hi (HR : CRv) (HT : CRt) (n x : Int) (hn : In64 n) (hx : In64 x) (c1 : Bool) (sa1 : Option Addr) (sc1 : Nat) (sz1 : List Int) (da1 : Option Addr) (dc1 : Nat) (dz1 : List Int) (w : World) (w9 : IsArrC w sa1 sz1 sc1 da1 dz1) (B1 : 1099511627776 < n) :
    Calls Try.prog 5 #[.int .i64 n, .int .i64 x, .agg #[.bool c1, .slice sa1 sz1.length sc1, .slice da1 dz1.length dc1]] w fun e w' => e = .returned (.bool true) ∧ Below w.heap.size w w' := by
  obtain ⟨x1, x2, x3, x4, s64, T⟩ := w9
  have HI : Hid (IsC w.heap.size w sa1 sz1 sc1 ∧ IsInts w.heap.size w da1 dz1 ∧ ∀ j, In64 (nth dz1 j)) := ⟨x3, x4, T⟩
  have HS64 : Hid (∀ j, In64 (nth sz1 j)) := s64
  clear x3 x4 T s64
  have p1 : Abx (w.alloc (.cells #[.bool c1, .slice sa1 sz1.length sc1, .slice da1 dz1.length dc1] 24)) w.heap.size (.bool c1) (.slice sa1 sz1.length sc1) (.slice da1 dz1.length dc1) := Abx.new w _ _ _
  have hb : Hid (Below w.heap.size w (w.alloc (.cells #[.bool c1, .slice sa1 sz1.length sc1, .slice da1 dz1.length dc1] 24))) := (Below.refl _ w).alloc (Nat.le_refl _) _
  have p1_0 := p1.c0
  have p1_1 := p1.c1
  have p1_2 := p1.c2
  replace hb : Hid (Below w.heap.size w ((w.alloc (.cells #[.bool c1, .slice sa1 sz1.length sc1, .slice da1 dz1.length dc1] 24)).alloc (.cells #[.int .i64 1, .int .i64 2, .int .i64 3] 3))) := hb.out.alloc hb.out.size _
  replace p1 := p1.al (.cells #[.int .i64 1, .int .i64 2, .int .i64 3] 3)
  replace p1_0 := p1.c0
  replace p1_1 := p1.c1
  replace p1_2 := p1.c2
  have nl := new_lit (w.alloc (.cells #[.bool c1, .slice sa1 sz1.length sc1, .slice da1 dz1.length dc1] 24)) 3 [1, 2, 3]
  simp only [World.size_alloc] at nl
  go_enter Try.func5, Try.ntmps5
  go_wp2_with fail
  refine (vec_any (some ⟨w.heap.size + 1, 0, none⟩) 3 [1, 2, 3] (by simp) _ nl.ints).mono ?_
  rintro e v1 ⟨va, vc, ga, gc, rfl, hV, hG, hB⟩
  replace hb : Hid (Below w.heap.size w v1) := hb.out.trans (hB.mono hb.out.size)
  replace p1 := p1.go hB
  replace p1_0 := p1.c0
  replace p1_1 := p1.c1
  replace p1_2 := p1.c2
  clear hB
  clear nl
  go_wp2_with fail
  refine (rt_ok false va vc [3] ga gc [1, 2, 3] _ (by simp) (by simp) hV.ints hG.ints (lit_all (by decide)) HT (-1) 0 (by unfold In64; decide) (by unfold In64; decide) (by decide)).mono ?_
  rintro e v2 ⟨f1, g1, f2, g2, he, _, hY, hB⟩
  replace hb : Hid (Below w.heap.size w v2) := hb.out.trans (hB.mono hb.out.size)
  replace p1 := p1.go hB
  replace hV := hV.go hB
  replace hG := hG.go hB
  replace p1_0 := p1.c0
  replace p1_1 := p1.c1
  replace p1_2 := p1.c2
  clear hB
  rw [fact_v] at he hY
  subst he
  replace hb : Hid (Below w.heap.size w (v2.alloc (.cells #[.bool false, .slice f1 1 g1, .slice f2 3 g2] 24))) := hb.out.alloc hb.out.size _
  replace p1 := p1.al (.cells #[.bool false, .slice f1 1 g1, .slice f2 3 g2] 24)
  replace hV := hV.al (.cells #[.bool false, .slice f1 1 g1, .slice f2 3 g2] 24)
  replace hG := hG.al (.cells #[.bool false, .slice f1 1 g1, .slice f2 3 g2] 24)
  replace hY := hY.al (.cells #[.bool false, .slice f1 1 g1, .slice f2 3 g2] 24)
  replace p1_0 := p1.c0
  replace p1_1 := p1.c1
  replace p1_2 := p1.c2
  replace hb : Hid (Below w.heap.size w ((v2.alloc (.cells #[.bool false, .slice f1 1 g1, .slice f2 3 g2] 24)).alloc (.cells #[.int .i64 3, .int .i64 1, .int .i64 2] 3))) := hb.out.alloc hb.out.size _
  replace p1 := p1.al (.cells #[.int .i64 3, .int .i64 1, .int .i64 2] 3)
  replace hV := hV.al (.cells #[.int .i64 3, .int .i64 1, .int .i64 2] 3)
  replace hG := hG.al (.cells #[.int .i64 3, .int .i64 1, .int .i64 2] 3)
  replace hY := hY.al (.cells #[.int .i64 3, .int .i64 1, .int .i64 2] 3)
  replace p1_0 := p1.c0
  replace p1_1 := p1.c1
  replace p1_2 := p1.c2
  have nl := new_lit (v2.alloc (.cells #[.bool false, .slice f1 1 g1, .slice f2 3 g2] 24)) 3 [3, 1, 2]
  simp only [World.size_alloc] at nl
  go_wp2_with fail
  refine (ints_any f2 g2 [3, 1, 2] (some ⟨v2.heap.size + 1, 0, none⟩) 3 [3, 1, 2] (by simp) _ _ hY.ints nl.ints).mono ?_
  rintro e v3 ⟨rfl, hB⟩
  replace hb : Hid (Below w.heap.size w v3) := hb.out.trans (hB.mono hb.out.size)
  replace p1 := p1.go hB
  replace hV := hV.go hB
  replace hG := hG.go hB
  replace hY := hY.go hB
  replace p1_0 := p1.c0
  replace p1_1 := p1.c1
  replace p1_2 := p1.c2
  clear hB
  clear nl hY hV hG
  rw [eqB_true rfl]
  go_wp2_with fail
  go_ret
  exact ⟨rfl, hb.out⟩
set_option maxRecDepth 100000 in
set_option maxHeartbeats 8000000 in
theorem mirrors_lo (HR : CRv) (HT : CRt) (n x : Int) (hn : In64 n) (hx : In64 x) (c1 : Bool) (sa1 : Option Addr) (sc1 : Nat) (sz1 : List Int) (da1 : Option Addr) (dc1 : Nat) (dz1 : List Int) (w : World) (w9 : IsArrC w sa1 sz1 sc1 da1 dz1) (B0 : n ≤ 1099511627776) (B1 : n < -1099511627776) :
    Calls Try.prog 5 #[.int .i64 n, .int .i64 x, .agg #[.bool c1, .slice sa1 sz1.length sc1, .slice da1 dz1.length dc1]] w fun e w' => e = .returned (.bool true) ∧ Below w.heap.size w w' := by
  obtain ⟨x1, x2, x3, x4, s64, T⟩ := w9
  have HI : Hid (IsC w.heap.size w sa1 sz1 sc1 ∧ IsInts w.heap.size w da1 dz1 ∧ ∀ j, In64 (nth dz1 j)) := ⟨x3, x4, T⟩
  have HS64 : Hid (∀ j, In64 (nth sz1 j)) := s64
  clear x3 x4 T s64
  have p1 : Abx (w.alloc (.cells #[.bool c1, .slice sa1 sz1.length sc1, .slice da1 dz1.length dc1] 24)) w.heap.size (.bool c1) (.slice sa1 sz1.length sc1) (.slice da1 dz1.length dc1) := Abx.new w _ _ _
  have hb : Hid (Below w.heap.size w (w.alloc (.cells #[.bool c1, .slice sa1 sz1.length sc1, .slice da1 dz1.length dc1] 24))) := (Below.refl _ w).alloc (Nat.le_refl _) _
  have p1_0 := p1.c0
  have p1_1 := p1.c1
  have p1_2 := p1.c2
  replace hb : Hid (Below w.heap.size w ((w.alloc (.cells #[.bool c1, .slice sa1 sz1.length sc1, .slice da1 dz1.length dc1] 24)).alloc (.cells #[.int .i64 1, .int .i64 2, .int .i64 3] 3))) := hb.out.alloc hb.out.size _
  replace p1 := p1.al (.cells #[.int .i64 1, .int .i64 2, .int .i64 3] 3)
  replace p1_0 := p1.c0
  replace p1_1 := p1.c1
  replace p1_2 := p1.c2
  have nl := new_lit (w.alloc (.cells #[.bool c1, .slice sa1 sz1.length sc1, .slice da1 dz1.length dc1] 24)) 3 [1, 2, 3]
  simp only [World.size_alloc] at nl
  go_enter Try.func5, Try.ntmps5
  go_wp2_with fail
  refine (vec_any (some ⟨w.heap.size + 1, 0, none⟩) 3 [1, 2, 3] (by simp) _ nl.ints).mono ?_
  rintro e v1 ⟨va, vc, ga, gc, rfl, hV, hG, hB⟩
  replace hb : Hid (Below w.heap.size w v1) := hb.out.trans (hB.mono hb.out.size)
  replace p1 := p1.go hB
  replace p1_0 := p1.c0
  replace p1_1 := p1.c1
  replace p1_2 := p1.c2
  clear hB
  clear nl
  go_wp2_with fail
  refine (rt_ok false va vc [3] ga gc [1, 2, 3] _ (by simp) (by simp) hV.ints hG.ints (lit_all (by decide)) HT (-1) 0 (by unfold In64; decide) (by unfold In64; decide) (by decide)).mono ?_
  rintro e v2 ⟨f1, g1, f2, g2, he, _, hY, hB⟩
  replace hb : Hid (Below w.heap.size w v2) := hb.out.trans (hB.mono hb.out.size)
  replace p1 := p1.go hB
  replace hV := hV.go hB
  replace hG := hG.go hB
  replace p1_0 := p1.c0
  replace p1_1 := p1.c1
  replace p1_2 := p1.c2
  clear hB
  rw [fact_v] at he hY
  subst he
  replace hb : Hid (Below w.heap.size w (v2.alloc (.cells #[.bool false, .slice f1 1 g1, .slice f2 3 g2] 24))) := hb.out.alloc hb.out.size _
  replace p1 := p1.al (.cells #[.bool false, .slice f1 1 g1, .slice f2 3 g2] 24)
  replace hV := hV.al (.cells #[.bool false, .slice f1 1 g1, .slice f2 3 g2] 24)
  replace hG := hG.al (.cells #[.bool false, .slice f1 1 g1, .slice f2 3 g2] 24)
  replace hY := hY.al (.cells #[.bool false, .slice f1 1 g1, .slice f2 3 g2] 24)
  replace p1_0 := p1.c0
  replace p1_1 := p1.c1
  replace p1_2 := p1.c2
  replace hb : Hid (Below w.heap.size w ((v2.alloc (.cells #[.bool false, .slice f1 1 g1, .slice f2 3 g2] 24)).alloc (.cells #[.int .i64 3, .int .i64 1, .int .i64 2] 3))) := hb.out.alloc hb.out.size _
  replace p1 := p1.al (.cells #[.int .i64 3, .int .i64 1, .int .i64 2] 3)
  replace hV := hV.al (.cells #[.int .i64 3, .int .i64 1, .int .i64 2] 3)
  replace hG := hG.al (.cells #[.int .i64 3, .int .i64 1, .int .i64 2] 3)
  replace hY := hY.al (.cells #[.int .i64 3, .int .i64 1, .int .i64 2] 3)
  replace p1_0 := p1.c0
  replace p1_1 := p1.c1
  replace p1_2 := p1.c2
  have nl := new_lit (v2.alloc (.cells #[.bool false, .slice f1 1 g1, .slice f2 3 g2] 24)) 3 [3, 1, 2]
  simp only [World.size_alloc] at nl
  go_wp2_with fail
  refine (ints_any f2 g2 [3, 1, 2] (some ⟨v2.heap.size + 1, 0, none⟩) 3 [3, 1, 2] (by simp) _ _ hY.ints nl.ints).mono ?_
  rintro e v3 ⟨rfl, hB⟩
  replace hb : Hid (Below w.heap.size w v3) := hb.out.trans (hB.mono hb.out.size)
  replace p1 := p1.go hB
  replace hV := hV.go hB
  replace hG := hG.go hB
  replace hY := hY.go hB
  replace p1_0 := p1.c0
  replace p1_1 := p1.c1
  replace p1_2 := p1.c2
  clear hB
  clear nl hY hV hG
  rw [eqB_true rfl]
  go_wp2_with fail
  go_ret
  exact ⟨rfl, hb.out⟩
set_option maxRecDepth 100000 in
set_option maxHeartbeats 8000000 in
theorem mirrors_no (HR : CRv) (HT : CRt) (n x : Int) (hn : In64 n) (hx : In64 x) (c1 : Bool) (sa1 : Option Addr) (sc1 : Nat) (sz1 : List Int) (da1 : Option Addr) (dc1 : Nat) (dz1 : List Int) (w : World) (w9 : IsArrC w sa1 sz1 sc1 da1 dz1) (B0 : n ≤ 1099511627776) (B1 : -1099511627776 ≤ n) (F1 : Hid (axE x c1 sz1 dz1 ≠ 0)) :
    Calls Try.prog 5 #[.int .i64 n, .int .i64 x, .agg #[.bool c1, .slice sa1 sz1.length sc1, .slice da1 dz1.length dc1]] w fun e w' => e = .returned (.bool true) ∧ Below w.heap.size w w' := by
  obtain ⟨x1, x2, x3, x4, s64, T⟩ := w9
  have HI : Hid (IsC w.heap.size w sa1 sz1 sc1 ∧ IsInts w.heap.size w da1 dz1 ∧ ∀ j, In64 (nth dz1 j)) := ⟨x3, x4, T⟩
  have HS64 : Hid (∀ j, In64 (nth sz1 j)) := s64
  clear x3 x4 T s64
  have p1 : Abx (w.alloc (.cells #[.bool c1, .slice sa1 sz1.length sc1, .slice da1 dz1.length dc1] 24)) w.heap.size (.bool c1) (.slice sa1 sz1.length sc1) (.slice da1 dz1.length dc1) := Abx.new w _ _ _
  have hb : Hid (Below w.heap.size w (w.alloc (.cells #[.bool c1, .slice sa1 sz1.length sc1, .slice da1 dz1.length dc1] 24))) := (Below.refl _ w).alloc (Nat.le_refl _) _
  have p1_0 := p1.c0
  have p1_1 := p1.c1
  have p1_2 := p1.c2
  replace hb : Hid (Below w.heap.size w ((w.alloc (.cells #[.bool c1, .slice sa1 sz1.length sc1, .slice da1 dz1.length dc1] 24)).alloc (.cells #[.int .i64 1, .int .i64 2, .int .i64 3] 3))) := hb.out.alloc hb.out.size _
  replace p1 := p1.al (.cells #[.int .i64 1, .int .i64 2, .int .i64 3] 3)
  replace p1_0 := p1.c0
  replace p1_1 := p1.c1
  replace p1_2 := p1.c2
  have nl := new_lit (w.alloc (.cells #[.bool c1, .slice sa1 sz1.length sc1, .slice da1 dz1.length dc1] 24)) 3 [1, 2, 3]
  simp only [World.size_alloc] at nl
  go_enter Try.func5, Try.ntmps5
  go_wp2_with fail
  refine (vec_any (some ⟨w.heap.size + 1, 0, none⟩) 3 [1, 2, 3] (by simp) _ nl.ints).mono ?_
  rintro e v1 ⟨va, vc, ga, gc, rfl, hV, hG, hB⟩
  replace hb : Hid (Below w.heap.size w v1) := hb.out.trans (hB.mono hb.out.size)
  replace p1 := p1.go hB
  replace p1_0 := p1.c0
  replace p1_1 := p1.c1
  replace p1_2 := p1.c2
  clear hB
  clear nl
  go_wp2_with fail
  refine (rt_ok false va vc [3] ga gc [1, 2, 3] _ (by simp) (by simp) hV.ints hG.ints (lit_all (by decide)) HT (-1) 0 (by unfold In64; decide) (by unfold In64; decide) (by decide)).mono ?_
  rintro e v2 ⟨f1, g1, f2, g2, he, _, hY, hB⟩
  replace hb : Hid (Below w.heap.size w v2) := hb.out.trans (hB.mono hb.out.size)
  replace p1 := p1.go hB
  replace hV := hV.go hB
  replace hG := hG.go hB
  replace p1_0 := p1.c0
  replace p1_1 := p1.c1
  replace p1_2 := p1.c2
  clear hB
  rw [fact_v] at he hY
  subst he
  replace hb : Hid (Below w.heap.size w (v2.alloc (.cells #[.bool false, .slice f1 1 g1, .slice f2 3 g2] 24))) := hb.out.alloc hb.out.size _
  replace p1 := p1.al (.cells #[.bool false, .slice f1 1 g1, .slice f2 3 g2] 24)
  replace hV := hV.al (.cells #[.bool false, .slice f1 1 g1, .slice f2 3 g2] 24)
  replace hG := hG.al (.cells #[.bool false, .slice f1 1 g1, .slice f2 3 g2] 24)
  replace hY := hY.al (.cells #[.bool false, .slice f1 1 g1, .slice f2 3 g2] 24)
  replace p1_0 := p1.c0
  replace p1_1 := p1.c1
  replace p1_2 := p1.c2
  replace hb : Hid (Below w.heap.size w ((v2.alloc (.cells #[.bool false, .slice f1 1 g1, .slice f2 3 g2] 24)).alloc (.cells #[.int .i64 3, .int .i64 1, .int .i64 2] 3))) := hb.out.alloc hb.out.size _
  replace p1 := p1.al (.cells #[.int .i64 3, .int .i64 1, .int .i64 2] 3)
  replace hV := hV.al (.cells #[.int .i64 3, .int .i64 1, .int .i64 2] 3)
  replace hG := hG.al (.cells #[.int .i64 3, .int .i64 1, .int .i64 2] 3)
  replace hY := hY.al (.cells #[.int .i64 3, .int .i64 1, .int .i64 2] 3)
  replace p1_0 := p1.c0
  replace p1_1 := p1.c1
  replace p1_2 := p1.c2
  have nl := new_lit (v2.alloc (.cells #[.bool false, .slice f1 1 g1, .slice f2 3 g2] 24)) 3 [3, 1, 2]
  simp only [World.size_alloc] at nl
  go_wp2_with fail
  refine (ints_any f2 g2 [3, 1, 2] (some ⟨v2.heap.size + 1, 0, none⟩) 3 [3, 1, 2] (by simp) _ _ hY.ints nl.ints).mono ?_
  rintro e v3 ⟨rfl, hB⟩
  replace hb : Hid (Below w.heap.size w v3) := hb.out.trans (hB.mono hb.out.size)
  replace p1 := p1.go hB
  replace hV := hV.go hB
  replace hG := hG.go hB
  replace hY := hY.go hB
  replace p1_0 := p1.c0
  replace p1_1 := p1.c1
  replace p1_2 := p1.c2
  clear hB
  clear nl hY hV hG
  rw [eqB_true rfl]
  go_wp2_with fail
  refine (rv_no c1 sa1 sc1 sz1 da1 dc1 dz1 _ x1 x2 ((HI.out.1.below hb.out).mono hb.out.size) ((HI.out.2.1.below hb.out).mono hb.out.size) HI.out.2.2 HR x hx F1.out).mono ?_
  rintro e v4 ⟨xa1, xc1, ya1, yc1, rfl, hB⟩
  replace hb : Hid (Below w.heap.size w v4) := hb.out.trans (hB.mono hb.out.size)
  replace p1 := p1.go hB
  replace p1_0 := p1.c0
  replace p1_1 := p1.c1
  replace p1_2 := p1.c2
  clear hB
  replace hb : Hid (Below w.heap.size w (v4.alloc (.cells #[.bool false, .slice xa1 0 xc1, .slice ya1 0 yc1] 24))) := hb.out.alloc hb.out.size _
  replace p1 := p1.al (.cells #[.bool false, .slice xa1 0 xc1, .slice ya1 0 yc1] 24)
  replace p1_0 := p1.c0
  replace p1_1 := p1.c1
  replace p1_2 := p1.c2
  go_wp2_with fail
  go_ret
  exact ⟨rfl, hb.out⟩
set_option maxRecDepth 100000 in
set_option maxHeartbeats 8000000 in
theorem mirrors_ok (HR : CRv) (HT : CRt) (n x : Int) (hn : In64 n) (hx : In64 x) (c1 : Bool) (sa1 : Option Addr) (sc1 : Nat) (sz1 : List Int) (da1 : Option Addr) (dc1 : Nat) (dz1 : List Int) (w : World) (w9 : IsArrC w sa1 sz1 sc1 da1 dz1) (B0 : n ≤ 1099511627776) (B1 : -1099511627776 ≤ n) (F1 : Hid (axE x c1 sz1 dz1 = 0)) :
    Calls Try.prog 5 #[.int .i64 n, .int .i64 x, .agg #[.bool c1, .slice sa1 sz1.length sc1, .slice da1 dz1.length dc1]] w fun e w' => e = .returned (.bool true) ∧ Below w.heap.size w w' := by
  obtain ⟨x1, x2, x3, x4, s64, T⟩ := w9
  have HI : Hid (IsC w.heap.size w sa1 sz1 sc1 ∧ IsInts w.heap.size w da1 dz1 ∧ ∀ j, In64 (nth dz1 j)) := ⟨x3, x4, T⟩
  have HS64 : Hid (∀ j, In64 (nth sz1 j)) := s64
  clear x3 x4 T s64
  have p1 : Abx (w.alloc (.cells #[.bool c1, .slice sa1 sz1.length sc1, .slice da1 dz1.length dc1] 24)) w.heap.size (.bool c1) (.slice sa1 sz1.length sc1) (.slice da1 dz1.length dc1) := Abx.new w _ _ _
  have hb : Hid (Below w.heap.size w (w.alloc (.cells #[.bool c1, .slice sa1 sz1.length sc1, .slice da1 dz1.length dc1] 24))) := (Below.refl _ w).alloc (Nat.le_refl _) _
  have p1_0 := p1.c0
  have p1_1 := p1.c1
  have p1_2 := p1.c2
  replace hb : Hid (Below w.heap.size w ((w.alloc (.cells #[.bool c1, .slice sa1 sz1.length sc1, .slice da1 dz1.length dc1] 24)).alloc (.cells #[.int .i64 1, .int .i64 2, .int .i64 3] 3))) := hb.out.alloc hb.out.size _
  replace p1 := p1.al (.cells #[.int .i64 1, .int .i64 2, .int .i64 3] 3)
  replace p1_0 := p1.c0
  replace p1_1 := p1.c1
  replace p1_2 := p1.c2
  have nl := new_lit (w.alloc (.cells #[.bool c1, .slice sa1 sz1.length sc1, .slice da1 dz1.length dc1] 24)) 3 [1, 2, 3]
  simp only [World.size_alloc] at nl
  go_enter Try.func5, Try.ntmps5
  go_wp2_with fail
  refine (vec_any (some ⟨w.heap.size + 1, 0, none⟩) 3 [1, 2, 3] (by simp) _ nl.ints).mono ?_
  rintro e v1 ⟨va, vc, ga, gc, rfl, hV, hG, hB⟩
  replace hb : Hid (Below w.heap.size w v1) := hb.out.trans (hB.mono hb.out.size)
  replace p1 := p1.go hB
  replace p1_0 := p1.c0
  replace p1_1 := p1.c1
  replace p1_2 := p1.c2
  clear hB
  clear nl
  go_wp2_with fail
  refine (rt_ok false va vc [3] ga gc [1, 2, 3] _ (by simp) (by simp) hV.ints hG.ints (lit_all (by decide)) HT (-1) 0 (by unfold In64; decide) (by unfold In64; decide) (by decide)).mono ?_
  rintro e v2 ⟨f1, g1, f2, g2, he, _, hY, hB⟩
  replace hb : Hid (Below w.heap.size w v2) := hb.out.trans (hB.mono hb.out.size)
  replace p1 := p1.go hB
  replace hV := hV.go hB
  replace hG := hG.go hB
  replace p1_0 := p1.c0
  replace p1_1 := p1.c1
  replace p1_2 := p1.c2
  clear hB
  rw [fact_v] at he hY
  subst he
  replace hb : Hid (Below w.heap.size w (v2.alloc (.cells #[.bool false, .slice f1 1 g1, .slice f2 3 g2] 24))) := hb.out.alloc hb.out.size _
  replace p1 := p1.al (.cells #[.bool false, .slice f1 1 g1, .slice f2 3 g2] 24)
  replace hV := hV.al (.cells #[.bool false, .slice f1 1 g1, .slice f2 3 g2] 24)
  replace hG := hG.al (.cells #[.bool false, .slice f1 1 g1, .slice f2 3 g2] 24)
  replace hY := hY.al (.cells #[.bool false, .slice f1 1 g1, .slice f2 3 g2] 24)
  replace p1_0 := p1.c0
  replace p1_1 := p1.c1
  replace p1_2 := p1.c2
  replace hb : Hid (Below w.heap.size w ((v2.alloc (.cells #[.bool false, .slice f1 1 g1, .slice f2 3 g2] 24)).alloc (.cells #[.int .i64 3, .int .i64 1, .int .i64 2] 3))) := hb.out.alloc hb.out.size _
  replace p1 := p1.al (.cells #[.int .i64 3, .int .i64 1, .int .i64 2] 3)
  replace hV := hV.al (.cells #[.int .i64 3, .int .i64 1, .int .i64 2] 3)
  replace hG := hG.al (.cells #[.int .i64 3, .int .i64 1, .int .i64 2] 3)
  replace hY := hY.al (.cells #[.int .i64 3, .int .i64 1, .int .i64 2] 3)
  replace p1_0 := p1.c0
  replace p1_1 := p1.c1
  replace p1_2 := p1.c2
  have nl := new_lit (v2.alloc (.cells #[.bool false, .slice f1 1 g1, .slice f2 3 g2] 24)) 3 [3, 1, 2]
  simp only [World.size_alloc] at nl
  go_wp2_with fail
  refine (ints_any f2 g2 [3, 1, 2] (some ⟨v2.heap.size + 1, 0, none⟩) 3 [3, 1, 2] (by simp) _ _ hY.ints nl.ints).mono ?_
  rintro e v3 ⟨rfl, hB⟩
  replace hb : Hid (Below w.heap.size w v3) := hb.out.trans (hB.mono hb.out.size)
  replace p1 := p1.go hB
  replace hV := hV.go hB
  replace hG := hG.go hB
  replace hY := hY.go hB
  replace p1_0 := p1.c0
  replace p1_1 := p1.c1
  replace p1_2 := p1.c2
  clear hB
  clear nl hY hV hG
  rw [eqB_true rfl]
  go_wp2_with fail
  refine (rv_ok c1 sa1 sc1 sz1 da1 dc1 dz1 _ x1 x2 ((HI.out.1.below hb.out).mono hb.out.size) ((HI.out.2.1.below hb.out).mono hb.out.size) HI.out.2.2 HR x hx F1.out).mono ?_
  rintro e v4 ⟨xa1, xc1, ya1, yc1, rfl, hX1, hY1, hB⟩
  replace hb : Hid (Below w.heap.size w v4) := hb.out.trans (hB.mono hb.out.size)
  replace p1 := p1.go hB
  replace p1_0 := p1.c0
  replace p1_1 := p1.c1
  replace p1_2 := p1.c2
  clear hB
  replace hb : Hid (Below w.heap.size w (v4.alloc (.cells #[.bool c1, .slice xa1 sz1.length xc1, .slice ya1 (rvG x sz1 dz1).length yc1] 24))) := hb.out.alloc hb.out.size _
  replace p1 := p1.al (.cells #[.bool c1, .slice xa1 sz1.length xc1, .slice ya1 (rvG x sz1 dz1).length yc1] 24)
  replace hX1 := hX1.al (.cells #[.bool c1, .slice xa1 sz1.length xc1, .slice ya1 (rvG x sz1 dz1).length yc1] 24)
  replace hY1 := hY1.al (.cells #[.bool c1, .slice xa1 sz1.length xc1, .slice ya1 (rvG x sz1 dz1).length yc1] 24)
  replace p1_0 := p1.c0
  replace p1_1 := p1.c1
  replace p1_2 := p1.c2
  have b1 := Abx.new v4 (.bool c1) (.slice xa1 sz1.length xc1) (.slice ya1 (rvG x sz1 dz1).length yc1)
  have b1_0 := b1.c0
  have b1_1 := b1.c1
  have b1_2 := b1.c2
  go_wp2_with fail
  refine (rt_ok c1 xa1 xc1 sz1 ya1 yc1 (rvG x sz1 dz1) _ (tu_len (rv_flaw F1.out)).1 (tu_len (rv_flaw F1.out)).2 hX1.ints hY1.ints (GA_64 HI.out.2.2) HT n x hn hx (axE_of F1.out (rv_flaw F1.out))).mono ?_
  rintro e v5 ⟨xa2, xc2, ya2, yc2, rfl, hX2, hY2, hB⟩
  replace hb : Hid (Below w.heap.size w v5) := hb.out.trans (hB.mono hb.out.size)
  replace p1 := p1.go hB
  replace hX1 := hX1.go hB
  replace hY1 := hY1.go hB
  replace b1 := b1.go hB
  replace p1_0 := p1.c0
  replace p1_1 := p1.c1
  replace p1_2 := p1.c2
  replace b1_0 := b1.c0
  replace b1_1 := b1.c1
  replace b1_2 := b1.c2
  clear hB
  replace hb : Hid (Below w.heap.size w (v5.alloc (.cells #[.bool c1, .slice xa2 sz1.length xc2, .slice ya2 (rtG n x sz1 (rvG x sz1 dz1)).length yc2] 24))) := hb.out.alloc hb.out.size _
  replace p1 := p1.al (.cells #[.bool c1, .slice xa2 sz1.length xc2, .slice ya2 (rtG n x sz1 (rvG x sz1 dz1)).length yc2] 24)
  replace hX1 := hX1.al (.cells #[.bool c1, .slice xa2 sz1.length xc2, .slice ya2 (rtG n x sz1 (rvG x sz1 dz1)).length yc2] 24)
  replace hY1 := hY1.al (.cells #[.bool c1, .slice xa2 sz1.length xc2, .slice ya2 (rtG n x sz1 (rvG x sz1 dz1)).length yc2] 24)
  replace b1 := b1.al (.cells #[.bool c1, .slice xa2 sz1.length xc2, .slice ya2 (rtG n x sz1 (rvG x sz1 dz1)).length yc2] 24)
  replace hX2 := hX2.al (.cells #[.bool c1, .slice xa2 sz1.length xc2, .slice ya2 (rtG n x sz1 (rvG x sz1 dz1)).length yc2] 24)
  replace hY2 := hY2.al (.cells #[.bool c1, .slice xa2 sz1.length xc2, .slice ya2 (rtG n x sz1 (rvG x sz1 dz1)).length yc2] 24)
  replace p1_0 := p1.c0
  replace p1_1 := p1.c1
  replace p1_2 := p1.c2
  replace b1_0 := b1.c0
  replace b1_1 := b1.c1
  replace b1_2 := b1.c2
  have b2 := Abx.new v5 (.bool c1) (.slice xa2 sz1.length xc2) (.slice ya2 (rtG n x sz1 (rvG x sz1 dz1)).length yc2)
  have b2_0 := b2.c0
  have b2_1 := b2.c1
  have b2_2 := b2.c2
  go_wp2_with fail
  refine (rv_ok c1 xa2 xc2 sz1 ya2 yc2 (rtG n x sz1 (rvG x sz1 dz1)) _ (tu_len (rt_flaw (n := n) (axE_of F1.out (rv_flaw F1.out)))).1 (tu_len (rt_flaw (n := n) (axE_of F1.out (rv_flaw F1.out)))).2 hX2.ints hY2.ints (GA_64 (GA_64 HI.out.2.2)) HR x hx (axE_of F1.out (rt_flaw (n := n) (axE_of F1.out (rv_flaw F1.out))))).mono ?_
  rintro e v6 ⟨xa3, xc3, ya3, yc3, rfl, hX3, hY3, hB⟩
  replace hb : Hid (Below w.heap.size w v6) := hb.out.trans (hB.mono hb.out.size)
  replace p1 := p1.go hB
  replace hX1 := hX1.go hB
  replace hY1 := hY1.go hB
  replace b1 := b1.go hB
  replace hX2 := hX2.go hB
  replace hY2 := hY2.go hB
  replace b2 := b2.go hB
  replace p1_0 := p1.c0
  replace p1_1 := p1.c1
  replace p1_2 := p1.c2
  replace b1_0 := b1.c0
  replace b1_1 := b1.c1
  replace b1_2 := b1.c2
  replace b2_0 := b2.c0
  replace b2_1 := b2.c1
  replace b2_2 := b2.c2
  clear hB
  replace hb : Hid (Below w.heap.size w (v6.alloc (.cells #[.bool c1, .slice xa3 sz1.length xc3, .slice ya3 (rvG x sz1 (rtG n x sz1 (rvG x sz1 dz1))).length yc3] 24))) := hb.out.alloc hb.out.size _
  replace p1 := p1.al (.cells #[.bool c1, .slice xa3 sz1.length xc3, .slice ya3 (rvG x sz1 (rtG n x sz1 (rvG x sz1 dz1))).length yc3] 24)
  replace hX1 := hX1.al (.cells #[.bool c1, .slice xa3 sz1.length xc3, .slice ya3 (rvG x sz1 (rtG n x sz1 (rvG x sz1 dz1))).length yc3] 24)
  replace hY1 := hY1.al (.cells #[.bool c1, .slice xa3 sz1.length xc3, .slice ya3 (rvG x sz1 (rtG n x sz1 (rvG x sz1 dz1))).length yc3] 24)
  replace b1 := b1.al (.cells #[.bool c1, .slice xa3 sz1.length xc3, .slice ya3 (rvG x sz1 (rtG n x sz1 (rvG x sz1 dz1))).length yc3] 24)
  replace hX2 := hX2.al (.cells #[.bool c1, .slice xa3 sz1.length xc3, .slice ya3 (rvG x sz1 (rtG n x sz1 (rvG x sz1 dz1))).length yc3] 24)
  replace hY2 := hY2.al (.cells #[.bool c1, .slice xa3 sz1.length xc3, .slice ya3 (rvG x sz1 (rtG n x sz1 (rvG x sz1 dz1))).length yc3] 24)
  replace b2 := b2.al (.cells #[.bool c1, .slice xa3 sz1.length xc3, .slice ya3 (rvG x sz1 (rtG n x sz1 (rvG x sz1 dz1))).length yc3] 24)
  replace hX3 := hX3.al (.cells #[.bool c1, .slice xa3 sz1.length xc3, .slice ya3 (rvG x sz1 (rtG n x sz1 (rvG x sz1 dz1))).length yc3] 24)
  replace hY3 := hY3.al (.cells #[.bool c1, .slice xa3 sz1.length xc3, .slice ya3 (rvG x sz1 (rtG n x sz1 (rvG x sz1 dz1))).length yc3] 24)
  replace p1_0 := p1.c0
  replace p1_1 := p1.c1
  replace p1_2 := p1.c2
  replace b1_0 := b1.c0
  replace b1_1 := b1.c1
  replace b1_2 := b1.c2
  replace b2_0 := b2.c0
  replace b2_1 := b2.c1
  replace b2_2 := b2.c2
  have b3 := Abx.new v6 (.bool c1) (.slice xa3 sz1.length xc3) (.slice ya3 (rvG x sz1 (rtG n x sz1 (rvG x sz1 dz1))).length yc3)
  have b3_0 := b3.c0
  have b3_1 := b3.c1
  have b3_2 := b3.c2
  go_wp2_with fail
  refine (rt_ok c1 sa1 sc1 sz1 da1 dc1 dz1 _ x1 x2 ((HI.out.1.below hb.out).mono hb.out.size) ((HI.out.2.1.below hb.out).mono hb.out.size) HI.out.2.2 HT (-n) x (by unfold In64; omega) hx F1.out).mono ?_
  rintro e v7 ⟨xa4, xc4, ya4, yc4, rfl, hX4, hY4, hB⟩
  replace hb : Hid (Below w.heap.size w v7) := hb.out.trans (hB.mono hb.out.size)
  replace p1 := p1.go hB
  replace hX1 := hX1.go hB
  replace hY1 := hY1.go hB
  replace b1 := b1.go hB
  replace hX2 := hX2.go hB
  replace hY2 := hY2.go hB
  replace b2 := b2.go hB
  replace hX3 := hX3.go hB
  replace hY3 := hY3.go hB
  replace b3 := b3.go hB
  replace p1_0 := p1.c0
  replace p1_1 := p1.c1
  replace p1_2 := p1.c2
  replace b1_0 := b1.c0
  replace b1_1 := b1.c1
  replace b1_2 := b1.c2
  replace b2_0 := b2.c0
  replace b2_1 := b2.c1
  replace b2_2 := b2.c2
  replace b3_0 := b3.c0
  replace b3_1 := b3.c1
  replace b3_2 := b3.c2
  clear hB
  replace hb : Hid (Below w.heap.size w (v7.alloc (.cells #[.bool c1, .slice xa4 sz1.length xc4, .slice ya4 (rtG (-n) x sz1 dz1).length yc4] 24))) := hb.out.alloc hb.out.size _
  replace p1 := p1.al (.cells #[.bool c1, .slice xa4 sz1.length xc4, .slice ya4 (rtG (-n) x sz1 dz1).length yc4] 24)
  replace hX1 := hX1.al (.cells #[.bool c1, .slice xa4 sz1.length xc4, .slice ya4 (rtG (-n) x sz1 dz1).length yc4] 24)
  replace hY1 := hY1.al (.cells #[.bool c1, .slice xa4 sz1.length xc4, .slice ya4 (rtG (-n) x sz1 dz1).length yc4] 24)
  replace b1 := b1.al (.cells #[.bool c1, .slice xa4 sz1.length xc4, .slice ya4 (rtG (-n) x sz1 dz1).length yc4] 24)
  replace hX2 := hX2.al (.cells #[.bool c1, .slice xa4 sz1.length xc4, .slice ya4 (rtG (-n) x sz1 dz1).length yc4] 24)
  replace hY2 := hY2.al (.cells #[.bool c1, .slice xa4 sz1.length xc4, .slice ya4 (rtG (-n) x sz1 dz1).length yc4] 24)
  replace b2 := b2.al (.cells #[.bool c1, .slice xa4 sz1.length xc4, .slice ya4 (rtG (-n) x sz1 dz1).length yc4] 24)
  replace hX3 := hX3.al (.cells #[.bool c1, .slice xa4 sz1.length xc4, .slice ya4 (rtG (-n) x sz1 dz1).length yc4] 24)
  replace hY3 := hY3.al (.cells #[.bool c1, .slice xa4 sz1.length xc4, .slice ya4 (rtG (-n) x sz1 dz1).length yc4] 24)
  replace b3 := b3.al (.cells #[.bool c1, .slice xa4 sz1.length xc4, .slice ya4 (rtG (-n) x sz1 dz1).length yc4] 24)
  replace hX4 := hX4.al (.cells #[.bool c1, .slice xa4 sz1.length xc4, .slice ya4 (rtG (-n) x sz1 dz1).length yc4] 24)
  replace hY4 := hY4.al (.cells #[.bool c1, .slice xa4 sz1.length xc4, .slice ya4 (rtG (-n) x sz1 dz1).length yc4] 24)
  replace p1_0 := p1.c0
  replace p1_1 := p1.c1
  replace p1_2 := p1.c2
  replace b1_0 := b1.c0
  replace b1_1 := b1.c1
  replace b1_2 := b1.c2
  replace b2_0 := b2.c0
  replace b2_1 := b2.c1
  replace b2_2 := b2.c2
  replace b3_0 := b3.c0
  replace b3_1 := b3.c1
  replace b3_2 := b3.c2
  have b4 := Abx.new v7 (.bool c1) (.slice xa4 sz1.length xc4) (.slice ya4 (rtG (-n) x sz1 dz1).length yc4)
  have b4_0 := b4.c0
  have b4_1 := b4.c1
  have b4_2 := b4.c2
  go_wp2_with fail
  refine (alike_eq c1 xa3 xc3 sz1 ya3 yc3 (rvG x sz1 (rtG n x sz1 (rvG x sz1 dz1))) xa4 xc4 sz1 ya4 yc4 (rtG (-n) x sz1 dz1) rfl (rt_mirror F1.out).symm (tu_len (rv_flaw (axE_of F1.out (rt_flaw (n := n) (axE_of F1.out (rv_flaw F1.out)))))).1 (tu_len (rv_flaw (axE_of F1.out (rt_flaw (n := n) (axE_of F1.out (rv_flaw F1.out)))))).2 _ hX3.ints hY3.ints hX4.ints hY4.ints).mono ?_
  rintro e v8 ⟨rfl, hB⟩
  replace hb : Hid (Below w.heap.size w v8) := hb.out.trans (hB.mono hb.out.size)
  replace p1 := p1.go hB
  replace hX1 := hX1.go hB
  replace hY1 := hY1.go hB
  replace b1 := b1.go hB
  replace hX2 := hX2.go hB
  replace hY2 := hY2.go hB
  replace b2 := b2.go hB
  replace hX3 := hX3.go hB
  replace hY3 := hY3.go hB
  replace b3 := b3.go hB
  replace hX4 := hX4.go hB
  replace hY4 := hY4.go hB
  replace b4 := b4.go hB
  replace p1_0 := p1.c0
  replace p1_1 := p1.c1
  replace p1_2 := p1.c2
  replace b1_0 := b1.c0
  replace b1_1 := b1.c1
  replace b1_2 := b1.c2
  replace b2_0 := b2.c0
  replace b2_1 := b2.c1
  replace b2_2 := b2.c2
  replace b3_0 := b3.c0
  replace b3_1 := b3.c1
  replace b3_2 := b3.c2
  replace b4_0 := b4.c0
  replace b4_1 := b4.c1
  replace b4_2 := b4.c2
  clear hB
  go_wp2_with fail
  go_ret
  exact ⟨rfl, hb.out⟩
theorem tmirrors_walk (HR : CRv) (HT : CRt) (n x : Int) (hn : In64 n) (hx : In64 x) (c1 : Bool) (sa1 : Option Addr) (sc1 : Nat) (sz1 : List Int) (da1 : Option Addr) (dc1 : Nat) (dz1 : List Int) (w : World) (w9 : IsArrC w sa1 sz1 sc1 da1 dz1) :
    Calls Try.prog 5 #[.int .i64 n, .int .i64 x, .agg #[.bool c1, .slice sa1 sz1.length sc1, .slice da1 dz1.length dc1]] w fun e w' => e = .returned (.bool true) ∧ Below w.heap.size w w' := by
  by_cases b1 : 1099511627776 < n
  · exact mirrors_hi HR HT n x hn hx c1 sa1 sc1 sz1 da1 dc1 dz1 w w9 b1
  · by_cases b2 : n < -1099511627776
    · exact mirrors_lo HR HT n x hn hx c1 sa1 sc1 sz1 da1 dc1 dz1 w w9 (by omega) b2
    · by_cases f1 : axE x c1 sz1 dz1 = 0
      · exact mirrors_ok HR HT n x hn hx c1 sa1 sc1 sz1 da1 dc1 dz1 w w9 (by omega) (by omega) f1
      · exact mirrors_no HR HT n x hn hx c1 sa1 sc1 sz1 da1 dc1 dz1 w w9 (by omega) (by omega) f1
end Go.Proofs.Ytaahndglgjhneaa
