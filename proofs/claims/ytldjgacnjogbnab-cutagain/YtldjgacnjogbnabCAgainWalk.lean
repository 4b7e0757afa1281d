/-
  The walk of the statement CutAgain, given what the program tells.
-/
import Derived.Test.YtldjgacnjogbnabCutw
import Derived.Test.YtldjgacnjogbnabCutr
import Derived.Test.YtldjgacnjogbnabBase
namespace Go.Proofs.Ytldjgacnjogbnab
open Go.RowKit
set_option linter.unusedVariables false

theorem lit_all {xs : List Int} (h : xs.all (fun x => decide (-9223372036854775808 ≤ x ∧ x ≤ 9223372036854775807)) = true) : ∀ j, In64 (nth xs j) := fun j => by
  by_cases hj : j < xs.length
  · have : nth xs j ∈ xs := by simp [nth, hj]
    exact of_decide_eq_true (p := -9223372036854775808 ≤ nth xs j ∧ nth xs j ≤ 9223372036854775807) (List.all_eq_true.1 h _ this)
  · have : nth xs j = 0 := by simp [nth, List.getElem?_eq_none (Nat.le_of_not_lt hj)]
    rw [this]; unfold In64; decide
theorem one64 {x : Int} (h : In64 x) : ∀ j, In64 (nth [x] j)
  | 0 => h
  | j + 1 => by show In64 (nth [] j); rw [nth_nil]; unfold In64; decide
theorem tk1_flaw {c : Bool} {d : List Int} (h : flawE c [(d.length : Int)] d = 0) {m : Nat} (hm : m ≤ 4096) : flawE c [(m : Int)] (tk1 c m d) = 0 := by
  have k := tk_one h hm
  have := pt_flaw (u := tkU [(d.length : Int)] [(m : Int)]) h (tkE_zero.1 k.1).2.2.2
  rw [k.2.1] at this
  have e := k.2.2
  unfold tkD at e
  rw [k.2.1] at e
  rwa [e] at this
theorem tk1_64 {c : Bool} {d : List Int} (h : flawE c [(d.length : Int)] d = 0) (T : ∀ j, In64 (nth d j)) {m : Nat} (hm : m ≤ 4096) : ∀ j, In64 (nth (tk1 c m d) j) := by
  have k := tk_one h hm
  rw [← k.2.2]
  exact pt_64 (tkE_zero.1 k.1).2.2.2 T
theorem tk_onen {c : Bool} {d : List Int} {k : Nat} (e : d.length = k) (h : flawE c [(k : Int)] d = 0) {m : Nat} (hm : m ≤ 4096) : tkE [(m : Int)] c [(k : Int)] d = 0 ∧ tkS [(m : Int)] = [(m : Int)] ∧ tkD [(m : Int)] c [(k : Int)] d = tk1 c m d := by
  subst e
  exact tk_one h hm
theorem dr1_flaw {c : Bool} {d : List Int} (h : flawE c [(d.length : Int)] d = 0) (m : Nat) : flawE c [((d.drop m).length : Int)] (d.drop m) = 0 := by
  have k := dr_one h m
  have := pt_flaw (u := drU [(d.length : Int)] [(m : Int)]) h (dr_err k.1)
  rw [k.2.1] at this
  have e := k.2.2
  unfold drD at e
  rw [k.2.1] at e
  rwa [e] at this
theorem dr1_64 {d : List Int} (T : ∀ j, In64 (nth d j)) (m : Nat) : ∀ j, In64 (nth (d.drop m) j) := fun j => by rw [show nth (d.drop m) j = nth d (m + j) by simp [nth, List.getElem?_drop]]; exact T _
set_option maxRecDepth 100000 in
set_option maxHeartbeats 8000000 in
theorem again_no (HT : CTk) (HD : CDr) (m n : Int) (hm : In64 m) (hn : In64 n) (c1 : Bool) (sa1 : Option Addr) (sc1 : Nat) (sz1 : List Int) (da1 : Option Addr) (dc1 : Nat) (dz1 : List Int) (w : World) (w9 : IsArrD w sa1 sz1 sc1 da1 dz1 dc1) (F1 : Hid (flawE c1 sz1 dz1 ≠ 0)) :
    Calls Try.prog 7 #[.int .i64 m, .int .i64 n, .agg #[.bool c1, .slice sa1 sz1.length sc1, .slice da1 dz1.length dc1]] w fun e w' => e = .returned (.bool true) ∧ Below w.heap.size w w' := by
  obtain ⟨x1, x2, x3, x4, s64, T⟩ := w9
  have HI : Hid (IsC w.heap.size w sa1 sz1 sc1 ∧ IsC w.heap.size w da1 dz1 dc1 ∧ ∀ j, In64 (nth dz1 j)) := ⟨x3, x4, T⟩
  clear x3 x4 T s64
  have p1 : Abx (w.alloc (.cells #[.bool c1, .slice sa1 sz1.length sc1, .slice da1 dz1.length dc1] 24)) w.heap.size (.bool c1) (.slice sa1 sz1.length sc1) (.slice da1 dz1.length dc1) := Abx.new w _ _ _
  have hb : Hid (Below w.heap.size w (w.alloc (.cells #[.bool c1, .slice sa1 sz1.length sc1, .slice da1 dz1.length dc1] 24))) := (Below.refl _ w).alloc (Nat.le_refl _) _
  have p1_0 := p1.c0
  have p1_1 := p1.c1
  have p1_2 := p1.c2
  replace hb : Hid (Below w.heap.size w ((w.alloc (.cells #[.bool c1, .slice sa1 sz1.length sc1, .slice da1 dz1.length dc1] 24)).alloc (.cells #[.int .i64 1] 3))) := hb.out.alloc hb.out.size _
  replace p1 := p1.al (.cells #[.int .i64 1] 3)
  replace p1_0 := p1.c0
  replace p1_1 := p1.c1
  replace p1_2 := p1.c2
  have nb := new_lit (w.alloc (.cells #[.bool c1, .slice sa1 sz1.length sc1, .slice da1 dz1.length dc1] 24)) 3 [1]
  simp only [World.size_alloc] at nb
  replace hb : Hid (Below w.heap.size w (((w.alloc (.cells #[.bool c1, .slice sa1 sz1.length sc1, .slice da1 dz1.length dc1] 24)).alloc (.cells #[.int .i64 1] 3)).alloc (.cells #[.int .i64 1, .int .i64 2, .int .i64 3] 3))) := hb.out.alloc hb.out.size _
  replace p1 := p1.al (.cells #[.int .i64 1, .int .i64 2, .int .i64 3] 3)
  replace nb := nb.al (.cells #[.int .i64 1, .int .i64 2, .int .i64 3] 3)
  replace p1_0 := p1.c0
  replace p1_1 := p1.c1
  replace p1_2 := p1.c2
  have nl := new_lit ((w.alloc (.cells #[.bool c1, .slice sa1 sz1.length sc1, .slice da1 dz1.length dc1] 24)).alloc (.cells #[.int .i64 1] 3)) 3 [1, 2, 3]
  simp only [World.size_alloc] at nl
  go_enter Try.func7, Try.ntmps7
  go_wp2_with fail
  refine (vec_c (some ⟨w.heap.size + 1 + 1, 0, none⟩) 3 [1, 2, 3] (by simp) _ nl.ints).mono ?_
  rintro e v1 ⟨va, vc, ga, gc, rfl, hV, hG, hB⟩
  replace hb : Hid (Below w.heap.size w v1) := hb.out.trans (hB.mono hb.out.size)
  replace p1 := p1.go hB
  replace nb := nb.go hB
  replace p1_0 := p1.c0
  replace p1_1 := p1.c1
  replace p1_2 := p1.c2
  clear hB
  clear nl
  go_wp2_with fail
  refine (dr_ok (some ⟨w.heap.size + 1, 0, none⟩) 1 [1] false va vc [3] ga gc [1, 2, 3] _ (by simp) (lit_all (by decide)) ⟨nb.ints, by simp⟩ (by simp) (by simp) hV.ints hG.ints (lit_all (by decide)) [2] [2, 3] HD (by decide)).mono ?_
  rintro e v2 ⟨f1, g1, f2, g2, rfl, _, hY, hB⟩
  replace hb : Hid (Below w.heap.size w v2) := hb.out.trans (hB.mono hb.out.size)
  replace p1 := p1.go hB
  replace nb := nb.go hB
  replace hV := hV.go hB
  replace hG := hG.go hB
  replace p1_0 := p1.c0
  replace p1_1 := p1.c1
  replace p1_2 := p1.c2
  clear hB
  replace hb : Hid (Below w.heap.size w (v2.alloc (.cells #[.bool false, .slice f1 1 g1, .slice f2 2 g2] 24))) := hb.out.alloc hb.out.size _
  replace p1 := p1.al (.cells #[.bool false, .slice f1 1 g1, .slice f2 2 g2] 24)
  replace nb := nb.al (.cells #[.bool false, .slice f1 1 g1, .slice f2 2 g2] 24)
  replace hV := hV.al (.cells #[.bool false, .slice f1 1 g1, .slice f2 2 g2] 24)
  replace hG := hG.al (.cells #[.bool false, .slice f1 1 g1, .slice f2 2 g2] 24)
  replace hY := hY.al (.cells #[.bool false, .slice f1 1 g1, .slice f2 2 g2] 24)
  replace p1_0 := p1.c0
  replace p1_1 := p1.c1
  replace p1_2 := p1.c2
  replace hb : Hid (Below w.heap.size w ((v2.alloc (.cells #[.bool false, .slice f1 1 g1, .slice f2 2 g2] 24)).alloc (.cells #[.int .i64 2, .int .i64 3] 3))) := hb.out.alloc hb.out.size _
  replace p1 := p1.al (.cells #[.int .i64 2, .int .i64 3] 3)
  replace nb := nb.al (.cells #[.int .i64 2, .int .i64 3] 3)
  replace hV := hV.al (.cells #[.int .i64 2, .int .i64 3] 3)
  replace hG := hG.al (.cells #[.int .i64 2, .int .i64 3] 3)
  replace hY := hY.al (.cells #[.int .i64 2, .int .i64 3] 3)
  replace p1_0 := p1.c0
  replace p1_1 := p1.c1
  replace p1_2 := p1.c2
  have nl := new_lit (v2.alloc (.cells #[.bool false, .slice f1 1 g1, .slice f2 2 g2] 24)) 3 [2, 3]
  simp only [World.size_alloc] at nl
  go_wp2_with fail
  refine (ints_any f2 g2 [2, 3] (some ⟨v2.heap.size + 1, 0, none⟩) 2 [2, 3] (by simp) _ _ hY.1.ints nl.ints).mono ?_
  rintro e v3 ⟨rfl, hB⟩
  replace hb : Hid (Below w.heap.size w v3) := hb.out.trans (hB.mono hb.out.size)
  replace p1 := p1.go hB
  replace nb := nb.go hB
  replace hV := hV.go hB
  replace hG := hG.go hB
  replace hY := hY.go hB
  replace p1_0 := p1.c0
  replace p1_1 := p1.c1
  replace p1_2 := p1.c2
  clear hB
  clear nl nb hY hV hG
  rw [eqB_true rfl]
  go_wp2_with fail
  refine (check_no c1 sa1 sc1 sz1 da1 dc1 dz1 x1 x2 _ ((HI.out.1.1.below hb.out).mono hb.out.size) ((HI.out.2.1.1.below hb.out).mono hb.out.size) F1.out).mono ?_
  rintro e v4 ⟨rfl, hB⟩
  replace hb : Hid (Below w.heap.size w v4) := hb.out.trans (hB.mono hb.out.size)
  replace p1 := p1.go hB
  replace p1_0 := p1.c0
  replace p1_1 := p1.c1
  replace p1_2 := p1.c2
  clear hB
  go_wp2_with fail
  go_ret
  exact ⟨rfl, hb.out⟩
set_option maxRecDepth 100000 in
set_option maxHeartbeats 8000000 in
theorem again_rank (HT : CTk) (HD : CDr) (m n : Int) (hm : In64 m) (hn : In64 n) (c1 : Bool) (sa1 : Option Addr) (sc1 : Nat) (sz1 : List Int) (da1 : Option Addr) (dc1 : Nat) (dz1 : List Int) (w : World) (w9 : IsArrD w sa1 sz1 sc1 da1 dz1 dc1) (F1 : Hid (flawE c1 sz1 dz1 = 0)) (B1 : sz1.length ≠ 1) :
    Calls Try.prog 7 #[.int .i64 m, .int .i64 n, .agg #[.bool c1, .slice sa1 sz1.length sc1, .slice da1 dz1.length dc1]] w fun e w' => e = .returned (.bool true) ∧ Below w.heap.size w w' := by
  obtain ⟨x1, x2, x3, x4, s64, T⟩ := w9
  have HI : Hid (IsC w.heap.size w sa1 sz1 sc1 ∧ IsC w.heap.size w da1 dz1 dc1 ∧ ∀ j, In64 (nth dz1 j)) := ⟨x3, x4, T⟩
  clear x3 x4 T s64
  have t1 : ((sz1.length : Int) != 1) = true := by simp; omega
  clear B1
  have p1 : Abx (w.alloc (.cells #[.bool c1, .slice sa1 sz1.length sc1, .slice da1 dz1.length dc1] 24)) w.heap.size (.bool c1) (.slice sa1 sz1.length sc1) (.slice da1 dz1.length dc1) := Abx.new w _ _ _
  have hb : Hid (Below w.heap.size w (w.alloc (.cells #[.bool c1, .slice sa1 sz1.length sc1, .slice da1 dz1.length dc1] 24))) := (Below.refl _ w).alloc (Nat.le_refl _) _
  have p1_0 := p1.c0
  have p1_1 := p1.c1
  have p1_2 := p1.c2
  replace hb : Hid (Below w.heap.size w ((w.alloc (.cells #[.bool c1, .slice sa1 sz1.length sc1, .slice da1 dz1.length dc1] 24)).alloc (.cells #[.int .i64 1] 3))) := hb.out.alloc hb.out.size _
  replace p1 := p1.al (.cells #[.int .i64 1] 3)
  replace p1_0 := p1.c0
  replace p1_1 := p1.c1
  replace p1_2 := p1.c2
  have nb := new_lit (w.alloc (.cells #[.bool c1, .slice sa1 sz1.length sc1, .slice da1 dz1.length dc1] 24)) 3 [1]
  simp only [World.size_alloc] at nb
  replace hb : Hid (Below w.heap.size w (((w.alloc (.cells #[.bool c1, .slice sa1 sz1.length sc1, .slice da1 dz1.length dc1] 24)).alloc (.cells #[.int .i64 1] 3)).alloc (.cells #[.int .i64 1, .int .i64 2, .int .i64 3] 3))) := hb.out.alloc hb.out.size _
  replace p1 := p1.al (.cells #[.int .i64 1, .int .i64 2, .int .i64 3] 3)
  replace nb := nb.al (.cells #[.int .i64 1, .int .i64 2, .int .i64 3] 3)
  replace p1_0 := p1.c0
  replace p1_1 := p1.c1
  replace p1_2 := p1.c2
  have nl := new_lit ((w.alloc (.cells #[.bool c1, .slice sa1 sz1.length sc1, .slice da1 dz1.length dc1] 24)).alloc (.cells #[.int .i64 1] 3)) 3 [1, 2, 3]
  simp only [World.size_alloc] at nl
  go_enter Try.func7, Try.ntmps7
  go_wp2_with fail
  refine (vec_c (some ⟨w.heap.size + 1 + 1, 0, none⟩) 3 [1, 2, 3] (by simp) _ nl.ints).mono ?_
  rintro e v1 ⟨va, vc, ga, gc, rfl, hV, hG, hB⟩
  replace hb : Hid (Below w.heap.size w v1) := hb.out.trans (hB.mono hb.out.size)
  replace p1 := p1.go hB
  replace nb := nb.go hB
  replace p1_0 := p1.c0
  replace p1_1 := p1.c1
  replace p1_2 := p1.c2
  clear hB
  clear nl
  go_wp2_with fail
  refine (dr_ok (some ⟨w.heap.size + 1, 0, none⟩) 1 [1] false va vc [3] ga gc [1, 2, 3] _ (by simp) (lit_all (by decide)) ⟨nb.ints, by simp⟩ (by simp) (by simp) hV.ints hG.ints (lit_all (by decide)) [2] [2, 3] HD (by decide)).mono ?_
  rintro e v2 ⟨f1, g1, f2, g2, rfl, _, hY, hB⟩
  replace hb : Hid (Below w.heap.size w v2) := hb.out.trans (hB.mono hb.out.size)
  replace p1 := p1.go hB
  replace nb := nb.go hB
  replace hV := hV.go hB
  replace hG := hG.go hB
  replace p1_0 := p1.c0
  replace p1_1 := p1.c1
  replace p1_2 := p1.c2
  clear hB
  replace hb : Hid (Below w.heap.size w (v2.alloc (.cells #[.bool false, .slice f1 1 g1, .slice f2 2 g2] 24))) := hb.out.alloc hb.out.size _
  replace p1 := p1.al (.cells #[.bool false, .slice f1 1 g1, .slice f2 2 g2] 24)
  replace nb := nb.al (.cells #[.bool false, .slice f1 1 g1, .slice f2 2 g2] 24)
  replace hV := hV.al (.cells #[.bool false, .slice f1 1 g1, .slice f2 2 g2] 24)
  replace hG := hG.al (.cells #[.bool false, .slice f1 1 g1, .slice f2 2 g2] 24)
  replace hY := hY.al (.cells #[.bool false, .slice f1 1 g1, .slice f2 2 g2] 24)
  replace p1_0 := p1.c0
  replace p1_1 := p1.c1
  replace p1_2 := p1.c2
  replace hb : Hid (Below w.heap.size w ((v2.alloc (.cells #[.bool false, .slice f1 1 g1, .slice f2 2 g2] 24)).alloc (.cells #[.int .i64 2, .int .i64 3] 3))) := hb.out.alloc hb.out.size _
  replace p1 := p1.al (.cells #[.int .i64 2, .int .i64 3] 3)
  replace nb := nb.al (.cells #[.int .i64 2, .int .i64 3] 3)
  replace hV := hV.al (.cells #[.int .i64 2, .int .i64 3] 3)
  replace hG := hG.al (.cells #[.int .i64 2, .int .i64 3] 3)
  replace hY := hY.al (.cells #[.int .i64 2, .int .i64 3] 3)
  replace p1_0 := p1.c0
  replace p1_1 := p1.c1
  replace p1_2 := p1.c2
  have nl := new_lit (v2.alloc (.cells #[.bool false, .slice f1 1 g1, .slice f2 2 g2] 24)) 3 [2, 3]
  simp only [World.size_alloc] at nl
  go_wp2_with fail
  refine (ints_any f2 g2 [2, 3] (some ⟨v2.heap.size + 1, 0, none⟩) 2 [2, 3] (by simp) _ _ hY.1.ints nl.ints).mono ?_
  rintro e v3 ⟨rfl, hB⟩
  replace hb : Hid (Below w.heap.size w v3) := hb.out.trans (hB.mono hb.out.size)
  replace p1 := p1.go hB
  replace nb := nb.go hB
  replace hV := hV.go hB
  replace hG := hG.go hB
  replace hY := hY.go hB
  replace p1_0 := p1.c0
  replace p1_1 := p1.c1
  replace p1_2 := p1.c2
  clear hB
  clear nl nb hY hV hG
  rw [eqB_true rfl]
  go_wp2_with fail
  refine (check_ok c1 sa1 sc1 sz1 da1 dc1 dz1 x1 x2 _ ((HI.out.1.1.below hb.out).mono hb.out.size) ((HI.out.2.1.1.below hb.out).mono hb.out.size) F1.out).mono ?_
  rintro e v4 ⟨rfl, hB⟩
  replace hb : Hid (Below w.heap.size w v4) := hb.out.trans (hB.mono hb.out.size)
  replace p1 := p1.go hB
  replace p1_0 := p1.c0
  replace p1_1 := p1.c1
  replace p1_2 := p1.c2
  clear hB
  go_wp2_with fail
  go_ret
  exact ⟨rfl, hb.out⟩
set_option maxRecDepth 100000 in
set_option maxHeartbeats 8000000 in
theorem again_lo1 (HT : CTk) (HD : CDr) (m n : Int) (hm : In64 m) (hn : In64 n) (c1 : Bool) (sa1 : Option Addr) (sc1 : Nat) (sz1 : List Int) (da1 : Option Addr) (dc1 : Nat) (dz1 : List Int) (w : World) (w9 : IsArrD w sa1 sz1 sc1 da1 dz1 dc1) (F1 : Hid (flawE c1 sz1 dz1 = 0)) (B0 : sz1.length = 1) (B1 : m < 0) :
    Calls Try.prog 7 #[.int .i64 m, .int .i64 n, .agg #[.bool c1, .slice sa1 sz1.length sc1, .slice da1 dz1.length dc1]] w fun e w' => e = .returned (.bool true) ∧ Below w.heap.size w w' := by
  obtain ⟨x1, x2, x3, x4, s64, T⟩ := w9
  have HI : Hid (IsC w.heap.size w sa1 sz1 sc1 ∧ IsC w.heap.size w da1 dz1 dc1 ∧ ∀ j, In64 (nth dz1 j)) := ⟨x3, x4, T⟩
  clear x3 x4 T s64
  have t1 : ((sz1.length : Int) != 1) = false := by simp; omega
  have t2 : decide (m < 0) = true := by simp [B1]
  clear B0 B1
  have p1 : Abx (w.alloc (.cells #[.bool c1, .slice sa1 sz1.length sc1, .slice da1 dz1.length dc1] 24)) w.heap.size (.bool c1) (.slice sa1 sz1.length sc1) (.slice da1 dz1.length dc1) := Abx.new w _ _ _
  have hb : Hid (Below w.heap.size w (w.alloc (.cells #[.bool c1, .slice sa1 sz1.length sc1, .slice da1 dz1.length dc1] 24))) := (Below.refl _ w).alloc (Nat.le_refl _) _
  have p1_0 := p1.c0
  have p1_1 := p1.c1
  have p1_2 := p1.c2
  replace hb : Hid (Below w.heap.size w ((w.alloc (.cells #[.bool c1, .slice sa1 sz1.length sc1, .slice da1 dz1.length dc1] 24)).alloc (.cells #[.int .i64 1] 3))) := hb.out.alloc hb.out.size _
  replace p1 := p1.al (.cells #[.int .i64 1] 3)
  replace p1_0 := p1.c0
  replace p1_1 := p1.c1
  replace p1_2 := p1.c2
  have nb := new_lit (w.alloc (.cells #[.bool c1, .slice sa1 sz1.length sc1, .slice da1 dz1.length dc1] 24)) 3 [1]
  simp only [World.size_alloc] at nb
  replace hb : Hid (Below w.heap.size w (((w.alloc (.cells #[.bool c1, .slice sa1 sz1.length sc1, .slice da1 dz1.length dc1] 24)).alloc (.cells #[.int .i64 1] 3)).alloc (.cells #[.int .i64 1, .int .i64 2, .int .i64 3] 3))) := hb.out.alloc hb.out.size _
  replace p1 := p1.al (.cells #[.int .i64 1, .int .i64 2, .int .i64 3] 3)
  replace nb := nb.al (.cells #[.int .i64 1, .int .i64 2, .int .i64 3] 3)
  replace p1_0 := p1.c0
  replace p1_1 := p1.c1
  replace p1_2 := p1.c2
  have nl := new_lit ((w.alloc (.cells #[.bool c1, .slice sa1 sz1.length sc1, .slice da1 dz1.length dc1] 24)).alloc (.cells #[.int .i64 1] 3)) 3 [1, 2, 3]
  simp only [World.size_alloc] at nl
  go_enter Try.func7, Try.ntmps7
  go_wp2_with fail
  refine (vec_c (some ⟨w.heap.size + 1 + 1, 0, none⟩) 3 [1, 2, 3] (by simp) _ nl.ints).mono ?_
  rintro e v1 ⟨va, vc, ga, gc, rfl, hV, hG, hB⟩
  replace hb : Hid (Below w.heap.size w v1) := hb.out.trans (hB.mono hb.out.size)
  replace p1 := p1.go hB
  replace nb := nb.go hB
  replace p1_0 := p1.c0
  replace p1_1 := p1.c1
  replace p1_2 := p1.c2
  clear hB
  clear nl
  go_wp2_with fail
  refine (dr_ok (some ⟨w.heap.size + 1, 0, none⟩) 1 [1] false va vc [3] ga gc [1, 2, 3] _ (by simp) (lit_all (by decide)) ⟨nb.ints, by simp⟩ (by simp) (by simp) hV.ints hG.ints (lit_all (by decide)) [2] [2, 3] HD (by decide)).mono ?_
  rintro e v2 ⟨f1, g1, f2, g2, rfl, _, hY, hB⟩
  replace hb : Hid (Below w.heap.size w v2) := hb.out.trans (hB.mono hb.out.size)
  replace p1 := p1.go hB
  replace nb := nb.go hB
  replace hV := hV.go hB
  replace hG := hG.go hB
  replace p1_0 := p1.c0
  replace p1_1 := p1.c1
  replace p1_2 := p1.c2
  clear hB
  replace hb : Hid (Below w.heap.size w (v2.alloc (.cells #[.bool false, .slice f1 1 g1, .slice f2 2 g2] 24))) := hb.out.alloc hb.out.size _
  replace p1 := p1.al (.cells #[.bool false, .slice f1 1 g1, .slice f2 2 g2] 24)
  replace nb := nb.al (.cells #[.bool false, .slice f1 1 g1, .slice f2 2 g2] 24)
  replace hV := hV.al (.cells #[.bool false, .slice f1 1 g1, .slice f2 2 g2] 24)
  replace hG := hG.al (.cells #[.bool false, .slice f1 1 g1, .slice f2 2 g2] 24)
  replace hY := hY.al (.cells #[.bool false, .slice f1 1 g1, .slice f2 2 g2] 24)
  replace p1_0 := p1.c0
  replace p1_1 := p1.c1
  replace p1_2 := p1.c2
  replace hb : Hid (Below w.heap.size w ((v2.alloc (.cells #[.bool false, .slice f1 1 g1, .slice f2 2 g2] 24)).alloc (.cells #[.int .i64 2, .int .i64 3] 3))) := hb.out.alloc hb.out.size _
  replace p1 := p1.al (.cells #[.int .i64 2, .int .i64 3] 3)
  replace nb := nb.al (.cells #[.int .i64 2, .int .i64 3] 3)
  replace hV := hV.al (.cells #[.int .i64 2, .int .i64 3] 3)
  replace hG := hG.al (.cells #[.int .i64 2, .int .i64 3] 3)
  replace hY := hY.al (.cells #[.int .i64 2, .int .i64 3] 3)
  replace p1_0 := p1.c0
  replace p1_1 := p1.c1
  replace p1_2 := p1.c2
  have nl := new_lit (v2.alloc (.cells #[.bool false, .slice f1 1 g1, .slice f2 2 g2] 24)) 3 [2, 3]
  simp only [World.size_alloc] at nl
  go_wp2_with fail
  refine (ints_any f2 g2 [2, 3] (some ⟨v2.heap.size + 1, 0, none⟩) 2 [2, 3] (by simp) _ _ hY.1.ints nl.ints).mono ?_
  rintro e v3 ⟨rfl, hB⟩
  replace hb : Hid (Below w.heap.size w v3) := hb.out.trans (hB.mono hb.out.size)
  replace p1 := p1.go hB
  replace nb := nb.go hB
  replace hV := hV.go hB
  replace hG := hG.go hB
  replace hY := hY.go hB
  replace p1_0 := p1.c0
  replace p1_1 := p1.c1
  replace p1_2 := p1.c2
  clear hB
  clear nl nb hY hV hG
  rw [eqB_true rfl]
  go_wp2_with fail
  refine (check_ok c1 sa1 sc1 sz1 da1 dc1 dz1 x1 x2 _ ((HI.out.1.1.below hb.out).mono hb.out.size) ((HI.out.2.1.1.below hb.out).mono hb.out.size) F1.out).mono ?_
  rintro e v4 ⟨rfl, hB⟩
  replace hb : Hid (Below w.heap.size w v4) := hb.out.trans (hB.mono hb.out.size)
  replace p1 := p1.go hB
  replace p1_0 := p1.c0
  replace p1_1 := p1.c1
  replace p1_2 := p1.c2
  clear hB
  go_wp2_with fail
  go_ret
  exact ⟨rfl, hb.out⟩
set_option maxRecDepth 100000 in
set_option maxHeartbeats 8000000 in
theorem again_lo2 (HT : CTk) (HD : CDr) (m n : Int) (hm : In64 m) (hn : In64 n) (c1 : Bool) (sa1 : Option Addr) (sc1 : Nat) (sz1 : List Int) (da1 : Option Addr) (dc1 : Nat) (dz1 : List Int) (w : World) (w9 : IsArrD w sa1 sz1 sc1 da1 dz1 dc1) (F1 : Hid (flawE c1 sz1 dz1 = 0)) (B0 : sz1.length = 1) (B2 : 0 ≤ m) (B1 : n < 0) :
    Calls Try.prog 7 #[.int .i64 m, .int .i64 n, .agg #[.bool c1, .slice sa1 sz1.length sc1, .slice da1 dz1.length dc1]] w fun e w' => e = .returned (.bool true) ∧ Below w.heap.size w w' := by
  obtain ⟨x1, x2, x3, x4, s64, T⟩ := w9
  have HI : Hid (IsC w.heap.size w sa1 sz1 sc1 ∧ IsC w.heap.size w da1 dz1 dc1 ∧ ∀ j, In64 (nth dz1 j)) := ⟨x3, x4, T⟩
  clear x3 x4 T s64
  have t1 : ((sz1.length : Int) != 1) = false := by simp; omega
  have t2 : decide (m < 0) = false := by simp; omega
  have t3 : decide (n < 0) = true := by simp [B1]
  clear B0 B1
  have p1 : Abx (w.alloc (.cells #[.bool c1, .slice sa1 sz1.length sc1, .slice da1 dz1.length dc1] 24)) w.heap.size (.bool c1) (.slice sa1 sz1.length sc1) (.slice da1 dz1.length dc1) := Abx.new w _ _ _
  have hb : Hid (Below w.heap.size w (w.alloc (.cells #[.bool c1, .slice sa1 sz1.length sc1, .slice da1 dz1.length dc1] 24))) := (Below.refl _ w).alloc (Nat.le_refl _) _
  have p1_0 := p1.c0
  have p1_1 := p1.c1
  have p1_2 := p1.c2
  replace hb : Hid (Below w.heap.size w ((w.alloc (.cells #[.bool c1, .slice sa1 sz1.length sc1, .slice da1 dz1.length dc1] 24)).alloc (.cells #[.int .i64 1] 3))) := hb.out.alloc hb.out.size _
  replace p1 := p1.al (.cells #[.int .i64 1] 3)
  replace p1_0 := p1.c0
  replace p1_1 := p1.c1
  replace p1_2 := p1.c2
  have nb := new_lit (w.alloc (.cells #[.bool c1, .slice sa1 sz1.length sc1, .slice da1 dz1.length dc1] 24)) 3 [1]
  simp only [World.size_alloc] at nb
  replace hb : Hid (Below w.heap.size w (((w.alloc (.cells #[.bool c1, .slice sa1 sz1.length sc1, .slice da1 dz1.length dc1] 24)).alloc (.cells #[.int .i64 1] 3)).alloc (.cells #[.int .i64 1, .int .i64 2, .int .i64 3] 3))) := hb.out.alloc hb.out.size _
  replace p1 := p1.al (.cells #[.int .i64 1, .int .i64 2, .int .i64 3] 3)
  replace nb := nb.al (.cells #[.int .i64 1, .int .i64 2, .int .i64 3] 3)
  replace p1_0 := p1.c0
  replace p1_1 := p1.c1
  replace p1_2 := p1.c2
  have nl := new_lit ((w.alloc (.cells #[.bool c1, .slice sa1 sz1.length sc1, .slice da1 dz1.length dc1] 24)).alloc (.cells #[.int .i64 1] 3)) 3 [1, 2, 3]
  simp only [World.size_alloc] at nl
  go_enter Try.func7, Try.ntmps7
  go_wp2_with fail
  refine (vec_c (some ⟨w.heap.size + 1 + 1, 0, none⟩) 3 [1, 2, 3] (by simp) _ nl.ints).mono ?_
  rintro e v1 ⟨va, vc, ga, gc, rfl, hV, hG, hB⟩
  replace hb : Hid (Below w.heap.size w v1) := hb.out.trans (hB.mono hb.out.size)
  replace p1 := p1.go hB
  replace nb := nb.go hB
  replace p1_0 := p1.c0
  replace p1_1 := p1.c1
  replace p1_2 := p1.c2
  clear hB
  clear nl
  go_wp2_with fail
  refine (dr_ok (some ⟨w.heap.size + 1, 0, none⟩) 1 [1] false va vc [3] ga gc [1, 2, 3] _ (by simp) (lit_all (by decide)) ⟨nb.ints, by simp⟩ (by simp) (by simp) hV.ints hG.ints (lit_all (by decide)) [2] [2, 3] HD (by decide)).mono ?_
  rintro e v2 ⟨f1, g1, f2, g2, rfl, _, hY, hB⟩
  replace hb : Hid (Below w.heap.size w v2) := hb.out.trans (hB.mono hb.out.size)
  replace p1 := p1.go hB
  replace nb := nb.go hB
  replace hV := hV.go hB
  replace hG := hG.go hB
  replace p1_0 := p1.c0
  replace p1_1 := p1.c1
  replace p1_2 := p1.c2
  clear hB
  replace hb : Hid (Below w.heap.size w (v2.alloc (.cells #[.bool false, .slice f1 1 g1, .slice f2 2 g2] 24))) := hb.out.alloc hb.out.size _
  replace p1 := p1.al (.cells #[.bool false, .slice f1 1 g1, .slice f2 2 g2] 24)
  replace nb := nb.al (.cells #[.bool false, .slice f1 1 g1, .slice f2 2 g2] 24)
  replace hV := hV.al (.cells #[.bool false, .slice f1 1 g1, .slice f2 2 g2] 24)
  replace hG := hG.al (.cells #[.bool false, .slice f1 1 g1, .slice f2 2 g2] 24)
  replace hY := hY.al (.cells #[.bool false, .slice f1 1 g1, .slice f2 2 g2] 24)
  replace p1_0 := p1.c0
  replace p1_1 := p1.c1
  replace p1_2 := p1.c2
  replace hb : Hid (Below w.heap.size w ((v2.alloc (.cells #[.bool false, .slice f1 1 g1, .slice f2 2 g2] 24)).alloc (.cells #[.int .i64 2, .int .i64 3] 3))) := hb.out.alloc hb.out.size _
  replace p1 := p1.al (.cells #[.int .i64 2, .int .i64 3] 3)
  replace nb := nb.al (.cells #[.int .i64 2, .int .i64 3] 3)
  replace hV := hV.al (.cells #[.int .i64 2, .int .i64 3] 3)
  replace hG := hG.al (.cells #[.int .i64 2, .int .i64 3] 3)
  replace hY := hY.al (.cells #[.int .i64 2, .int .i64 3] 3)
  replace p1_0 := p1.c0
  replace p1_1 := p1.c1
  replace p1_2 := p1.c2
  have nl := new_lit (v2.alloc (.cells #[.bool false, .slice f1 1 g1, .slice f2 2 g2] 24)) 3 [2, 3]
  simp only [World.size_alloc] at nl
  go_wp2_with fail
  refine (ints_any f2 g2 [2, 3] (some ⟨v2.heap.size + 1, 0, none⟩) 2 [2, 3] (by simp) _ _ hY.1.ints nl.ints).mono ?_
  rintro e v3 ⟨rfl, hB⟩
  replace hb : Hid (Below w.heap.size w v3) := hb.out.trans (hB.mono hb.out.size)
  replace p1 := p1.go hB
  replace nb := nb.go hB
  replace hV := hV.go hB
  replace hG := hG.go hB
  replace hY := hY.go hB
  replace p1_0 := p1.c0
  replace p1_1 := p1.c1
  replace p1_2 := p1.c2
  clear hB
  clear nl nb hY hV hG
  rw [eqB_true rfl]
  go_wp2_with fail
  refine (check_ok c1 sa1 sc1 sz1 da1 dc1 dz1 x1 x2 _ ((HI.out.1.1.below hb.out).mono hb.out.size) ((HI.out.2.1.1.below hb.out).mono hb.out.size) F1.out).mono ?_
  rintro e v4 ⟨rfl, hB⟩
  replace hb : Hid (Below w.heap.size w v4) := hb.out.trans (hB.mono hb.out.size)
  replace p1 := p1.go hB
  replace p1_0 := p1.c0
  replace p1_1 := p1.c1
  replace p1_2 := p1.c2
  clear hB
  go_wp2_with fail
  go_ret
  exact ⟨rfl, hb.out⟩
set_option maxRecDepth 100000 in
set_option maxHeartbeats 8000000 in
theorem again_hi1 (HT : CTk) (HD : CDr) (m n : Int) (hm : In64 m) (hn : In64 n) (c1 : Bool) (sa1 : Option Addr) (sc1 : Nat) (sz1 : List Int) (da1 : Option Addr) (dc1 : Nat) (dz1 : List Int) (w : World) (w9 : IsArrD w sa1 sz1 sc1 da1 dz1 dc1) (F1 : Hid (flawE c1 sz1 dz1 = 0)) (B0 : sz1.length = 1) (B2 : 0 ≤ m) (B3 : 0 ≤ n) (B1 : 4096 < m) :
    Calls Try.prog 7 #[.int .i64 m, .int .i64 n, .agg #[.bool c1, .slice sa1 sz1.length sc1, .slice da1 dz1.length dc1]] w fun e w' => e = .returned (.bool true) ∧ Below w.heap.size w w' := by
  obtain ⟨x1, x2, x3, x4, s64, T⟩ := w9
  have HI : Hid (IsC w.heap.size w sa1 sz1 sc1 ∧ IsC w.heap.size w da1 dz1 dc1 ∧ ∀ j, In64 (nth dz1 j)) := ⟨x3, x4, T⟩
  clear x3 x4 T s64
  have t1 : ((sz1.length : Int) != 1) = false := by simp; omega
  clear B0
  have p1 : Abx (w.alloc (.cells #[.bool c1, .slice sa1 sz1.length sc1, .slice da1 dz1.length dc1] 24)) w.heap.size (.bool c1) (.slice sa1 sz1.length sc1) (.slice da1 dz1.length dc1) := Abx.new w _ _ _
  have hb : Hid (Below w.heap.size w (w.alloc (.cells #[.bool c1, .slice sa1 sz1.length sc1, .slice da1 dz1.length dc1] 24))) := (Below.refl _ w).alloc (Nat.le_refl _) _
  have p1_0 := p1.c0
  have p1_1 := p1.c1
  have p1_2 := p1.c2
  replace hb : Hid (Below w.heap.size w ((w.alloc (.cells #[.bool c1, .slice sa1 sz1.length sc1, .slice da1 dz1.length dc1] 24)).alloc (.cells #[.int .i64 1] 3))) := hb.out.alloc hb.out.size _
  replace p1 := p1.al (.cells #[.int .i64 1] 3)
  replace p1_0 := p1.c0
  replace p1_1 := p1.c1
  replace p1_2 := p1.c2
  have nb := new_lit (w.alloc (.cells #[.bool c1, .slice sa1 sz1.length sc1, .slice da1 dz1.length dc1] 24)) 3 [1]
  simp only [World.size_alloc] at nb
  replace hb : Hid (Below w.heap.size w (((w.alloc (.cells #[.bool c1, .slice sa1 sz1.length sc1, .slice da1 dz1.length dc1] 24)).alloc (.cells #[.int .i64 1] 3)).alloc (.cells #[.int .i64 1, .int .i64 2, .int .i64 3] 3))) := hb.out.alloc hb.out.size _
  replace p1 := p1.al (.cells #[.int .i64 1, .int .i64 2, .int .i64 3] 3)
  replace nb := nb.al (.cells #[.int .i64 1, .int .i64 2, .int .i64 3] 3)
  replace p1_0 := p1.c0
  replace p1_1 := p1.c1
  replace p1_2 := p1.c2
  have nl := new_lit ((w.alloc (.cells #[.bool c1, .slice sa1 sz1.length sc1, .slice da1 dz1.length dc1] 24)).alloc (.cells #[.int .i64 1] 3)) 3 [1, 2, 3]
  simp only [World.size_alloc] at nl
  go_enter Try.func7, Try.ntmps7
  go_wp2_with fail
  refine (vec_c (some ⟨w.heap.size + 1 + 1, 0, none⟩) 3 [1, 2, 3] (by simp) _ nl.ints).mono ?_
  rintro e v1 ⟨va, vc, ga, gc, rfl, hV, hG, hB⟩
  replace hb : Hid (Below w.heap.size w v1) := hb.out.trans (hB.mono hb.out.size)
  replace p1 := p1.go hB
  replace nb := nb.go hB
  replace p1_0 := p1.c0
  replace p1_1 := p1.c1
  replace p1_2 := p1.c2
  clear hB
  clear nl
  go_wp2_with fail
  refine (dr_ok (some ⟨w.heap.size + 1, 0, none⟩) 1 [1] false va vc [3] ga gc [1, 2, 3] _ (by simp) (lit_all (by decide)) ⟨nb.ints, by simp⟩ (by simp) (by simp) hV.ints hG.ints (lit_all (by decide)) [2] [2, 3] HD (by decide)).mono ?_
  rintro e v2 ⟨f1, g1, f2, g2, rfl, _, hY, hB⟩
  replace hb : Hid (Below w.heap.size w v2) := hb.out.trans (hB.mono hb.out.size)
  replace p1 := p1.go hB
  replace nb := nb.go hB
  replace hV := hV.go hB
  replace hG := hG.go hB
  replace p1_0 := p1.c0
  replace p1_1 := p1.c1
  replace p1_2 := p1.c2
  clear hB
  replace hb : Hid (Below w.heap.size w (v2.alloc (.cells #[.bool false, .slice f1 1 g1, .slice f2 2 g2] 24))) := hb.out.alloc hb.out.size _
  replace p1 := p1.al (.cells #[.bool false, .slice f1 1 g1, .slice f2 2 g2] 24)
  replace nb := nb.al (.cells #[.bool false, .slice f1 1 g1, .slice f2 2 g2] 24)
  replace hV := hV.al (.cells #[.bool false, .slice f1 1 g1, .slice f2 2 g2] 24)
  replace hG := hG.al (.cells #[.bool false, .slice f1 1 g1, .slice f2 2 g2] 24)
  replace hY := hY.al (.cells #[.bool false, .slice f1 1 g1, .slice f2 2 g2] 24)
  replace p1_0 := p1.c0
  replace p1_1 := p1.c1
  replace p1_2 := p1.c2
  replace hb : Hid (Below w.heap.size w ((v2.alloc (.cells #[.bool false, .slice f1 1 g1, .slice f2 2 g2] 24)).alloc (.cells #[.int .i64 2, .int .i64 3] 3))) := hb.out.alloc hb.out.size _
  replace p1 := p1.al (.cells #[.int .i64 2, .int .i64 3] 3)
  replace nb := nb.al (.cells #[.int .i64 2, .int .i64 3] 3)
  replace hV := hV.al (.cells #[.int .i64 2, .int .i64 3] 3)
  replace hG := hG.al (.cells #[.int .i64 2, .int .i64 3] 3)
  replace hY := hY.al (.cells #[.int .i64 2, .int .i64 3] 3)
  replace p1_0 := p1.c0
  replace p1_1 := p1.c1
  replace p1_2 := p1.c2
  have nl := new_lit (v2.alloc (.cells #[.bool false, .slice f1 1 g1, .slice f2 2 g2] 24)) 3 [2, 3]
  simp only [World.size_alloc] at nl
  go_wp2_with fail
  refine (ints_any f2 g2 [2, 3] (some ⟨v2.heap.size + 1, 0, none⟩) 2 [2, 3] (by simp) _ _ hY.1.ints nl.ints).mono ?_
  rintro e v3 ⟨rfl, hB⟩
  replace hb : Hid (Below w.heap.size w v3) := hb.out.trans (hB.mono hb.out.size)
  replace p1 := p1.go hB
  replace nb := nb.go hB
  replace hV := hV.go hB
  replace hG := hG.go hB
  replace hY := hY.go hB
  replace p1_0 := p1.c0
  replace p1_1 := p1.c1
  replace p1_2 := p1.c2
  clear hB
  clear nl nb hY hV hG
  rw [eqB_true rfl]
  go_wp2_with fail
  refine (check_ok c1 sa1 sc1 sz1 da1 dc1 dz1 x1 x2 _ ((HI.out.1.1.below hb.out).mono hb.out.size) ((HI.out.2.1.1.below hb.out).mono hb.out.size) F1.out).mono ?_
  rintro e v4 ⟨rfl, hB⟩
  replace hb : Hid (Below w.heap.size w v4) := hb.out.trans (hB.mono hb.out.size)
  replace p1 := p1.go hB
  replace p1_0 := p1.c0
  replace p1_1 := p1.c1
  replace p1_2 := p1.c2
  clear hB
  go_wp2_with fail
  go_ret
  exact ⟨rfl, hb.out⟩
set_option maxRecDepth 100000 in
set_option maxHeartbeats 8000000 in
theorem again_hi2 (HT : CTk) (HD : CDr) (m n : Int) (hm : In64 m) (hn : In64 n) (c1 : Bool) (sa1 : Option Addr) (sc1 : Nat) (sz1 : List Int) (da1 : Option Addr) (dc1 : Nat) (dz1 : List Int) (w : World) (w9 : IsArrD w sa1 sz1 sc1 da1 dz1 dc1) (F1 : Hid (flawE c1 sz1 dz1 = 0)) (B0 : sz1.length = 1) (B2 : 0 ≤ m) (B3 : 0 ≤ n) (B4 : m ≤ 4096) (B1 : 4096 < n) :
    Calls Try.prog 7 #[.int .i64 m, .int .i64 n, .agg #[.bool c1, .slice sa1 sz1.length sc1, .slice da1 dz1.length dc1]] w fun e w' => e = .returned (.bool true) ∧ Below w.heap.size w w' := by
  obtain ⟨x1, x2, x3, x4, s64, T⟩ := w9
  have HI : Hid (IsC w.heap.size w sa1 sz1 sc1 ∧ IsC w.heap.size w da1 dz1 dc1 ∧ ∀ j, In64 (nth dz1 j)) := ⟨x3, x4, T⟩
  clear x3 x4 T s64
  have t1 : ((sz1.length : Int) != 1) = false := by simp; omega
  clear B0
  have p1 : Abx (w.alloc (.cells #[.bool c1, .slice sa1 sz1.length sc1, .slice da1 dz1.length dc1] 24)) w.heap.size (.bool c1) (.slice sa1 sz1.length sc1) (.slice da1 dz1.length dc1) := Abx.new w _ _ _
  have hb : Hid (Below w.heap.size w (w.alloc (.cells #[.bool c1, .slice sa1 sz1.length sc1, .slice da1 dz1.length dc1] 24))) := (Below.refl _ w).alloc (Nat.le_refl _) _
  have p1_0 := p1.c0
  have p1_1 := p1.c1
  have p1_2 := p1.c2
  replace hb : Hid (Below w.heap.size w ((w.alloc (.cells #[.bool c1, .slice sa1 sz1.length sc1, .slice da1 dz1.length dc1] 24)).alloc (.cells #[.int .i64 1] 3))) := hb.out.alloc hb.out.size _
  replace p1 := p1.al (.cells #[.int .i64 1] 3)
  replace p1_0 := p1.c0
  replace p1_1 := p1.c1
  replace p1_2 := p1.c2
  have nb := new_lit (w.alloc (.cells #[.bool c1, .slice sa1 sz1.length sc1, .slice da1 dz1.length dc1] 24)) 3 [1]
  simp only [World.size_alloc] at nb
  replace hb : Hid (Below w.heap.size w (((w.alloc (.cells #[.bool c1, .slice sa1 sz1.length sc1, .slice da1 dz1.length dc1] 24)).alloc (.cells #[.int .i64 1] 3)).alloc (.cells #[.int .i64 1, .int .i64 2, .int .i64 3] 3))) := hb.out.alloc hb.out.size _
  replace p1 := p1.al (.cells #[.int .i64 1, .int .i64 2, .int .i64 3] 3)
  replace nb := nb.al (.cells #[.int .i64 1, .int .i64 2, .int .i64 3] 3)
  replace p1_0 := p1.c0
  replace p1_1 := p1.c1
  replace p1_2 := p1.c2
  have nl := new_lit ((w.alloc (.cells #[.bool c1, .slice sa1 sz1.length sc1, .slice da1 dz1.length dc1] 24)).alloc (.cells #[.int .i64 1] 3)) 3 [1, 2, 3]
  simp only [World.size_alloc] at nl
  go_enter Try.func7, Try.ntmps7
  go_wp2_with fail
  refine (vec_c (some ⟨w.heap.size + 1 + 1, 0, none⟩) 3 [1, 2, 3] (by simp) _ nl.ints).mono ?_
  rintro e v1 ⟨va, vc, ga, gc, rfl, hV, hG, hB⟩
  replace hb : Hid (Below w.heap.size w v1) := hb.out.trans (hB.mono hb.out.size)
  replace p1 := p1.go hB
  replace nb := nb.go hB
  replace p1_0 := p1.c0
  replace p1_1 := p1.c1
  replace p1_2 := p1.c2
  clear hB
  clear nl
  go_wp2_with fail
  refine (dr_ok (some ⟨w.heap.size + 1, 0, none⟩) 1 [1] false va vc [3] ga gc [1, 2, 3] _ (by simp) (lit_all (by decide)) ⟨nb.ints, by simp⟩ (by simp) (by simp) hV.ints hG.ints (lit_all (by decide)) [2] [2, 3] HD (by decide)).mono ?_
  rintro e v2 ⟨f1, g1, f2, g2, rfl, _, hY, hB⟩
  replace hb : Hid (Below w.heap.size w v2) := hb.out.trans (hB.mono hb.out.size)
  replace p1 := p1.go hB
  replace nb := nb.go hB
  replace hV := hV.go hB
  replace hG := hG.go hB
  replace p1_0 := p1.c0
  replace p1_1 := p1.c1
  replace p1_2 := p1.c2
  clear hB
  replace hb : Hid (Below w.heap.size w (v2.alloc (.cells #[.bool false, .slice f1 1 g1, .slice f2 2 g2] 24))) := hb.out.alloc hb.out.size _
  replace p1 := p1.al (.cells #[.bool false, .slice f1 1 g1, .slice f2 2 g2] 24)
  replace nb := nb.al (.cells #[.bool false, .slice f1 1 g1, .slice f2 2 g2] 24)
  replace hV := hV.al (.cells #[.bool false, .slice f1 1 g1, .slice f2 2 g2] 24)
  replace hG := hG.al (.cells #[.bool false, .slice f1 1 g1, .slice f2 2 g2] 24)
  replace hY := hY.al (.cells #[.bool false, .slice f1 1 g1, .slice f2 2 g2] 24)
  replace p1_0 := p1.c0
  replace p1_1 := p1.c1
  replace p1_2 := p1.c2
  replace hb : Hid (Below w.heap.size w ((v2.alloc (.cells #[.bool false, .slice f1 1 g1, .slice f2 2 g2] 24)).alloc (.cells #[.int .i64 2, .int .i64 3] 3))) := hb.out.alloc hb.out.size _
  replace p1 := p1.al (.cells #[.int .i64 2, .int .i64 3] 3)
  replace nb := nb.al (.cells #[.int .i64 2, .int .i64 3] 3)
  replace hV := hV.al (.cells #[.int .i64 2, .int .i64 3] 3)
  replace hG := hG.al (.cells #[.int .i64 2, .int .i64 3] 3)
  replace hY := hY.al (.cells #[.int .i64 2, .int .i64 3] 3)
  replace p1_0 := p1.c0
  replace p1_1 := p1.c1
  replace p1_2 := p1.c2
  have nl := new_lit (v2.alloc (.cells #[.bool false, .slice f1 1 g1, .slice f2 2 g2] 24)) 3 [2, 3]
  simp only [World.size_alloc] at nl
  go_wp2_with fail
  refine (ints_any f2 g2 [2, 3] (some ⟨v2.heap.size + 1, 0, none⟩) 2 [2, 3] (by simp) _ _ hY.1.ints nl.ints).mono ?_
  rintro e v3 ⟨rfl, hB⟩
  replace hb : Hid (Below w.heap.size w v3) := hb.out.trans (hB.mono hb.out.size)
  replace p1 := p1.go hB
  replace nb := nb.go hB
  replace hV := hV.go hB
  replace hG := hG.go hB
  replace hY := hY.go hB
  replace p1_0 := p1.c0
  replace p1_1 := p1.c1
  replace p1_2 := p1.c2
  clear hB
  clear nl nb hY hV hG
  rw [eqB_true rfl]
  go_wp2_with fail
  refine (check_ok c1 sa1 sc1 sz1 da1 dc1 dz1 x1 x2 _ ((HI.out.1.1.below hb.out).mono hb.out.size) ((HI.out.2.1.1.below hb.out).mono hb.out.size) F1.out).mono ?_
  rintro e v4 ⟨rfl, hB⟩
  replace hb : Hid (Below w.heap.size w v4) := hb.out.trans (hB.mono hb.out.size)
  replace p1 := p1.go hB
  replace p1_0 := p1.c0
  replace p1_1 := p1.c1
  replace p1_2 := p1.c2
  clear hB
  go_wp2_with fail
  go_ret
  exact ⟨rfl, hb.out⟩
end Go.Proofs.Ytldjgacnjogbnab
