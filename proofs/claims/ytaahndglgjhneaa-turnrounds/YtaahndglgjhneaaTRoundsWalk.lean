/-
  The walk of the statement TurnRounds, given what the program tells.
-/
import Derived.Deep.DeepCutAuto
import Derived.Test.YtaahndglgjhneaaTurnw
namespace Go.Proofs.Ytaahndglgjhneaa
open Go.RowKit
set_option linter.unusedVariables false

theorem lit_all {xs : List Int} (h : xs.all (fun x => decide (-9223372036854775808 ≤ x ∧ x ≤ 9223372036854775807)) = true) : ∀ j, In64 (nth xs j) := fun j => by
  by_cases hj : j < xs.length
  · have : nth xs j ∈ xs := by simp [nth, hj]
    exact of_decide_eq_true (p := -9223372036854775808 ≤ nth xs j ∧ nth xs j ≤ 9223372036854775807) (List.all_eq_true.1 h _ this)
  · have : nth xs j = 0 := by simp [nth, List.getElem?_eq_none (Nat.le_of_not_lt hj)]
    rw [this]; unfold In64; decide
theorem fact_v : rtG 1 0 [3] [1, 2, 3] = [2, 3, 1] := by decide
/-- An array that was told and laid, in whichever order. -/
def Laid (v : World) (c : Bool) (S D : List Int) (s19 s20 : Value) (wc : World) : Prop := ∃ B xa xc ya yc, s19 = .pointer (some ⟨B, 0, none⟩) ∧ s20 = .nilIface ∧ Abx wc B (.bool c) (.slice xa S.length xc) (.slice ya D.length yc) ∧ NewC v.heap.size wc xa S xc ∧ NewInts v.heap.size wc ya D ∧ Below v.heap.size v wc
theorem laid_a {v w2 : World} {c : Bool} {S D : List Int} {xa : Option Addr} {xc : Nat} {ya : Option Addr} {yc : Nat} (hX : NewC v.heap.size w2 xa S xc) (hY : NewInts v.heap.size w2 ya D) (hB : Below v.heap.size v w2) :
    Laid v c S D (.pointer (some ⟨w2.heap.size, 0, none⟩)) .nilIface (w2.alloc (.cells #[.bool c, .slice xa S.length xc, .slice ya D.length yc] 24)) := ⟨_, xa, xc, ya, yc, rfl, rfl, Abx.new w2 _ _ _, hX.al _, hY.al _, hB.alloc hB.size _⟩
theorem laid_b {v w2 : World} {c : Bool} {S D : List Int} {xa : Option Addr} {xc : Nat} {ya : Option Addr} {yc : Nat} (hX : NewC (v.heap.size + 1) w2 xa S xc) (hY : NewInts (v.heap.size + 1) w2 ya D) (hR : Abx w2 v.heap.size (.bool false) (.slice none 0 0) (.slice none 0 0)) (hB : Below v.heap.size v w2) :
    Laid v c S D (.pointer (some ⟨v.heap.size, 0, none⟩)) .nilIface (((w2.setCell ⟨v.heap.size, 0, none⟩ (.bool c)).setCell ⟨v.heap.size, 1, none⟩ (.slice xa S.length xc)).setCell ⟨v.heap.size, 2, none⟩ (.slice ya D.length yc)) :=
  ⟨_, xa, xc, ya, yc, rfl, rfl, hR.set3 _ _ _, (hX.set3 (by omega) _ _ _).low (by omega), (hY.set3 (by omega) _ _ _).low (by omega), bel_set3 hB (Nat.le_refl _) _ _ _⟩
set_option maxRecDepth 100000 in
set_option maxHeartbeats 8000000 in
theorem rounds_hi1 (HT : CRt) (m n x : Int) (hm : In64 m) (hn : In64 n) (hx : In64 x) (c1 : Bool) (sa1 : Option Addr) (sc1 : Nat) (sz1 : List Int) (da1 : Option Addr) (dc1 : Nat) (dz1 : List Int) (w : World) (w9 : IsArrC w sa1 sz1 sc1 da1 dz1) (B1 : 1099511627776 < m) :
    Calls Try.prog 4 #[.int .i64 m, .int .i64 n, .int .i64 x, .agg #[.bool c1, .slice sa1 sz1.length sc1, .slice da1 dz1.length dc1]] w fun e w' => e = .returned (.bool true) ∧ Below w.heap.size w w' := by
  obtain ⟨x1, x2, x3, x4, s64, T⟩ := w9
  have HI : Hid (IsC w.heap.size w sa1 sz1 sc1 ∧ IsInts w.heap.size w da1 dz1 ∧ ∀ j, In64 (nth dz1 j)) := ⟨x3, x4, T⟩
  have HS64 : Hid (∀ j, In64 (nth sz1 j)) := s64
  clear x3 x4 T s64
  have p1 : Abx (w.alloc (.cells #[.bool c1, .slice sa1 sz1.length sc1, .slice da1 dz1.length dc1] 24)) w.heap.size (.bool c1) (.slice sa1 sz1.length sc1) (.slice da1 dz1.length dc1) := Abx.new w _ _ _
  have hb : Hid (Below w.heap.size w (w.alloc (.cells #[.bool c1, .slice sa1 sz1.length sc1, .slice da1 dz1.length dc1] 24))) := (Below.refl _ w).alloc (Nat.le_refl _) _
  have p1_0 := p1.c0
  have p1_1 := p1.c1
  have p1_2 := p1.c2
  replace hb : Hid (Below w.heap.size w ((w.alloc (.cells #[.bool c1, .slice sa1 sz1.length sc1, .slice da1 dz1.length dc1] 24)).alloc (.cells #[.int .i64 1, .int .i64 2, .int .i64 3] 3))) := hb.out.alloc hb.out.size _
  replace p1 := p1.al (.cells #[.int .i64 1, .int .i64 2, .int .i64 3] 3)
  replace p1_0 := p1.c0
  replace p1_1 := p1.c1
  replace p1_2 := p1.c2
  have nl := new_lit (w.alloc (.cells #[.bool c1, .slice sa1 sz1.length sc1, .slice da1 dz1.length dc1] 24)) 3 [1, 2, 3]
  simp only [World.size_alloc] at nl
  go_enter Try.func4, Try.ntmps4
  go_wp2_with fail
  refine (vec_any (some ⟨w.heap.size + 1, 0, none⟩) 3 [1, 2, 3] (by simp) _ nl.ints).mono ?_
  rintro e v1 ⟨va, vc, ga, gc, rfl, hV, hG, hB⟩
  replace hb : Hid (Below w.heap.size w v1) := hb.out.trans (hB.mono hb.out.size)
  replace p1 := p1.go hB
  replace p1_0 := p1.c0
  replace p1_1 := p1.c1
  replace p1_2 := p1.c2
  clear hB
  clear nl
  go_wp2_with fail
  refine (rt_ok false va vc [3] ga gc [1, 2, 3] _ (by simp) (by simp) hV.ints hG.ints (lit_all (by decide)) HT 1 0 (by unfold In64; decide) (by unfold In64; decide) (by decide)).mono ?_
  rintro e v2 ⟨f1, g1, f2, g2, he, _, hY, hB⟩
  replace hb : Hid (Below w.heap.size w v2) := hb.out.trans (hB.mono hb.out.size)
  replace p1 := p1.go hB
  replace hV := hV.go hB
  replace hG := hG.go hB
  replace p1_0 := p1.c0
  replace p1_1 := p1.c1
  replace p1_2 := p1.c2
  clear hB
  rw [fact_v] at he hY
  subst he
  replace hb : Hid (Below w.heap.size w (v2.alloc (.cells #[.bool false, .slice f1 1 g1, .slice f2 3 g2] 24))) := hb.out.alloc hb.out.size _
  replace p1 := p1.al (.cells #[.bool false, .slice f1 1 g1, .slice f2 3 g2] 24)
  replace hV := hV.al (.cells #[.bool false, .slice f1 1 g1, .slice f2 3 g2] 24)
  replace hG := hG.al (.cells #[.bool false, .slice f1 1 g1, .slice f2 3 g2] 24)
  replace hY := hY.al (.cells #[.bool false, .slice f1 1 g1, .slice f2 3 g2] 24)
  replace p1_0 := p1.c0
  replace p1_1 := p1.c1
  replace p1_2 := p1.c2
  replace hb : Hid (Below w.heap.size w ((v2.alloc (.cells #[.bool false, .slice f1 1 g1, .slice f2 3 g2] 24)).alloc (.cells #[.int .i64 2, .int .i64 3, .int .i64 1] 3))) := hb.out.alloc hb.out.size _
  replace p1 := p1.al (.cells #[.int .i64 2, .int .i64 3, .int .i64 1] 3)
  replace hV := hV.al (.cells #[.int .i64 2, .int .i64 3, .int .i64 1] 3)
  replace hG := hG.al (.cells #[.int .i64 2, .int .i64 3, .int .i64 1] 3)
  replace hY := hY.al (.cells #[.int .i64 2, .int .i64 3, .int .i64 1] 3)
  replace p1_0 := p1.c0
  replace p1_1 := p1.c1
  replace p1_2 := p1.c2
  have nl := new_lit (v2.alloc (.cells #[.bool false, .slice f1 1 g1, .slice f2 3 g2] 24)) 3 [2, 3, 1]
  simp only [World.size_alloc] at nl
  go_wp2_with fail
  refine (ints_any f2 g2 [2, 3, 1] (some ⟨v2.heap.size + 1, 0, none⟩) 3 [2, 3, 1] (by simp) _ _ hY.ints nl.ints).mono ?_
  rintro e v3 ⟨rfl, hB⟩
  replace hb : Hid (Below w.heap.size w v3) := hb.out.trans (hB.mono hb.out.size)
  replace p1 := p1.go hB
  replace hV := hV.go hB
  replace hG := hG.go hB
  replace hY := hY.go hB
  replace p1_0 := p1.c0
  replace p1_1 := p1.c1
  replace p1_2 := p1.c2
  clear hB
  clear nl hY hV hG
  rw [eqB_true rfl]
  go_wp2_with fail
  go_ret
  exact ⟨rfl, hb.out⟩
set_option maxRecDepth 100000 in
set_option maxHeartbeats 8000000 in
theorem rounds_lo1 (HT : CRt) (m n x : Int) (hm : In64 m) (hn : In64 n) (hx : In64 x) (c1 : Bool) (sa1 : Option Addr) (sc1 : Nat) (sz1 : List Int) (da1 : Option Addr) (dc1 : Nat) (dz1 : List Int) (w : World) (w9 : IsArrC w sa1 sz1 sc1 da1 dz1) (B0 : m ≤ 1099511627776) (B1 : m < -1099511627776) :
    Calls Try.prog 4 #[.int .i64 m, .int .i64 n, .int .i64 x, .agg #[.bool c1, .slice sa1 sz1.length sc1, .slice da1 dz1.length dc1]] w fun e w' => e = .returned (.bool true) ∧ Below w.heap.size w w' := by
  obtain ⟨x1, x2, x3, x4, s64, T⟩ := w9
  have HI : Hid (IsC w.heap.size w sa1 sz1 sc1 ∧ IsInts w.heap.size w da1 dz1 ∧ ∀ j, In64 (nth dz1 j)) := ⟨x3, x4, T⟩
  have HS64 : Hid (∀ j, In64 (nth sz1 j)) := s64
  clear x3 x4 T s64
  have p1 : Abx (w.alloc (.cells #[.bool c1, .slice sa1 sz1.length sc1, .slice da1 dz1.length dc1] 24)) w.heap.size (.bool c1) (.slice sa1 sz1.length sc1) (.slice da1 dz1.length dc1) := Abx.new w _ _ _
  have hb : Hid (Below w.heap.size w (w.alloc (.cells #[.bool c1, .slice sa1 sz1.length sc1, .slice da1 dz1.length dc1] 24))) := (Below.refl _ w).alloc (Nat.le_refl _) _
  have p1_0 := p1.c0
  have p1_1 := p1.c1
  have p1_2 := p1.c2
  replace hb : Hid (Below w.heap.size w ((w.alloc (.cells #[.bool c1, .slice sa1 sz1.length sc1, .slice da1 dz1.length dc1] 24)).alloc (.cells #[.int .i64 1, .int .i64 2, .int .i64 3] 3))) := hb.out.alloc hb.out.size _
  replace p1 := p1.al (.cells #[.int .i64 1, .int .i64 2, .int .i64 3] 3)
  replace p1_0 := p1.c0
  replace p1_1 := p1.c1
  replace p1_2 := p1.c2
  have nl := new_lit (w.alloc (.cells #[.bool c1, .slice sa1 sz1.length sc1, .slice da1 dz1.length dc1] 24)) 3 [1, 2, 3]
  simp only [World.size_alloc] at nl
  go_enter Try.func4, Try.ntmps4
  go_wp2_with fail
  refine (vec_any (some ⟨w.heap.size + 1, 0, none⟩) 3 [1, 2, 3] (by simp) _ nl.ints).mono ?_
  rintro e v1 ⟨va, vc, ga, gc, rfl, hV, hG, hB⟩
  replace hb : Hid (Below w.heap.size w v1) := hb.out.trans (hB.mono hb.out.size)
  replace p1 := p1.go hB
  replace p1_0 := p1.c0
  replace p1_1 := p1.c1
  replace p1_2 := p1.c2
  clear hB
  clear nl
  go_wp2_with fail
  refine (rt_ok false va vc [3] ga gc [1, 2, 3] _ (by simp) (by simp) hV.ints hG.ints (lit_all (by decide)) HT 1 0 (by unfold In64; decide) (by unfold In64; decide) (by decide)).mono ?_
  rintro e v2 ⟨f1, g1, f2, g2, he, _, hY, hB⟩
  replace hb : Hid (Below w.heap.size w v2) := hb.out.trans (hB.mono hb.out.size)
  replace p1 := p1.go hB
  replace hV := hV.go hB
  replace hG := hG.go hB
  replace p1_0 := p1.c0
  replace p1_1 := p1.c1
  replace p1_2 := p1.c2
  clear hB
  rw [fact_v] at he hY
  subst he
  replace hb : Hid (Below w.heap.size w (v2.alloc (.cells #[.bool false, .slice f1 1 g1, .slice f2 3 g2] 24))) := hb.out.alloc hb.out.size _
  replace p1 := p1.al (.cells #[.bool false, .slice f1 1 g1, .slice f2 3 g2] 24)
  replace hV := hV.al (.cells #[.bool false, .slice f1 1 g1, .slice f2 3 g2] 24)
  replace hG := hG.al (.cells #[.bool false, .slice f1 1 g1, .slice f2 3 g2] 24)
  replace hY := hY.al (.cells #[.bool false, .slice f1 1 g1, .slice f2 3 g2] 24)
  replace p1_0 := p1.c0
  replace p1_1 := p1.c1
  replace p1_2 := p1.c2
  replace hb : Hid (Below w.heap.size w ((v2.alloc (.cells #[.bool false, .slice f1 1 g1, .slice f2 3 g2] 24)).alloc (.cells #[.int .i64 2, .int .i64 3, .int .i64 1] 3))) := hb.out.alloc hb.out.size _
  replace p1 := p1.al (.cells #[.int .i64 2, .int .i64 3, .int .i64 1] 3)
  replace hV := hV.al (.cells #[.int .i64 2, .int .i64 3, .int .i64 1] 3)
  replace hG := hG.al (.cells #[.int .i64 2, .int .i64 3, .int .i64 1] 3)
  replace hY := hY.al (.cells #[.int .i64 2, .int .i64 3, .int .i64 1] 3)
  replace p1_0 := p1.c0
  replace p1_1 := p1.c1
  replace p1_2 := p1.c2
  have nl := new_lit (v2.alloc (.cells #[.bool false, .slice f1 1 g1, .slice f2 3 g2] 24)) 3 [2, 3, 1]
  simp only [World.size_alloc] at nl
  go_wp2_with fail
  refine (ints_any f2 g2 [2, 3, 1] (some ⟨v2.heap.size + 1, 0, none⟩) 3 [2, 3, 1] (by simp) _ _ hY.ints nl.ints).mono ?_
  rintro e v3 ⟨rfl, hB⟩
  replace hb : Hid (Below w.heap.size w v3) := hb.out.trans (hB.mono hb.out.size)
  replace p1 := p1.go hB
  replace hV := hV.go hB
  replace hG := hG.go hB
  replace hY := hY.go hB
  replace p1_0 := p1.c0
  replace p1_1 := p1.c1
  replace p1_2 := p1.c2
  clear hB
  clear nl hY hV hG
  rw [eqB_true rfl]
  go_wp2_with fail
  go_ret
  exact ⟨rfl, hb.out⟩
set_option maxRecDepth 100000 in
set_option maxHeartbeats 8000000 in
theorem rounds_hi2 (HT : CRt) (m n x : Int) (hm : In64 m) (hn : In64 n) (hx : In64 x) (c1 : Bool) (sa1 : Option Addr) (sc1 : Nat) (sz1 : List Int) (da1 : Option Addr) (dc1 : Nat) (dz1 : List Int) (w : World) (w9 : IsArrC w sa1 sz1 sc1 da1 dz1) (B0 : m ≤ 1099511627776) (B2 : -1099511627776 ≤ m) (B1 : 1099511627776 < n) :
    Calls Try.prog 4 #[.int .i64 m, .int .i64 n, .int .i64 x, .agg #[.bool c1, .slice sa1 sz1.length sc1, .slice da1 dz1.length dc1]] w fun e w' => e = .returned (.bool true) ∧ Below w.heap.size w w' := by
  obtain ⟨x1, x2, x3, x4, s64, T⟩ := w9
  have HI : Hid (IsC w.heap.size w sa1 sz1 sc1 ∧ IsInts w.heap.size w da1 dz1 ∧ ∀ j, In64 (nth dz1 j)) := ⟨x3, x4, T⟩
  have HS64 : Hid (∀ j, In64 (nth sz1 j)) := s64
  clear x3 x4 T s64
  have p1 : Abx (w.alloc (.cells #[.bool c1, .slice sa1 sz1.length sc1, .slice da1 dz1.length dc1] 24)) w.heap.size (.bool c1) (.slice sa1 sz1.length sc1) (.slice da1 dz1.length dc1) := Abx.new w _ _ _
  have hb : Hid (Below w.heap.size w (w.alloc (.cells #[.bool c1, .slice sa1 sz1.length sc1, .slice da1 dz1.length dc1] 24))) := (Below.refl _ w).alloc (Nat.le_refl _) _
  have p1_0 := p1.c0
  have p1_1 := p1.c1
  have p1_2 := p1.c2
  replace hb : Hid (Below w.heap.size w ((w.alloc (.cells #[.bool c1, .slice sa1 sz1.length sc1, .slice da1 dz1.length dc1] 24)).alloc (.cells #[.int .i64 1, .int .i64 2, .int .i64 3] 3))) := hb.out.alloc hb.out.size _
  replace p1 := p1.al (.cells #[.int .i64 1, .int .i64 2, .int .i64 3] 3)
  replace p1_0 := p1.c0
  replace p1_1 := p1.c1
  replace p1_2 := p1.c2
  have nl := new_lit (w.alloc (.cells #[.bool c1, .slice sa1 sz1.length sc1, .slice da1 dz1.length dc1] 24)) 3 [1, 2, 3]
  simp only [World.size_alloc] at nl
  go_enter Try.func4, Try.ntmps4
  go_wp2_with fail
  refine (vec_any (some ⟨w.heap.size + 1, 0, none⟩) 3 [1, 2, 3] (by simp) _ nl.ints).mono ?_
  rintro e v1 ⟨va, vc, ga, gc, rfl, hV, hG, hB⟩
  replace hb : Hid (Below w.heap.size w v1) := hb.out.trans (hB.mono hb.out.size)
  replace p1 := p1.go hB
  replace p1_0 := p1.c0
  replace p1_1 := p1.c1
  replace p1_2 := p1.c2
  clear hB
  clear nl
  go_wp2_with fail
  refine (rt_ok false va vc [3] ga gc [1, 2, 3] _ (by simp) (by simp) hV.ints hG.ints (lit_all (by decide)) HT 1 0 (by unfold In64; decide) (by unfold In64; decide) (by decide)).mono ?_
  rintro e v2 ⟨f1, g1, f2, g2, he, _, hY, hB⟩
  replace hb : Hid (Below w.heap.size w v2) := hb.out.trans (hB.mono hb.out.size)
  replace p1 := p1.go hB
  replace hV := hV.go hB
  replace hG := hG.go hB
  replace p1_0 := p1.c0
  replace p1_1 := p1.c1
  replace p1_2 := p1.c2
  clear hB
  rw [fact_v] at he hY
  subst he
  replace hb : Hid (Below w.heap.size w (v2.alloc (.cells #[.bool false, .slice f1 1 g1, .slice f2 3 g2] 24))) := hb.out.alloc hb.out.size _
  replace p1 := p1.al (.cells #[.bool false, .slice f1 1 g1, .slice f2 3 g2] 24)
  replace hV := hV.al (.cells #[.bool false, .slice f1 1 g1, .slice f2 3 g2] 24)
  replace hG := hG.al (.cells #[.bool false, .slice f1 1 g1, .slice f2 3 g2] 24)
  replace hY := hY.al (.cells #[.bool false, .slice f1 1 g1, .slice f2 3 g2] 24)
  replace p1_0 := p1.c0
  replace p1_1 := p1.c1
  replace p1_2 := p1.c2
  replace hb : Hid (Below w.heap.size w ((v2.alloc (.cells #[.bool false, .slice f1 1 g1, .slice f2 3 g2] 24)).alloc (.cells #[.int .i64 2, .int .i64 3, .int .i64 1] 3))) := hb.out.alloc hb.out.size _
  replace p1 := p1.al (.cells #[.int .i64 2, .int .i64 3, .int .i64 1] 3)
  replace hV := hV.al (.cells #[.int .i64 2, .int .i64 3, .int .i64 1] 3)
  replace hG := hG.al (.cells #[.int .i64 2, .int .i64 3, .int .i64 1] 3)
  replace hY := hY.al (.cells #[.int .i64 2, .int .i64 3, .int .i64 1] 3)
  replace p1_0 := p1.c0
  replace p1_1 := p1.c1
  replace p1_2 := p1.c2
  have nl := new_lit (v2.alloc (.cells #[.bool false, .slice f1 1 g1, .slice f2 3 g2] 24)) 3 [2, 3, 1]
  simp only [World.size_alloc] at nl
  go_wp2_with fail
  refine (ints_any f2 g2 [2, 3, 1] (some ⟨v2.heap.size + 1, 0, none⟩) 3 [2, 3, 1] (by simp) _ _ hY.ints nl.ints).mono ?_
  rintro e v3 ⟨rfl, hB⟩
  replace hb : Hid (Below w.heap.size w v3) := hb.out.trans (hB.mono hb.out.size)
  replace p1 := p1.go hB
  replace hV := hV.go hB
  replace hG := hG.go hB
  replace hY := hY.go hB
  replace p1_0 := p1.c0
  replace p1_1 := p1.c1
  replace p1_2 := p1.c2
  clear hB
  clear nl hY hV hG
  rw [eqB_true rfl]
  go_wp2_with fail
  go_ret
  exact ⟨rfl, hb.out⟩
set_option maxRecDepth 100000 in
set_option maxHeartbeats 8000000 in
theorem rounds_lo2 (HT : CRt) (m n x : Int) (hm : In64 m) (hn : In64 n) (hx : In64 x) (c1 : Bool) (sa1 : Option Addr) (sc1 : Nat) (sz1 : List Int) (da1 : Option Addr) (dc1 : Nat) (dz1 : List Int) (w : World) (w9 : IsArrC w sa1 sz1 sc1 da1 dz1) (B0 : m ≤ 1099511627776) (B2 : -1099511627776 ≤ m) (B3 : n ≤ 1099511627776) (B1 : n < -1099511627776) :
    Calls Try.prog 4 #[.int .i64 m, .int .i64 n, .int .i64 x, .agg #[.bool c1, .slice sa1 sz1.length sc1, .slice da1 dz1.length dc1]] w fun e w' => e = .returned (.bool true) ∧ Below w.heap.size w w' := by
  obtain ⟨x1, x2, x3, x4, s64, T⟩ := w9
  have HI : Hid (IsC w.heap.size w sa1 sz1 sc1 ∧ IsInts w.heap.size w da1 dz1 ∧ ∀ j, In64 (nth dz1 j)) := ⟨x3, x4, T⟩
  have HS64 : Hid (∀ j, In64 (nth sz1 j)) := s64
  clear x3 x4 T s64
  have p1 : Abx (w.alloc (.cells #[.bool c1, .slice sa1 sz1.length sc1, .slice da1 dz1.length dc1] 24)) w.heap.size (.bool c1) (.slice sa1 sz1.length sc1) (.slice da1 dz1.length dc1) := Abx.new w _ _ _
  have hb : Hid (Below w.heap.size w (w.alloc (.cells #[.bool c1, .slice sa1 sz1.length sc1, .slice da1 dz1.length dc1] 24))) := (Below.refl _ w).alloc (Nat.le_refl _) _
  have p1_0 := p1.c0
  have p1_1 := p1.c1
  have p1_2 := p1.c2
  replace hb : Hid (Below w.heap.size w ((w.alloc (.cells #[.bool c1, .slice sa1 sz1.length sc1, .slice da1 dz1.length dc1] 24)).alloc (.cells #[.int .i64 1, .int .i64 2, .int .i64 3] 3))) := hb.out.alloc hb.out.size _
  replace p1 := p1.al (.cells #[.int .i64 1, .int .i64 2, .int .i64 3] 3)
  replace p1_0 := p1.c0
  replace p1_1 := p1.c1
  replace p1_2 := p1.c2
  have nl := new_lit (w.alloc (.cells #[.bool c1, .slice sa1 sz1.length sc1, .slice da1 dz1.length dc1] 24)) 3 [1, 2, 3]
  simp only [World.size_alloc] at nl
  go_enter Try.func4, Try.ntmps4
  go_wp2_with fail
  refine (vec_any (some ⟨w.heap.size + 1, 0, none⟩) 3 [1, 2, 3] (by simp) _ nl.ints).mono ?_
  rintro e v1 ⟨va, vc, ga, gc, rfl, hV, hG, hB⟩
  replace hb : Hid (Below w.heap.size w v1) := hb.out.trans (hB.mono hb.out.size)
  replace p1 := p1.go hB
  replace p1_0 := p1.c0
  replace p1_1 := p1.c1
  replace p1_2 := p1.c2
  clear hB
  clear nl
  go_wp2_with fail
  refine (rt_ok false va vc [3] ga gc [1, 2, 3] _ (by simp) (by simp) hV.ints hG.ints (lit_all (by decide)) HT 1 0 (by unfold In64; decide) (by unfold In64; decide) (by decide)).mono ?_
  rintro e v2 ⟨f1, g1, f2, g2, he, _, hY, hB⟩
  replace hb : Hid (Below w.heap.size w v2) := hb.out.trans (hB.mono hb.out.size)
  replace p1 := p1.go hB
  replace hV := hV.go hB
  replace hG := hG.go hB
  replace p1_0 := p1.c0
  replace p1_1 := p1.c1
  replace p1_2 := p1.c2
  clear hB
  rw [fact_v] at he hY
  subst he
  replace hb : Hid (Below w.heap.size w (v2.alloc (.cells #[.bool false, .slice f1 1 g1, .slice f2 3 g2] 24))) := hb.out.alloc hb.out.size _
  replace p1 := p1.al (.cells #[.bool false, .slice f1 1 g1, .slice f2 3 g2] 24)
  replace hV := hV.al (.cells #[.bool false, .slice f1 1 g1, .slice f2 3 g2] 24)
  replace hG := hG.al (.cells #[.bool false, .slice f1 1 g1, .slice f2 3 g2] 24)
  replace hY := hY.al (.cells #[.bool false, .slice f1 1 g1, .slice f2 3 g2] 24)
  replace p1_0 := p1.c0
  replace p1_1 := p1.c1
  replace p1_2 := p1.c2
  replace hb : Hid (Below w.heap.size w ((v2.alloc (.cells #[.bool false, .slice f1 1 g1, .slice f2 3 g2] 24)).alloc (.cells #[.int .i64 2, .int .i64 3, .int .i64 1] 3))) := hb.out.alloc hb.out.size _
  replace p1 := p1.al (.cells #[.int .i64 2, .int .i64 3, .int .i64 1] 3)
  replace hV := hV.al (.cells #[.int .i64 2, .int .i64 3, .int .i64 1] 3)
  replace hG := hG.al (.cells #[.int .i64 2, .int .i64 3, .int .i64 1] 3)
  replace hY := hY.al (.cells #[.int .i64 2, .int .i64 3, .int .i64 1] 3)
  replace p1_0 := p1.c0
  replace p1_1 := p1.c1
  replace p1_2 := p1.c2
  have nl := new_lit (v2.alloc (.cells #[.bool false, .slice f1 1 g1, .slice f2 3 g2] 24)) 3 [2, 3, 1]
  simp only [World.size_alloc] at nl
  go_wp2_with fail
  refine (ints_any f2 g2 [2, 3, 1] (some ⟨v2.heap.size + 1, 0, none⟩) 3 [2, 3, 1] (by simp) _ _ hY.ints nl.ints).mono ?_
  rintro e v3 ⟨rfl, hB⟩
  replace hb : Hid (Below w.heap.size w v3) := hb.out.trans (hB.mono hb.out.size)
  replace p1 := p1.go hB
  replace hV := hV.go hB
  replace hG := hG.go hB
  replace hY := hY.go hB
  replace p1_0 := p1.c0
  replace p1_1 := p1.c1
  replace p1_2 := p1.c2
  clear hB
  clear nl hY hV hG
  rw [eqB_true rfl]
  go_wp2_with fail
  go_ret
  exact ⟨rfl, hb.out⟩
set_option maxRecDepth 100000 in
set_option maxHeartbeats 8000000 in
theorem rounds_no (HT : CRt) (m n x : Int) (hm : In64 m) (hn : In64 n) (hx : In64 x) (c1 : Bool) (sa1 : Option Addr) (sc1 : Nat) (sz1 : List Int) (da1 : Option Addr) (dc1 : Nat) (dz1 : List Int) (w : World) (w9 : IsArrC w sa1 sz1 sc1 da1 dz1) (B0 : m ≤ 1099511627776) (B2 : -1099511627776 ≤ m) (B3 : n ≤ 1099511627776) (B1 : -1099511627776 ≤ n) (F1 : Hid (axE x c1 sz1 dz1 ≠ 0)) :
    Calls Try.prog 4 #[.int .i64 m, .int .i64 n, .int .i64 x, .agg #[.bool c1, .slice sa1 sz1.length sc1, .slice da1 dz1.length dc1]] w fun e w' => e = .returned (.bool true) ∧ Below w.heap.size w w' := by
  obtain ⟨x1, x2, x3, x4, s64, T⟩ := w9
  have HI : Hid (IsC w.heap.size w sa1 sz1 sc1 ∧ IsInts w.heap.size w da1 dz1 ∧ ∀ j, In64 (nth dz1 j)) := ⟨x3, x4, T⟩
  have HS64 : Hid (∀ j, In64 (nth sz1 j)) := s64
  clear x3 x4 T s64
  have p1 : Abx (w.alloc (.cells #[.bool c1, .slice sa1 sz1.length sc1, .slice da1 dz1.length dc1] 24)) w.heap.size (.bool c1) (.slice sa1 sz1.length sc1) (.slice da1 dz1.length dc1) := Abx.new w _ _ _
  have hb : Hid (Below w.heap.size w (w.alloc (.cells #[.bool c1, .slice sa1 sz1.length sc1, .slice da1 dz1.length dc1] 24))) := (Below.refl _ w).alloc (Nat.le_refl _) _
  have p1_0 := p1.c0
  have p1_1 := p1.c1
  have p1_2 := p1.c2
  replace hb : Hid (Below w.heap.size w ((w.alloc (.cells #[.bool c1, .slice sa1 sz1.length sc1, .slice da1 dz1.length dc1] 24)).alloc (.cells #[.int .i64 1, .int .i64 2, .int .i64 3] 3))) := hb.out.alloc hb.out.size _
  replace p1 := p1.al (.cells #[.int .i64 1, .int .i64 2, .int .i64 3] 3)
  replace p1_0 := p1.c0
  replace p1_1 := p1.c1
  replace p1_2 := p1.c2
  have nl := new_lit (w.alloc (.cells #[.bool c1, .slice sa1 sz1.length sc1, .slice da1 dz1.length dc1] 24)) 3 [1, 2, 3]
  simp only [World.size_alloc] at nl
  go_enter Try.func4, Try.ntmps4
  go_wp2_with fail
  refine (vec_any (some ⟨w.heap.size + 1, 0, none⟩) 3 [1, 2, 3] (by simp) _ nl.ints).mono ?_
  rintro e v1 ⟨va, vc, ga, gc, rfl, hV, hG, hB⟩
  replace hb : Hid (Below w.heap.size w v1) := hb.out.trans (hB.mono hb.out.size)
  replace p1 := p1.go hB
  replace p1_0 := p1.c0
  replace p1_1 := p1.c1
  replace p1_2 := p1.c2
  clear hB
  clear nl
  go_wp2_with fail
  refine (rt_ok false va vc [3] ga gc [1, 2, 3] _ (by simp) (by simp) hV.ints hG.ints (lit_all (by decide)) HT 1 0 (by unfold In64; decide) (by unfold In64; decide) (by decide)).mono ?_
  rintro e v2 ⟨f1, g1, f2, g2, he, _, hY, hB⟩
  replace hb : Hid (Below w.heap.size w v2) := hb.out.trans (hB.mono hb.out.size)
  replace p1 := p1.go hB
  replace hV := hV.go hB
  replace hG := hG.go hB
  replace p1_0 := p1.c0
  replace p1_1 := p1.c1
  replace p1_2 := p1.c2
  clear hB
  rw [fact_v] at he hY
  subst he
  replace hb : Hid (Below w.heap.size w (v2.alloc (.cells #[.bool false, .slice f1 1 g1, .slice f2 3 g2] 24))) := hb.out.alloc hb.out.size _
  replace p1 := p1.al (.cells #[.bool false, .slice f1 1 g1, .slice f2 3 g2] 24)
  replace hV := hV.al (.cells #[.bool false, .slice f1 1 g1, .slice f2 3 g2] 24)
  replace hG := hG.al (.cells #[.bool false, .slice f1 1 g1, .slice f2 3 g2] 24)
  replace hY := hY.al (.cells #[.bool false, .slice f1 1 g1, .slice f2 3 g2] 24)
  replace p1_0 := p1.c0
  replace p1_1 := p1.c1
  replace p1_2 := p1.c2
  replace hb : Hid (Below w.heap.size w ((v2.alloc (.cells #[.bool false, .slice f1 1 g1, .slice f2 3 g2] 24)).alloc (.cells #[.int .i64 2, .int .i64 3, .int .i64 1] 3))) := hb.out.alloc hb.out.size _
  replace p1 := p1.al (.cells #[.int .i64 2, .int .i64 3, .int .i64 1] 3)
  replace hV := hV.al (.cells #[.int .i64 2, .int .i64 3, .int .i64 1] 3)
  replace hG := hG.al (.cells #[.int .i64 2, .int .i64 3, .int .i64 1] 3)
  replace hY := hY.al (.cells #[.int .i64 2, .int .i64 3, .int .i64 1] 3)
  replace p1_0 := p1.c0
  replace p1_1 := p1.c1
  replace p1_2 := p1.c2
  have nl := new_lit (v2.alloc (.cells #[.bool false, .slice f1 1 g1, .slice f2 3 g2] 24)) 3 [2, 3, 1]
  simp only [World.size_alloc] at nl
  go_wp2_with fail
  refine (ints_any f2 g2 [2, 3, 1] (some ⟨v2.heap.size + 1, 0, none⟩) 3 [2, 3, 1] (by simp) _ _ hY.ints nl.ints).mono ?_
  rintro e v3 ⟨rfl, hB⟩
  replace hb : Hid (Below w.heap.size w v3) := hb.out.trans (hB.mono hb.out.size)
  replace p1 := p1.go hB
  replace hV := hV.go hB
  replace hG := hG.go hB
  replace hY := hY.go hB
  replace p1_0 := p1.c0
  replace p1_1 := p1.c1
  replace p1_2 := p1.c2
  clear hB
  clear nl hY hV hG
  rw [eqB_true rfl]
  go_wp2_with fail
  refine (rt_no c1 sa1 sc1 sz1 da1 dc1 dz1 _ x1 x2 ((HI.out.1.below hb.out).mono hb.out.size) ((HI.out.2.1.below hb.out).mono hb.out.size) HI.out.2.2 HT m x hm hx F1.out).mono ?_
  rintro e v4 ⟨xa1, xc1, ya1, yc1, rfl, hB⟩
  replace hb : Hid (Below w.heap.size w v4) := hb.out.trans (hB.mono hb.out.size)
  replace p1 := p1.go hB
  replace p1_0 := p1.c0
  replace p1_1 := p1.c1
  replace p1_2 := p1.c2
  clear hB
  replace hb : Hid (Below w.heap.size w (v4.alloc (.cells #[.bool false, .slice xa1 0 xc1, .slice ya1 0 yc1] 24))) := hb.out.alloc hb.out.size _
  replace p1 := p1.al (.cells #[.bool false, .slice xa1 0 xc1, .slice ya1 0 yc1] 24)
  replace p1_0 := p1.c0
  replace p1_1 := p1.c1
  replace p1_2 := p1.c2
  go_wp2_with fail
  go_ret
  exact ⟨rfl, hb.out⟩
set_option maxRecDepth 100000 in
set_option maxHeartbeats 8000000 in
theorem rounds_ok (HT : CRt) (m n x : Int) (hm : In64 m) (hn : In64 n) (hx : In64 x) (c1 : Bool) (sa1 : Option Addr) (sc1 : Nat) (sz1 : List Int) (da1 : Option Addr) (dc1 : Nat) (dz1 : List Int) (w : World) (w9 : IsArrC w sa1 sz1 sc1 da1 dz1) (B0 : m ≤ 1099511627776) (B2 : -1099511627776 ≤ m) (B3 : n ≤ 1099511627776) (B1 : -1099511627776 ≤ n) (F1 : Hid (axE x c1 sz1 dz1 = 0)) :
    Calls Try.prog 4 #[.int .i64 m, .int .i64 n, .int .i64 x, .agg #[.bool c1, .slice sa1 sz1.length sc1, .slice da1 dz1.length dc1]] w fun e w' => e = .returned (.bool true) ∧ Below w.heap.size w w' := by
  obtain ⟨x1, x2, x3, x4, s64, T⟩ := w9
  have HI : Hid (IsC w.heap.size w sa1 sz1 sc1 ∧ IsInts w.heap.size w da1 dz1 ∧ ∀ j, In64 (nth dz1 j)) := ⟨x3, x4, T⟩
  have HS64 : Hid (∀ j, In64 (nth sz1 j)) := s64
  clear x3 x4 T s64
  have p1 : Abx (w.alloc (.cells #[.bool c1, .slice sa1 sz1.length sc1, .slice da1 dz1.length dc1] 24)) w.heap.size (.bool c1) (.slice sa1 sz1.length sc1) (.slice da1 dz1.length dc1) := Abx.new w _ _ _
  have hb : Hid (Below w.heap.size w (w.alloc (.cells #[.bool c1, .slice sa1 sz1.length sc1, .slice da1 dz1.length dc1] 24))) := (Below.refl _ w).alloc (Nat.le_refl _) _
  have p1_0 := p1.c0
  have p1_1 := p1.c1
  have p1_2 := p1.c2
  replace hb : Hid (Below w.heap.size w ((w.alloc (.cells #[.bool c1, .slice sa1 sz1.length sc1, .slice da1 dz1.length dc1] 24)).alloc (.cells #[.int .i64 1, .int .i64 2, .int .i64 3] 3))) := hb.out.alloc hb.out.size _
  replace p1 := p1.al (.cells #[.int .i64 1, .int .i64 2, .int .i64 3] 3)
  replace p1_0 := p1.c0
  replace p1_1 := p1.c1
  replace p1_2 := p1.c2
  have nl := new_lit (w.alloc (.cells #[.bool c1, .slice sa1 sz1.length sc1, .slice da1 dz1.length dc1] 24)) 3 [1, 2, 3]
  simp only [World.size_alloc] at nl
  go_enter Try.func4, Try.ntmps4
  go_wp2_with fail
  refine (vec_any (some ⟨w.heap.size + 1, 0, none⟩) 3 [1, 2, 3] (by simp) _ nl.ints).mono ?_
  rintro e v1 ⟨va, vc, ga, gc, rfl, hV, hG, hB⟩
  replace hb : Hid (Below w.heap.size w v1) := hb.out.trans (hB.mono hb.out.size)
  replace p1 := p1.go hB
  replace p1_0 := p1.c0
  replace p1_1 := p1.c1
  replace p1_2 := p1.c2
  clear hB
  clear nl
  go_wp2_with fail
  refine (rt_ok false va vc [3] ga gc [1, 2, 3] _ (by simp) (by simp) hV.ints hG.ints (lit_all (by decide)) HT 1 0 (by unfold In64; decide) (by unfold In64; decide) (by decide)).mono ?_
  rintro e v2 ⟨f1, g1, f2, g2, he, _, hY, hB⟩
  replace hb : Hid (Below w.heap.size w v2) := hb.out.trans (hB.mono hb.out.size)
  replace p1 := p1.go hB
  replace hV := hV.go hB
  replace hG := hG.go hB
  replace p1_0 := p1.c0
  replace p1_1 := p1.c1
  replace p1_2 := p1.c2
  clear hB
  rw [fact_v] at he hY
  subst he
  replace hb : Hid (Below w.heap.size w (v2.alloc (.cells #[.bool false, .slice f1 1 g1, .slice f2 3 g2] 24))) := hb.out.alloc hb.out.size _
  replace p1 := p1.al (.cells #[.bool false, .slice f1 1 g1, .slice f2 3 g2] 24)
  replace hV := hV.al (.cells #[.bool false, .slice f1 1 g1, .slice f2 3 g2] 24)
  replace hG := hG.al (.cells #[.bool false, .slice f1 1 g1, .slice f2 3 g2] 24)
  replace hY := hY.al (.cells #[.bool false, .slice f1 1 g1, .slice f2 3 g2] 24)
  replace p1_0 := p1.c0
  replace p1_1 := p1.c1
  replace p1_2 := p1.c2
  replace hb : Hid (Below w.heap.size w ((v2.alloc (.cells #[.bool false, .slice f1 1 g1, .slice f2 3 g2] 24)).alloc (.cells #[.int .i64 2, .int .i64 3, .int .i64 1] 3))) := hb.out.alloc hb.out.size _
  replace p1 := p1.al (.cells #[.int .i64 2, .int .i64 3, .int .i64 1] 3)
  replace hV := hV.al (.cells #[.int .i64 2, .int .i64 3, .int .i64 1] 3)
  replace hG := hG.al (.cells #[.int .i64 2, .int .i64 3, .int .i64 1] 3)
  replace hY := hY.al (.cells #[.int .i64 2, .int .i64 3, .int .i64 1] 3)
  replace p1_0 := p1.c0
  replace p1_1 := p1.c1
  replace p1_2 := p1.c2
  have nl := new_lit (v2.alloc (.cells #[.bool false, .slice f1 1 g1, .slice f2 3 g2] 24)) 3 [2, 3, 1]
  simp only [World.size_alloc] at nl
  go_wp2_with fail
  refine (ints_any f2 g2 [2, 3, 1] (some ⟨v2.heap.size + 1, 0, none⟩) 3 [2, 3, 1] (by simp) _ _ hY.ints nl.ints).mono ?_
  rintro e v3 ⟨rfl, hB⟩
  replace hb : Hid (Below w.heap.size w v3) := hb.out.trans (hB.mono hb.out.size)
  replace p1 := p1.go hB
  replace hV := hV.go hB
  replace hG := hG.go hB
  replace hY := hY.go hB
  replace p1_0 := p1.c0
  replace p1_1 := p1.c1
  replace p1_2 := p1.c2
  clear hB
  clear nl hY hV hG
  rw [eqB_true rfl]
  go_wp2_with fail
  refine (rt_ok c1 sa1 sc1 sz1 da1 dc1 dz1 _ x1 x2 ((HI.out.1.below hb.out).mono hb.out.size) ((HI.out.2.1.below hb.out).mono hb.out.size) HI.out.2.2 HT m x hm hx F1.out).mono ?_
  rintro e v4 ⟨xa1, xc1, ya1, yc1, rfl, hX1, hY1, hB⟩
  replace hb : Hid (Below w.heap.size w v4) := hb.out.trans (hB.mono hb.out.size)
  replace p1 := p1.go hB
  replace p1_0 := p1.c0
  replace p1_1 := p1.c1
  replace p1_2 := p1.c2
  clear hB
  replace hb : Hid (Below w.heap.size w (v4.alloc (.cells #[.bool c1, .slice xa1 sz1.length xc1, .slice ya1 (rtG m x sz1 dz1).length yc1] 24))) := hb.out.alloc hb.out.size _
  replace p1 := p1.al (.cells #[.bool c1, .slice xa1 sz1.length xc1, .slice ya1 (rtG m x sz1 dz1).length yc1] 24)
  replace hX1 := hX1.al (.cells #[.bool c1, .slice xa1 sz1.length xc1, .slice ya1 (rtG m x sz1 dz1).length yc1] 24)
  replace hY1 := hY1.al (.cells #[.bool c1, .slice xa1 sz1.length xc1, .slice ya1 (rtG m x sz1 dz1).length yc1] 24)
  replace p1_0 := p1.c0
  replace p1_1 := p1.c1
  replace p1_2 := p1.c2
  have b1 := Abx.new v4 (.bool c1) (.slice xa1 sz1.length xc1) (.slice ya1 (rtG m x sz1 dz1).length yc1)
  have b1_0 := b1.c0
  have b1_1 := b1.c1
  have b1_2 := b1.c2
  go_wp2_with fail
  refine (rt_ok c1 xa1 xc1 sz1 ya1 yc1 (rtG m x sz1 dz1) _ (tu_len (rt_flaw (n := m) F1.out)).1 (tu_len (rt_flaw (n := m) F1.out)).2 hX1.ints hY1.ints (GA_64 HI.out.2.2) HT n x hn hx (axE_of F1.out (rt_flaw (n := m) F1.out))).mono ?_
  rintro e v5 ⟨xa2, xc2, ya2, yc2, rfl, hX2, hY2, hB⟩
  replace hb : Hid (Below w.heap.size w v5) := hb.out.trans (hB.mono hb.out.size)
  replace p1 := p1.go hB
  replace hX1 := hX1.go hB
  replace hY1 := hY1.go hB
  replace b1 := b1.go hB
  replace p1_0 := p1.c0
  replace p1_1 := p1.c1
  replace p1_2 := p1.c2
  replace b1_0 := b1.c0
  replace b1_1 := b1.c1
  replace b1_2 := b1.c2
  clear hB
  replace hb : Hid (Below w.heap.size w (v5.alloc (.cells #[.bool c1, .slice xa2 sz1.length xc2, .slice ya2 (rtG n x sz1 (rtG m x sz1 dz1)).length yc2] 24))) := hb.out.alloc hb.out.size _
  replace p1 := p1.al (.cells #[.bool c1, .slice xa2 sz1.length xc2, .slice ya2 (rtG n x sz1 (rtG m x sz1 dz1)).length yc2] 24)
  replace hX1 := hX1.al (.cells #[.bool c1, .slice xa2 sz1.length xc2, .slice ya2 (rtG n x sz1 (rtG m x sz1 dz1)).length yc2] 24)
  replace hY1 := hY1.al (.cells #[.bool c1, .slice xa2 sz1.length xc2, .slice ya2 (rtG n x sz1 (rtG m x sz1 dz1)).length yc2] 24)
  replace b1 := b1.al (.cells #[.bool c1, .slice xa2 sz1.length xc2, .slice ya2 (rtG n x sz1 (rtG m x sz1 dz1)).length yc2] 24)
  replace hX2 := hX2.al (.cells #[.bool c1, .slice xa2 sz1.length xc2, .slice ya2 (rtG n x sz1 (rtG m x sz1 dz1)).length yc2] 24)
  replace hY2 := hY2.al (.cells #[.bool c1, .slice xa2 sz1.length xc2, .slice ya2 (rtG n x sz1 (rtG m x sz1 dz1)).length yc2] 24)
  replace p1_0 := p1.c0
  replace p1_1 := p1.c1
  replace p1_2 := p1.c2
  replace b1_0 := b1.c0
  replace b1_1 := b1.c1
  replace b1_2 := b1.c2
  have b2 := Abx.new v5 (.bool c1) (.slice xa2 sz1.length xc2) (.slice ya2 (rtG n x sz1 (rtG m x sz1 dz1)).length yc2)
  have b2_0 := b2.c0
  have b2_1 := b2.c1
  have b2_2 := b2.c2
  go_wp2_with fail
  refine (rt_ok c1 sa1 sc1 sz1 da1 dc1 dz1 _ x1 x2 ((HI.out.1.below hb.out).mono hb.out.size) ((HI.out.2.1.below hb.out).mono hb.out.size) HI.out.2.2 HT (m + n) x (by unfold In64; omega) hx F1.out).mono ?_
  rintro e v6 ⟨xa3, xc3, ya3, yc3, rfl, hX3, hY3, hB⟩
  replace hb : Hid (Below w.heap.size w v6) := hb.out.trans (hB.mono hb.out.size)
  replace p1 := p1.go hB
  replace hX1 := hX1.go hB
  replace hY1 := hY1.go hB
  replace b1 := b1.go hB
  replace hX2 := hX2.go hB
  replace hY2 := hY2.go hB
  replace b2 := b2.go hB
  replace p1_0 := p1.c0
  replace p1_1 := p1.c1
  replace p1_2 := p1.c2
  replace b1_0 := b1.c0
  replace b1_1 := b1.c1
  replace b1_2 := b1.c2
  replace b2_0 := b2.c0
  replace b2_1 := b2.c1
  replace b2_2 := b2.c2
  clear hB
  replace hb : Hid (Below w.heap.size w (v6.alloc (.cells #[.bool c1, .slice xa3 sz1.length xc3, .slice ya3 (rtG (m + n) x sz1 dz1).length yc3] 24))) := hb.out.alloc hb.out.size _
  replace p1 := p1.al (.cells #[.bool c1, .slice xa3 sz1.length xc3, .slice ya3 (rtG (m + n) x sz1 dz1).length yc3] 24)
  replace hX1 := hX1.al (.cells #[.bool c1, .slice xa3 sz1.length xc3, .slice ya3 (rtG (m + n) x sz1 dz1).length yc3] 24)
  replace hY1 := hY1.al (.cells #[.bool c1, .slice xa3 sz1.length xc3, .slice ya3 (rtG (m + n) x sz1 dz1).length yc3] 24)
  replace b1 := b1.al (.cells #[.bool c1, .slice xa3 sz1.length xc3, .slice ya3 (rtG (m + n) x sz1 dz1).length yc3] 24)
  replace hX2 := hX2.al (.cells #[.bool c1, .slice xa3 sz1.length xc3, .slice ya3 (rtG (m + n) x sz1 dz1).length yc3] 24)
  replace hY2 := hY2.al (.cells #[.bool c1, .slice xa3 sz1.length xc3, .slice ya3 (rtG (m + n) x sz1 dz1).length yc3] 24)
  replace b2 := b2.al (.cells #[.bool c1, .slice xa3 sz1.length xc3, .slice ya3 (rtG (m + n) x sz1 dz1).length yc3] 24)
  replace hX3 := hX3.al (.cells #[.bool c1, .slice xa3 sz1.length xc3, .slice ya3 (rtG (m + n) x sz1 dz1).length yc3] 24)
  replace hY3 := hY3.al (.cells #[.bool c1, .slice xa3 sz1.length xc3, .slice ya3 (rtG (m + n) x sz1 dz1).length yc3] 24)
  replace p1_0 := p1.c0
  replace p1_1 := p1.c1
  replace p1_2 := p1.c2
  replace b1_0 := b1.c0
  replace b1_1 := b1.c1
  replace b1_2 := b1.c2
  replace b2_0 := b2.c0
  replace b2_1 := b2.c1
  replace b2_2 := b2.c2
  have b3 := Abx.new v6 (.bool c1) (.slice xa3 sz1.length xc3) (.slice ya3 (rtG (m + n) x sz1 dz1).length yc3)
  have b3_0 := b3.c0
  have b3_1 := b3.c1
  have b3_2 := b3.c2
  go_wp2_with fail
  have hx0 : 0 ≤ x := (axE_zero.1 F1.out).2.1
  have hx1 : x < (sz1.length : Int) := by have := (axE_zero.1 F1.out).2.2; omega
  refine (alike_eq c1 xa2 xc2 sz1 ya2 yc2 (rtG n x sz1 (rtG m x sz1 dz1)) xa3 xc3 sz1 ya3 yc3 (rtG (m + n) x sz1 dz1) rfl (rt_rt F1.out).symm (tu_len (rt_flaw (n := n) (axE_of F1.out (rt_flaw (n := m) F1.out)))).1 (tu_len (rt_flaw (n := n) (axE_of F1.out (rt_flaw (n := m) F1.out)))).2 _ hX2.ints hY2.ints hX3.ints hY3.ints).mono ?_
  rintro e v7 ⟨rfl, hB⟩
  replace hb : Hid (Below w.heap.size w v7) := hb.out.trans (hB.mono hb.out.size)
  replace p1 := p1.go hB
  replace hX1 := hX1.go hB
  replace hY1 := hY1.go hB
  replace b1 := b1.go hB
  replace hX2 := hX2.go hB
  replace hY2 := hY2.go hB
  replace b2 := b2.go hB
  replace hX3 := hX3.go hB
  replace hY3 := hY3.go hB
  replace b3 := b3.go hB
  replace p1_0 := p1.c0
  replace p1_1 := p1.c1
  replace p1_2 := p1.c2
  replace b1_0 := b1.c0
  replace b1_1 := b1.c1
  replace b1_2 := b1.c2
  replace b2_0 := b2.c0
  replace b2_1 := b2.c1
  replace b2_2 := b2.c2
  replace b3_0 := b3.c0
  replace b3_1 := b3.c1
  replace b3_2 := b3.c2
  clear hB
  obtain ⟨xn, rfl⟩ : ∃ xn : Nat, x = (xn : Int) := ⟨x.toNat, by omega⟩
  have hxl : xn < sz1.length := by omega
  clear hX1 hY1 b1 b1_0 b1_1 b1_2 hX2 hY2 b2 b2_0 b2_1 b2_2 hX3 hY3 b3 b3_0 b3_1 b3_2
  obtain ⟨bs, os, rfl, hbs, hcS⟩ := (HI.out.1.1.below hb.out).at hxl
  have cs := hcS xn hxl
  clear hcS
  obtain ⟨u, hu⟩ : ∃ u, u = v7 := ⟨_, rfl⟩
  subst hu
  have HP : Hid (Abx u w.heap.size (.bool c1) (.slice (some ⟨bs, os, none⟩) sz1.length sc1) (.slice da1 dz1.length dc1)) := p1
  have q0 := p1_0
  have q1 := p1_1
  have q2 := p1_2
  have HX5 : Hid (In64 (nth sz1 xn)) := HS64.out xn
  go_upto_region 15 with fail
  go_cut [19, 20] (fun s19 s20 wc => Laid u c1 sz1 (rtG (nth sz1 xn) xn sz1 dz1) s19 s20 wc)
  case first =>
    have hbW : Hid (Below u.heap.size u u.drew) := (Below.refl _ u).drew
    refine anyT_begin 12 (fun w' => w'.cell? ⟨w.heap.size, 0, none⟩ = some (.bool c1) ∧ w'.cell? ⟨w.heap.size, 1, none⟩ = some (.slice (some ⟨bs, os, none⟩) sz1.length sc1) ∧ w'.cell? ⟨w.heap.size, 2, none⟩ = some (.slice da1 dz1.length dc1) ∧ w'.cell? ⟨bs, os + xn, none⟩ = some (.int .i64 (nth sz1 xn))) 14 #[false, false, false, false, false, false, false, false, false, false, false, false, false, false] (by kernel_rfl) rfl rfl ?_
    refine anyT_put 0 96 ?rv0 #[true, false, false, false, false, false, false, false, false, false, false, false, false, false] rfl rfl rfl (by kernel_rfl) (by kernel_rfl) (by kernel_rfl) (fun _ _ _ h => h) (by decide) ?ry0 (fun _ => ⟨q0, q1, q2, cs⟩) ?rm0
    case ry0 => first | exact Or.inl ⟨by rfl, by intro w'; go_simp; first | done | rfl⟩
    case rm0 =>
    simp only [Act.put, List.setIfInBounds_toArray, List.set_cons_zero, List.set_cons_succ]
    refine anyT_take 1 97 ?rv1 #[true, true, false, false, false, false, false, false, false, false, false, false, false, false] rfl rfl rfl (by kernel_rfl) (by kernel_rfl) (by kernel_rfl) (fun _ _ _ h => h) (by kernel_rfl) (by decide) (by kernel_rfl) ?ry1 (⟨q0, q1, q2, cs⟩) ?rm1
    case ry1 => first | exact Or.inl ⟨by rfl, by intro w' hw'; (try dsimp only at hw'); go_simp; first | done | rfl⟩
    case rm1 =>
    simp only [Act.put, List.setIfInBounds_toArray, List.set_cons_zero, List.set_cons_succ]
    refine anyT_put 2 98 ?rv2 #[true, true, true, false, false, false, false, false, false, false, false, false, false, false] rfl rfl rfl (by kernel_rfl) (by kernel_rfl) (by kernel_rfl) (fun _ _ _ h => h) (by decide) ?ry2 (fun _ => ⟨q0, q1, q2, cs⟩) ?rm2
    case ry2 => first | exact Or.inl ⟨by rfl, by intro w'; go_simp; first | done | rfl⟩
    case rm2 =>
    simp only [Act.put, List.setIfInBounds_toArray, List.set_cons_zero, List.set_cons_succ]
    refine anyT_put 3 99 ?rv3 #[true, true, true, true, false, false, false, false, false, false, false, false, false, false] rfl rfl rfl (by kernel_rfl) (by kernel_rfl) (by kernel_rfl) (fun _ _ _ h => h) (by decide) ?ry3 (fun _ => ⟨q0, q1, q2, cs⟩) ?rm3
    case ry3 => first | exact Or.inl ⟨by rfl, by intro w'; go_simp; first | done | rfl⟩
    case rm3 =>
    simp only [Act.put, List.setIfInBounds_toArray, List.set_cons_zero, List.set_cons_succ]
    refine anyT_take 4 100 ?rv4 #[true, true, true, true, true, false, false, false, false, false, false, false, false, false] rfl rfl rfl (by kernel_rfl) (by kernel_rfl) (by kernel_rfl) (fun _ _ _ h => h) (by kernel_rfl) (by decide) (by kernel_rfl) ?ry4 (⟨q0, q1, q2, cs⟩) ?rm4
    case ry4 => first | exact Or.inl ⟨by rfl, by intro w' hw'; (try dsimp only at hw'); go_simp; first | done | rfl⟩
    case rm4 =>
    simp only [Act.put, List.setIfInBounds_toArray, List.set_cons_zero, List.set_cons_succ]
    refine anyT_put 5 101 ?rv5 #[true, true, true, true, true, true, false, false, false, false, false, false, false, false] rfl rfl rfl (by kernel_rfl) (by kernel_rfl) (by kernel_rfl) (fun _ _ _ h => h) (by decide) ?ry5 (fun _ => ⟨q0, q1, q2, cs⟩) ?rm5
    case ry5 => first | exact Or.inl ⟨by rfl, by intro w'; go_simp; first | done | rfl⟩
    case rm5 =>
    simp only [Act.put, List.setIfInBounds_toArray, List.set_cons_zero, List.set_cons_succ]
    refine anyT_take 6 102 ?rv6 #[true, true, true, true, true, true, true, false, false, false, false, false, false, false] rfl rfl rfl (by kernel_rfl) (by kernel_rfl) (by kernel_rfl) (fun _ _ _ h => h) (by kernel_rfl) (by decide) (by kernel_rfl) ?ry6 (⟨q0, q1, q2, cs⟩) ?rm6
    case ry6 => first | exact Or.inl ⟨by rfl, by intro w' hw'; (try dsimp only at hw'); go_simp; first | done | rfl⟩
    case rm6 =>
    simp only [Act.put, List.setIfInBounds_toArray, List.set_cons_zero, List.set_cons_succ]
    refine anyT_br2 7 11 #[true, true, true, true, true, true, true, true, false, false, false, false, false, false] #[true, true, true, true, true, true, true, false, false, false, false, true, false, false] (by kernel_rfl) rfl rfl rfl rfl (fun K hK => ?ba7) (fun K hK => ?bb7)
    case ba7 =>
      go_simp
      go_wp2_with (go_at_call 10; refine (rt_ok c1 (some ⟨bs, os, none⟩) sc1 sz1 da1 dc1 dz1 (u.drew) x1 x2 ((HI.out.1.below (hb.out.trans (hbW.out.mono hb.out.size))).mono (Nat.le_trans hb.out.size hbW.out.size)) ((HI.out.2.1.below (hb.out.trans (hbW.out.mono hb.out.size))).mono (Nat.le_trans hb.out.size hbW.out.size)) HI.out.2.2 HT (nth sz1 xn) xn HX5.out hx F1.out).mono ?_; rintro e w2 ⟨xa, xc, ya, yc, rfl, hX, hY, hBc⟩)
      have hbWa : Hid (Below u.heap.size u w2) := hbW.out.trans (hBc.mono hbW.out.size)
      have pc := HP.out.go hbWa.out
      have cc := (hbWa.out.cell (p := ⟨bs, os + xn, none⟩) (by have := hb.out.size; show bs < u.heap.size; omega)).trans cs
      try (have rB : Abx w2 u.heap.size (.bool false) (.slice none 0 0) (.slice none 0 0) := RB.out.go hBc)
      try (have r0 := rB.c0)
      try (have r1 := rB.c1)
      try (have r2 := rB.c2)
      try (have f0 := rB.fr 0)
      try (have f1 := rB.fr 1)
      try (have f2 := rB.fr 2)
      refine hK.out _ _ (fun _ => ⟨pc.c0, pc.c1, pc.c2, cc⟩) ?_
      clear hK K
      refine anyT_put 8 95 ?rv8 #[true, true, true, true, true, true, true, true, true, false, false, false, false, false] rfl rfl rfl (by kernel_rfl) (by kernel_rfl) (by kernel_rfl) (fun _ _ _ h => h) (by decide) ?ry8 (fun _ => ⟨pc.c0, pc.c1, pc.c2, cc⟩) ?rm8
      case ry8 => first | exact Or.inl ⟨by rfl, by intro w'; go_simp; first | done | rfl⟩
      case rm8 =>
      simp only [Act.put, List.setIfInBounds_toArray, List.set_cons_zero, List.set_cons_succ]
      refine anyT_put 9 104 ?rv9 #[true, true, true, true, true, true, true, true, true, true, false, false, false, false] rfl rfl rfl (by kernel_rfl) (by kernel_rfl) (by kernel_rfl) (fun _ _ _ h => h) (by decide) ?ry9 (fun _ => ⟨pc.c0, pc.c1, pc.c2, cc⟩) ?rm9
      case ry9 => first | exact Or.inl ⟨by rfl, by intro w'; go_simp; first | done | rfl⟩
      case rm9 =>
      simp only [Act.put, List.setIfInBounds_toArray, List.set_cons_zero, List.set_cons_succ]
      refine anyT_put 10 105 ?rv10 #[true, true, true, true, true, true, true, true, true, true, true, false, false, false] rfl rfl rfl (by kernel_rfl) (by kernel_rfl) (by kernel_rfl) (fun _ _ _ h => h) (by decide) ?ry10 (fun _ => ⟨pc.c0, pc.c1, pc.c2, cc⟩) ?rm10
      case ry10 => first | exact Or.inl ⟨by rfl, by intro w'; go_simp; first | done | rfl⟩
      case rm10 =>
      simp only [Act.put, List.setIfInBounds_toArray, List.set_cons_zero, List.set_cons_succ]
      refine anyT_one 11 #[true, true, true, true, true, true, true, true, true, true, true, true, false, false] (by kernel_rfl) rfl rfl (fun K hK => ?_)
      go_simp
      have hbWab : Hid (Below u.heap.size u (w2.alloc (.cells #[.bool false, .slice none 0 0, .slice none 0 0] 24))) := hbWa.out.alloc hbWa.out.size _
      have pda := HP.out.go hbWab.out
      have cda := (hbWab.out.cell (p := ⟨bs, os + xn, none⟩) (by have := hb.out.size; show bs < u.heap.size; omega)).trans cs
      have RB : Hid (Abx (w2.alloc (.cells #[.bool false, .slice none 0 0, .slice none 0 0] 24)) w2.heap.size (.bool false) (.slice none 0 0) (.slice none 0 0)) := Abx.new _ _ _ _
      refine hK.out _ _ (fun _ => ⟨pda.c0, pda.c1, pda.c2, cda⟩) ?_
      clear hK K
      refine anyT_one 12 #[true, true, true, true, true, true, true, true, true, true, true, true, true, false] (by kernel_rfl) rfl rfl (fun K hK => ?_)
      go_simp
      refine hK.out _ _ (fun h => absurd h (by decide)) ?_
      clear hK K
      refine anyT_one 13 #[true, true, true, true, true, true, true, true, true, true, true, true, true, true] (by kernel_rfl) rfl rfl (fun K hK => ?_)
      go_simp
      refine hK.out _ _ (fun h => absurd h (by decide)) ?_
      clear hK K
      refine anyT_done (by kernel_rfl) ?_
      go_wp2_with fail
      go_meet
      first | exact laid_a hX hY hbWa.out | exact laid_b (by have h := hX; rw [World.size_alloc] at h; exact h) (by have h := hY; rw [World.size_alloc] at h; exact h) rB hbWba.out
    case bb7 =>
      go_simp
      have hbWb : Hid (Below u.heap.size u ((u.drew).alloc (.cells #[.bool false, .slice none 0 0, .slice none 0 0] 24))) := hbW.out.alloc hbW.out.size _
      have pd := HP.out.go hbWb.out
      have cd := (hbWb.out.cell (p := ⟨bs, os + xn, none⟩) (by have := hb.out.size; show bs < u.heap.size; omega)).trans cs
      have RB : Hid (Abx ((u.drew).alloc (.cells #[.bool false, .slice none 0 0, .slice none 0 0] 24)) (u.drew).heap.size (.bool false) (.slice none 0 0) (.slice none 0 0)) := Abx.new _ _ _ _
      refine hK.out _ _ (fun _ => ⟨pd.c0, pd.c1, pd.c2, cd⟩) ?_
      clear hK K
      refine anyT_one 7 #[true, true, true, true, true, true, true, true, false, false, false, true, false, false] (by kernel_rfl) rfl rfl (fun K hK => ?_)
      go_simp
      go_wp2_with (go_at_call 10; refine (rt_ok c1 (some ⟨bs, os, none⟩) sc1 sz1 da1 dc1 dz1 ((u.drew).alloc (.cells #[.bool false, .slice none 0 0, .slice none 0 0] 24)) x1 x2 ((HI.out.1.below (hb.out.trans (hbWb.out.mono hb.out.size))).mono (Nat.le_trans hb.out.size hbWb.out.size)) ((HI.out.2.1.below (hb.out.trans (hbWb.out.mono hb.out.size))).mono (Nat.le_trans hb.out.size hbWb.out.size)) HI.out.2.2 HT (nth sz1 xn) xn HX5.out hx F1.out).mono ?_; rintro e w2 ⟨xa, xc, ya, yc, rfl, hX, hY, hBc⟩)
      have hbWba : Hid (Below u.heap.size u w2) := hbWb.out.trans (hBc.mono hbWb.out.size)
      have pcb := HP.out.go hbWba.out
      have ccb := (hbWba.out.cell (p := ⟨bs, os + xn, none⟩) (by have := hb.out.size; show bs < u.heap.size; omega)).trans cs
      try (have rB : Abx w2 u.heap.size (.bool false) (.slice none 0 0) (.slice none 0 0) := RB.out.go hBc)
      try (have r0 := rB.c0)
      try (have r1 := rB.c1)
      try (have r2 := rB.c2)
      try (have f0 := rB.fr 0)
      try (have f1 := rB.fr 1)
      try (have f2 := rB.fr 2)
      refine hK.out _ _ (fun _ => ⟨pcb.c0, pcb.c1, pcb.c2, ccb⟩) ?_
      clear hK K
      refine anyT_put 8 95 ?rv15 #[true, true, true, true, true, true, true, true, true, false, false, true, false, false] rfl rfl rfl (by kernel_rfl) (by kernel_rfl) (by kernel_rfl) (fun _ _ _ h => h) (by decide) ?ry15 (fun _ => ⟨pcb.c0, pcb.c1, pcb.c2, ccb⟩) ?rm15
      case ry15 => first | exact Or.inl ⟨by rfl, by intro w'; go_simp; first | done | rfl⟩
      case rm15 =>
      simp only [Act.put, List.setIfInBounds_toArray, List.set_cons_zero, List.set_cons_succ]
      refine anyT_put 9 104 ?rv16 #[true, true, true, true, true, true, true, true, true, true, false, true, false, false] rfl rfl rfl (by kernel_rfl) (by kernel_rfl) (by kernel_rfl) (fun _ _ _ h => h) (by decide) ?ry16 (fun _ => ⟨pcb.c0, pcb.c1, pcb.c2, ccb⟩) ?rm16
      case ry16 => first | exact Or.inl ⟨by rfl, by intro w'; go_simp; first | done | rfl⟩
      case rm16 =>
      simp only [Act.put, List.setIfInBounds_toArray, List.set_cons_zero, List.set_cons_succ]
      refine anyT_put 10 105 ?rv17 #[true, true, true, true, true, true, true, true, true, true, true, true, false, false] rfl rfl rfl (by kernel_rfl) (by kernel_rfl) (by kernel_rfl) (fun _ _ _ h => h) (by decide) ?ry17 (fun _ => ⟨pcb.c0, pcb.c1, pcb.c2, ccb⟩) ?rm17
      case ry17 => first | exact Or.inl ⟨by rfl, by intro w'; go_simp; first | done | rfl⟩
      case rm17 =>
      simp only [Act.put, List.setIfInBounds_toArray, List.set_cons_zero, List.set_cons_succ]
      refine anyT_one 12 #[true, true, true, true, true, true, true, true, true, true, true, true, true, false] (by kernel_rfl) rfl rfl (fun K hK => ?_)
      go_simp
      refine hK.out _ _ (fun h => absurd h (by decide)) ?_
      clear hK K
      refine anyT_one 13 #[true, true, true, true, true, true, true, true, true, true, true, true, true, true] (by kernel_rfl) rfl rfl (fun K hK => ?_)
      go_simp
      refine hK.out _ _ (fun h => absurd h (by decide)) ?_
      clear hK K
      refine anyT_done (by kernel_rfl) ?_
      go_wp2_with fail
      go_meet
      first | exact laid_a hX hY hbWa.out | exact laid_b (by have h := hX; rw [World.size_alloc] at h; exact h) (by have h := hY; rw [World.size_alloc] at h; exact h) rB hbWba.out
  case rest =>
    obtain ⟨B, xa, xc, ya, yc, rfl, rfl, hL, hX, hY, hB⟩ := hcut
    have hb9 : Hid (Below w.heap.size w wc) := hb.out.trans (hB.mono hb.out.size)
    have P9 := HP.out.go hB
    have q0 := P9.c0
    have q1 := P9.c1
    have q2 := P9.c2
    have l0 := hL.c0
    have l1 := hL.c1
    have l2 := hL.c2
    go_wp2_with fail
    refine (alike_eq c1 xa xc sz1 ya yc (rtG (nth sz1 xn) xn sz1 dz1) (some ⟨bs, os, none⟩) sc1 sz1 da1 dc1 dz1 rfl (rt_len F1.out).symm (tu_len (rt_flaw (n := nth sz1 xn) F1.out)).1 (tu_len (rt_flaw (n := nth sz1 xn) F1.out)).2 wc hX.ints hY.ints ((HI.out.1.below hb9.out).mono hb9.out.size) ((HI.out.2.1.below hb9.out).mono hb9.out.size)).mono ?_
    rintro e v9 ⟨rfl, hBz⟩
    have hbz : Hid (Below w.heap.size w v9) := hb9.out.trans (hBz.mono hb9.out.size)
    clear hBz
    go_wp2_with fail
    go_ret
    exact ⟨rfl, hbz.out⟩
theorem trounds_walk (HT : CRt) (m n x : Int) (hm : In64 m) (hn : In64 n) (hx : In64 x) (c1 : Bool) (sa1 : Option Addr) (sc1 : Nat) (sz1 : List Int) (da1 : Option Addr) (dc1 : Nat) (dz1 : List Int) (w : World) (w9 : IsArrC w sa1 sz1 sc1 da1 dz1) :
    Calls Try.prog 4 #[.int .i64 m, .int .i64 n, .int .i64 x, .agg #[.bool c1, .slice sa1 sz1.length sc1, .slice da1 dz1.length dc1]] w fun e w' => e = .returned (.bool true) ∧ Below w.heap.size w w' := by
  by_cases b1 : 1099511627776 < m
  · exact rounds_hi1 HT m n x hm hn hx c1 sa1 sc1 sz1 da1 dc1 dz1 w w9 b1
  · by_cases b2 : m < -1099511627776
    · exact rounds_lo1 HT m n x hm hn hx c1 sa1 sc1 sz1 da1 dc1 dz1 w w9 (by omega) b2
    · by_cases b3 : 1099511627776 < n
      · exact rounds_hi2 HT m n x hm hn hx c1 sa1 sc1 sz1 da1 dc1 dz1 w w9 (by omega) (by omega) b3
      · by_cases b4 : n < -1099511627776
        · exact rounds_lo2 HT m n x hm hn hx c1 sa1 sc1 sz1 da1 dc1 dz1 w w9 (by omega) (by omega) (by omega) b4
        · by_cases f1 : axE x c1 sz1 dz1 = 0
          · exact rounds_ok HT m n x hm hn hx c1 sa1 sc1 sz1 da1 dc1 dz1 w w9 (by omega) (by omega) (by omega) (by omega) f1
          · exact rounds_no HT m n x hm hn hx c1 sa1 sc1 sz1 da1 dc1 dz1 w w9 (by omega) (by omega) (by omega) (by omega) f1
end Go.Proofs.Ytaahndglgjhneaa
