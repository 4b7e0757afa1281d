/-
  The walk of the statement TurnGroup, given what the program tells.
-/
import Derived.Deep.DeepCutAuto
import Derived.Test.YtkadepneehdffaaTurnf
import Derived.Test.YtkadepneehdffaaPerm
import Derived.Test.YtkadepneehdffaaBk
import Derived.Test.YtkadepneehdffaaCycd
namespace Go.Proofs.Ytkadepneehdffaa
open Go.RowKit
set_option linter.unusedVariables false

theorem lit_all {xs : List Int} (h : xs.all (fun x => decide (-9223372036854775808 ≤ x ∧ x ≤ 9223372036854775807)) = true) : ∀ j, In64 (nth xs j) := fun j => by
  by_cases hj : j < xs.length
  · have : nth xs j ∈ xs := by simp [nth, hj]
    exact of_decide_eq_true (p := -9223372036854775808 ≤ nth xs j ∧ nth xs j ≤ 9223372036854775807) (List.all_eq_true.1 h _ this)
  · have : nth xs j = 0 := by simp [nth, List.getElem?_eq_none (Nat.le_of_not_lt hj)]
    rw [this]; unfold In64; decide
theorem fact_v : flG [1, 0] [2, 2] [1, 2, 3, 4] = [1, 3, 2, 4] := by decide
theorem fact_s : axVal [2, 2] [1, 0] = [2, 2] := by decide
/-- An array that was told and laid, in whichever order. -/
def Laid (v : World) (c : Bool) (S D : List Int) (s19 s20 : Value) (wc : World) : Prop := ∃ B xa xc ya yc, s19 = .pointer (some ⟨B, 0, none⟩) ∧ s20 = .nilIface ∧ Abx wc B (.bool c) (.slice xa S.length xc) (.slice ya D.length yc) ∧ NewC v.heap.size wc xa S xc ∧ NewInts v.heap.size wc ya D ∧ Below v.heap.size v wc
theorem laid_a {v w2 : World} {c : Bool} {S D : List Int} {xa : Option Addr} {xc : Nat} {ya : Option Addr} {yc : Nat} (hX : NewC v.heap.size w2 xa S xc) (hY : NewInts v.heap.size w2 ya D) (hB : Below v.heap.size v w2) :
    Laid v c S D (.pointer (some ⟨w2.heap.size, 0, none⟩)) .nilIface (w2.alloc (.cells #[.bool c, .slice xa S.length xc, .slice ya D.length yc] 32)) := ⟨_, xa, xc, ya, yc, rfl, rfl, Abx.new w2 _ _ _, hX.al _, hY.al _, hB.alloc hB.size _⟩
theorem laid_b {v w2 : World} {c : Bool} {S D : List Int} {xa : Option Addr} {xc : Nat} {ya : Option Addr} {yc : Nat} (hX : NewC (v.heap.size + 1) w2 xa S xc) (hY : NewInts (v.heap.size + 1) w2 ya D) (hR : Abx w2 v.heap.size (.bool false) (.slice none 0 0) (.slice none 0 0)) (hB : Below v.heap.size v w2) :
    Laid v c S D (.pointer (some ⟨v.heap.size, 0, none⟩)) .nilIface (((w2.setCell ⟨v.heap.size, 0, none⟩ (.bool c)).setCell ⟨v.heap.size, 1, none⟩ (.slice xa S.length xc)).setCell ⟨v.heap.size, 2, none⟩ (.slice ya D.length yc)) :=
  ⟨_, xa, xc, ya, yc, rfl, rfl, hR.set3 _ _ _, (hX.set3 (by omega) _ _ _).low (by omega), (hY.set3 (by omega) _ _ _).low (by omega), bel_set3 hB (Nat.le_refl _) _ _ _⟩
set_option maxRecDepth 100000 in
set_option maxHeartbeats 8000000 in
theorem group_no (HF : CFl) (pa : Option Addr) (pc : Nat) (p : List Int) (qa : Option Addr) (qc : Nat) (q : List Int) (hpl : p.length ≤ 9223372036854775807) (hql : q.length ≤ 9223372036854775807) (c1 : Bool) (sa1 : Option Addr) (sc1 : Nat) (sz1 : List Int) (da1 : Option Addr) (dc1 : Nat) (dz1 : List Int) (w : World) (hp : IsInts w.heap.size w pa p) (hq : IsInts w.heap.size w qa q) (w9 : IsArrC w sa1 sz1 sc1 da1 dz1) (F1 : Hid (flE p c1 sz1 dz1 ≠ 0)) :
    Calls Try.prog 4 #[.slice pa p.length pc, .slice qa q.length qc, .agg #[.bool c1, .slice sa1 sz1.length sc1, .slice da1 dz1.length dc1]] w fun e w' => e = .returned (.bool true) ∧ Below w.heap.size w w' := by
  have HP : Hid (IsInts w.heap.size w pa p ∧ IsInts w.heap.size w qa q) := ⟨hp, hq⟩
  clear hp hq
  obtain ⟨x1, x2, x3, x4, s64, T⟩ := w9
  have HI : Hid (IsC w.heap.size w sa1 sz1 sc1 ∧ IsInts w.heap.size w da1 dz1 ∧ ∀ j, In64 (nth dz1 j)) := ⟨x3, x4, T⟩
  clear x3 x4 T s64
  have p1 : Abx (w.alloc (.cells #[.bool c1, .slice sa1 sz1.length sc1, .slice da1 dz1.length dc1] 32)) w.heap.size (.bool c1) (.slice sa1 sz1.length sc1) (.slice da1 dz1.length dc1) := Abx.new w _ _ _
  have hb : Hid (Below w.heap.size w (w.alloc (.cells #[.bool c1, .slice sa1 sz1.length sc1, .slice da1 dz1.length dc1] 32))) := (Below.refl _ w).alloc (Nat.le_refl _) _
  have p1_0 := p1.c0
  have p1_1 := p1.c1
  have p1_2 := p1.c2
  have n0 : NewInts (w.alloc (.cells #[.bool c1, .slice sa1 sz1.length sc1, .slice da1 dz1.length dc1] 32)).heap.size ((((w.alloc (.cells #[.bool c1, .slice sa1 sz1.length sc1, .slice da1 dz1.length dc1] 32)).alloc (.cells #[.int .i64 1, .int .i64 0] 3)).alloc (.cells #[.int .i64 2, .int .i64 2] 3)).alloc (.cells #[.int .i64 1, .int .i64 2, .int .i64 3, .int .i64 4] 3)) (some ⟨(w.alloc (.cells #[.bool c1, .slice sa1 sz1.length sc1, .slice da1 dz1.length dc1] 32)).heap.size, 0, none⟩) [1, 0] := (((new_lit (w.alloc (.cells #[.bool c1, .slice sa1 sz1.length sc1, .slice da1 dz1.length dc1] 32)) 3 [1, 0]).al (.cells #[.int .i64 2, .int .i64 2] 3)).al (.cells #[.int .i64 1, .int .i64 2, .int .i64 3, .int .i64 4] 3))
  have n1 : NewInts ((w.alloc (.cells #[.bool c1, .slice sa1 sz1.length sc1, .slice da1 dz1.length dc1] 32)).alloc (.cells #[.int .i64 1, .int .i64 0] 3)).heap.size ((((w.alloc (.cells #[.bool c1, .slice sa1 sz1.length sc1, .slice da1 dz1.length dc1] 32)).alloc (.cells #[.int .i64 1, .int .i64 0] 3)).alloc (.cells #[.int .i64 2, .int .i64 2] 3)).alloc (.cells #[.int .i64 1, .int .i64 2, .int .i64 3, .int .i64 4] 3)) (some ⟨((w.alloc (.cells #[.bool c1, .slice sa1 sz1.length sc1, .slice da1 dz1.length dc1] 32)).alloc (.cells #[.int .i64 1, .int .i64 0] 3)).heap.size, 0, none⟩) [2, 2] := ((new_lit ((w.alloc (.cells #[.bool c1, .slice sa1 sz1.length sc1, .slice da1 dz1.length dc1] 32)).alloc (.cells #[.int .i64 1, .int .i64 0] 3)) 3 [2, 2]).al (.cells #[.int .i64 1, .int .i64 2, .int .i64 3, .int .i64 4] 3))
  have n2 : NewInts (((w.alloc (.cells #[.bool c1, .slice sa1 sz1.length sc1, .slice da1 dz1.length dc1] 32)).alloc (.cells #[.int .i64 1, .int .i64 0] 3)).alloc (.cells #[.int .i64 2, .int .i64 2] 3)).heap.size ((((w.alloc (.cells #[.bool c1, .slice sa1 sz1.length sc1, .slice da1 dz1.length dc1] 32)).alloc (.cells #[.int .i64 1, .int .i64 0] 3)).alloc (.cells #[.int .i64 2, .int .i64 2] 3)).alloc (.cells #[.int .i64 1, .int .i64 2, .int .i64 3, .int .i64 4] 3)) (some ⟨(((w.alloc (.cells #[.bool c1, .slice sa1 sz1.length sc1, .slice da1 dz1.length dc1] 32)).alloc (.cells #[.int .i64 1, .int .i64 0] 3)).alloc (.cells #[.int .i64 2, .int .i64 2] 3)).heap.size, 0, none⟩) [1, 2, 3, 4] := (new_lit (((w.alloc (.cells #[.bool c1, .slice sa1 sz1.length sc1, .slice da1 dz1.length dc1] 32)).alloc (.cells #[.int .i64 1, .int .i64 0] 3)).alloc (.cells #[.int .i64 2, .int .i64 2] 3)) 3 [1, 2, 3, 4])
  simp only [World.size_alloc] at n0 n1 n2
  replace hb : Hid (Below w.heap.size w ((w.alloc (.cells #[.bool c1, .slice sa1 sz1.length sc1, .slice da1 dz1.length dc1] 32)).alloc (.cells #[.int .i64 1, .int .i64 0] 3))) := hb.out.alloc hb.out.size _
  replace p1 := p1.al (.cells #[.int .i64 1, .int .i64 0] 3)
  replace p1_0 := p1.c0
  replace p1_1 := p1.c1
  replace p1_2 := p1.c2
  replace hb : Hid (Below w.heap.size w (((w.alloc (.cells #[.bool c1, .slice sa1 sz1.length sc1, .slice da1 dz1.length dc1] 32)).alloc (.cells #[.int .i64 1, .int .i64 0] 3)).alloc (.cells #[.int .i64 2, .int .i64 2] 3))) := hb.out.alloc hb.out.size _
  replace p1 := p1.al (.cells #[.int .i64 2, .int .i64 2] 3)
  replace p1_0 := p1.c0
  replace p1_1 := p1.c1
  replace p1_2 := p1.c2
  replace hb : Hid (Below w.heap.size w ((((w.alloc (.cells #[.bool c1, .slice sa1 sz1.length sc1, .slice da1 dz1.length dc1] 32)).alloc (.cells #[.int .i64 1, .int .i64 0] 3)).alloc (.cells #[.int .i64 2, .int .i64 2] 3)).alloc (.cells #[.int .i64 1, .int .i64 2, .int .i64 3, .int .i64 4] 3))) := hb.out.alloc hb.out.size _
  replace p1 := p1.al (.cells #[.int .i64 1, .int .i64 2, .int .i64 3, .int .i64 4] 3)
  replace p1_0 := p1.c0
  replace p1_1 := p1.c1
  replace p1_2 := p1.c2
  go_enter Try.func4, Try.ntmps4
  go_wp2_with fail
  refine (fl_ok false (some ⟨w.heap.size + 1 + 1, 0, none⟩) 2 [2, 2] (some ⟨w.heap.size + 1 + 1 + 1, 0, none⟩) 4 [1, 2, 3, 4] _ (by simp) (by simp) (n1.ints.c (by decide)) n2.ints (lit_all (by decide)) HF (some ⟨w.heap.size + 1, 0, none⟩) 2 [1, 0] (by simp) n0.ints (by decide)).mono ?_
  rintro e v1 ⟨f1, g1, f2, g2, he, hZ, hY, hB⟩
  replace hb : Hid (Below w.heap.size w v1) := hb.out.trans (hB.mono hb.out.size)
  replace p1 := p1.go hB
  replace p1_0 := p1.c0
  replace p1_1 := p1.c1
  replace p1_2 := p1.c2
  clear hB
  clear n0 n1 n2
  rw [fact_v, fact_s] at he
  rw [fact_v] at hY
  rw [fact_s] at hZ
  subst he
  replace hb : Hid (Below w.heap.size w (v1.alloc (.cells #[.bool false, .slice f1 2 g1, .slice f2 4 g2] 32))) := hb.out.alloc hb.out.size _
  replace p1 := p1.al (.cells #[.bool false, .slice f1 2 g1, .slice f2 4 g2] 32)
  replace hY := hY.al (.cells #[.bool false, .slice f1 2 g1, .slice f2 4 g2] 32)
  replace hZ := hZ.al (.cells #[.bool false, .slice f1 2 g1, .slice f2 4 g2] 32)
  replace p1_0 := p1.c0
  replace p1_1 := p1.c1
  replace p1_2 := p1.c2
  replace hb : Hid (Below w.heap.size w ((v1.alloc (.cells #[.bool false, .slice f1 2 g1, .slice f2 4 g2] 32)).alloc (.cells #[.int .i64 1, .int .i64 3, .int .i64 2, .int .i64 4] 3))) := hb.out.alloc hb.out.size _
  replace p1 := p1.al (.cells #[.int .i64 1, .int .i64 3, .int .i64 2, .int .i64 4] 3)
  replace hY := hY.al (.cells #[.int .i64 1, .int .i64 3, .int .i64 2, .int .i64 4] 3)
  replace hZ := hZ.al (.cells #[.int .i64 1, .int .i64 3, .int .i64 2, .int .i64 4] 3)
  replace p1_0 := p1.c0
  replace p1_1 := p1.c1
  replace p1_2 := p1.c2
  have nl := new_lit (v1.alloc (.cells #[.bool false, .slice f1 2 g1, .slice f2 4 g2] 32)) 3 [1, 3, 2, 4]
  simp only [World.size_alloc] at nl
  go_wp2_with fail
  refine (ints_any f2 g2 [1, 3, 2, 4] (some ⟨v1.heap.size + 1, 0, none⟩) 4 [1, 3, 2, 4] (by simp) _ _ hY.ints nl.ints).mono ?_
  rintro e v2 ⟨rfl, hB⟩
  replace hb : Hid (Below w.heap.size w v2) := hb.out.trans (hB.mono hb.out.size)
  replace p1 := p1.go hB
  replace hY := hY.go hB
  replace hZ := hZ.go hB
  replace p1_0 := p1.c0
  replace p1_1 := p1.c1
  replace p1_2 := p1.c2
  clear hB
  clear nl hY hZ
  rw [eqB_true rfl]
  go_wp2_with fail
  refine (fl_no c1 sa1 sc1 sz1 da1 dc1 dz1 _ x1 x2 ((HI.out.1.below hb.out).mono hb.out.size) ((HI.out.2.1.below hb.out).mono hb.out.size) HI.out.2.2 HF pa pc p hpl ((HP.out.1.below hb.out).mono hb.out.size) F1.out).mono ?_
  rintro e v3 ⟨xa1, xc1, ya1, yc1, rfl, hB⟩
  replace hb : Hid (Below w.heap.size w v3) := hb.out.trans (hB.mono hb.out.size)
  replace p1 := p1.go hB
  replace p1_0 := p1.c0
  replace p1_1 := p1.c1
  replace p1_2 := p1.c2
  clear hB
  replace hb : Hid (Below w.heap.size w (v3.alloc (.cells #[.bool false, .slice xa1 0 xc1, .slice ya1 0 yc1] 32))) := hb.out.alloc hb.out.size _
  replace p1 := p1.al (.cells #[.bool false, .slice xa1 0 xc1, .slice ya1 0 yc1] 32)
  replace p1_0 := p1.c0
  replace p1_1 := p1.c1
  replace p1_2 := p1.c2
  go_wp2_with fail
  go_ret
  exact ⟨rfl, hb.out⟩
theorem laid_s {v w2 : World} {B : Nat} {c : Bool} {S D : List Int} {xa : Option Addr} {xc : Nat} {ya : Option Addr} {yc : Nat} (hX : NewC (B + 1) w2 xa S xc) (hY : NewInts (B + 1) w2 ya D) (hR : Abx w2 B (.bool false) (.slice none 0 0) (.slice none 0 0)) (h0 : v.heap.size ≤ B) (hB : Below v.heap.size v w2) :
    Laid v c S D (.pointer (some ⟨B, 0, none⟩)) .nilIface (((w2.setCell ⟨B, 0, none⟩ (.bool c)).setCell ⟨B, 1, none⟩ (.slice xa S.length xc)).setCell ⟨B, 2, none⟩ (.slice ya D.length yc)) :=
  ⟨_, xa, xc, ya, yc, rfl, rfl, hR.set3 _ _ _, (hX.set3 (by omega) _ _ _).low (by omega), (hY.set3 (by omega) _ _ _).low (by omega), bel_set3 hB h0 _ _ _⟩
theorem fl_bk (HF : CFl) {p : List Int} {c : Bool} {sz dz : List Int} (F1 : flE p c sz dz = 0) (T : ∀ j, In64 (nth dz j)) (ka : Option Addr) (kc : Nat) (bq : List Int) (hq : bq = bkl p p.length) (sa : Option Addr) (sc : Nat) (da : Option Addr) (dc : Nat) (w : World) (hk : IsInts w.heap.size w ka bq) (hs : IsC w.heap.size w sa (axVal sz p) sc) (hd : IsInts w.heap.size w da (flG p sz dz)) :
    Calls Try.prog 11 #[.slice ka bq.length kc, .agg #[.bool c, .slice sa (axVal sz p).length sc, .slice da (flG p sz dz).length dc]] w (OkA c sz dz w) := by
  subst hq
  have hb := fl_back F1 (bkl_spec (flE_zero.1 F1).2.2)
  have hl := tu_len (fl_flaw F1)
  have h6 := fl_short F1
  have h := fl_ok c sa sc (axVal sz p) da dc (flG p sz dz) w hl.1 hl.2 hs hd (GA_64 T) HF ka kc (bkl p p.length) (by rw [bkl_length]; omega) hk hb.1
  rw [hb.2.1, hb.2.2] at h
  exact h
set_option maxRecDepth 100000 in
set_option maxHeartbeats 8000000 in
theorem group_ord (HF : CFl) (pa : Option Addr) (pc : Nat) (p : List Int) (qa : Option Addr) (qc : Nat) (q : List Int) (hpl : p.length ≤ 9223372036854775807) (hql : q.length ≤ 9223372036854775807) (c1 : Bool) (sa1 : Option Addr) (sc1 : Nat) (sz1 : List Int) (da1 : Option Addr) (dc1 : Nat) (dz1 : List Int) (w : World) (hp : IsInts w.heap.size w pa p) (hq : IsInts w.heap.size w qa q) (w9 : IsArrC w sa1 sz1 sc1 da1 dz1) (F1 : Hid (flE p c1 sz1 dz1 = 0)) (O1 : Hid (ordB q = false)) :
    Calls Try.prog 4 #[.slice pa p.length pc, .slice qa q.length qc, .agg #[.bool c1, .slice sa1 sz1.length sc1, .slice da1 dz1.length dc1]] w fun e w' => e = .returned (.bool true) ∧ Below w.heap.size w w' := by
  have HP : Hid (IsInts w.heap.size w pa p ∧ IsInts w.heap.size w qa q) := ⟨hp, hq⟩
  clear hp hq
  obtain ⟨x1, x2, x3, x4, s64, T⟩ := w9
  have HI : Hid (IsC w.heap.size w sa1 sz1 sc1 ∧ IsInts w.heap.size w da1 dz1 ∧ ∀ j, In64 (nth dz1 j)) := ⟨x3, x4, T⟩
  clear x3 x4 T s64
  have p1 : Abx (w.alloc (.cells #[.bool c1, .slice sa1 sz1.length sc1, .slice da1 dz1.length dc1] 32)) w.heap.size (.bool c1) (.slice sa1 sz1.length sc1) (.slice da1 dz1.length dc1) := Abx.new w _ _ _
  have hb : Hid (Below w.heap.size w (w.alloc (.cells #[.bool c1, .slice sa1 sz1.length sc1, .slice da1 dz1.length dc1] 32))) := (Below.refl _ w).alloc (Nat.le_refl _) _
  have p1_0 := p1.c0
  have p1_1 := p1.c1
  have p1_2 := p1.c2
  have n0 : NewInts (w.alloc (.cells #[.bool c1, .slice sa1 sz1.length sc1, .slice da1 dz1.length dc1] 32)).heap.size ((((w.alloc (.cells #[.bool c1, .slice sa1 sz1.length sc1, .slice da1 dz1.length dc1] 32)).alloc (.cells #[.int .i64 1, .int .i64 0] 3)).alloc (.cells #[.int .i64 2, .int .i64 2] 3)).alloc (.cells #[.int .i64 1, .int .i64 2, .int .i64 3, .int .i64 4] 3)) (some ⟨(w.alloc (.cells #[.bool c1, .slice sa1 sz1.length sc1, .slice da1 dz1.length dc1] 32)).heap.size, 0, none⟩) [1, 0] := (((new_lit (w.alloc (.cells #[.bool c1, .slice sa1 sz1.length sc1, .slice da1 dz1.length dc1] 32)) 3 [1, 0]).al (.cells #[.int .i64 2, .int .i64 2] 3)).al (.cells #[.int .i64 1, .int .i64 2, .int .i64 3, .int .i64 4] 3))
  have n1 : NewInts ((w.alloc (.cells #[.bool c1, .slice sa1 sz1.length sc1, .slice da1 dz1.length dc1] 32)).alloc (.cells #[.int .i64 1, .int .i64 0] 3)).heap.size ((((w.alloc (.cells #[.bool c1, .slice sa1 sz1.length sc1, .slice da1 dz1.length dc1] 32)).alloc (.cells #[.int .i64 1, .int .i64 0] 3)).alloc (.cells #[.int .i64 2, .int .i64 2] 3)).alloc (.cells #[.int .i64 1, .int .i64 2, .int .i64 3, .int .i64 4] 3)) (some ⟨((w.alloc (.cells #[.bool c1, .slice sa1 sz1.length sc1, .slice da1 dz1.length dc1] 32)).alloc (.cells #[.int .i64 1, .int .i64 0] 3)).heap.size, 0, none⟩) [2, 2] := ((new_lit ((w.alloc (.cells #[.bool c1, .slice sa1 sz1.length sc1, .slice da1 dz1.length dc1] 32)).alloc (.cells #[.int .i64 1, .int .i64 0] 3)) 3 [2, 2]).al (.cells #[.int .i64 1, .int .i64 2, .int .i64 3, .int .i64 4] 3))
  have n2 : NewInts (((w.alloc (.cells #[.bool c1, .slice sa1 sz1.length sc1, .slice da1 dz1.length dc1] 32)).alloc (.cells #[.int .i64 1, .int .i64 0] 3)).alloc (.cells #[.int .i64 2, .int .i64 2] 3)).heap.size ((((w.alloc (.cells #[.bool c1, .slice sa1 sz1.length sc1, .slice da1 dz1.length dc1] 32)).alloc (.cells #[.int .i64 1, .int .i64 0] 3)).alloc (.cells #[.int .i64 2, .int .i64 2] 3)).alloc (.cells #[.int .i64 1, .int .i64 2, .int .i64 3, .int .i64 4] 3)) (some ⟨(((w.alloc (.cells #[.bool c1, .slice sa1 sz1.length sc1, .slice da1 dz1.length dc1] 32)).alloc (.cells #[.int .i64 1, .int .i64 0] 3)).alloc (.cells #[.int .i64 2, .int .i64 2] 3)).heap.size, 0, none⟩) [1, 2, 3, 4] := (new_lit (((w.alloc (.cells #[.bool c1, .slice sa1 sz1.length sc1, .slice da1 dz1.length dc1] 32)).alloc (.cells #[.int .i64 1, .int .i64 0] 3)).alloc (.cells #[.int .i64 2, .int .i64 2] 3)) 3 [1, 2, 3, 4])
  simp only [World.size_alloc] at n0 n1 n2
  replace hb : Hid (Below w.heap.size w ((w.alloc (.cells #[.bool c1, .slice sa1 sz1.length sc1, .slice da1 dz1.length dc1] 32)).alloc (.cells #[.int .i64 1, .int .i64 0] 3))) := hb.out.alloc hb.out.size _
  replace p1 := p1.al (.cells #[.int .i64 1, .int .i64 0] 3)
  replace p1_0 := p1.c0
  replace p1_1 := p1.c1
  replace p1_2 := p1.c2
  replace hb : Hid (Below w.heap.size w (((w.alloc (.cells #[.bool c1, .slice sa1 sz1.length sc1, .slice da1 dz1.length dc1] 32)).alloc (.cells #[.int .i64 1, .int .i64 0] 3)).alloc (.cells #[.int .i64 2, .int .i64 2] 3))) := hb.out.alloc hb.out.size _
  replace p1 := p1.al (.cells #[.int .i64 2, .int .i64 2] 3)
  replace p1_0 := p1.c0
  replace p1_1 := p1.c1
  replace p1_2 := p1.c2
  replace hb : Hid (Below w.heap.size w ((((w.alloc (.cells #[.bool c1, .slice sa1 sz1.length sc1, .slice da1 dz1.length dc1] 32)).alloc (.cells #[.int .i64 1, .int .i64 0] 3)).alloc (.cells #[.int .i64 2, .int .i64 2] 3)).alloc (.cells #[.int .i64 1, .int .i64 2, .int .i64 3, .int .i64 4] 3))) := hb.out.alloc hb.out.size _
  replace p1 := p1.al (.cells #[.int .i64 1, .int .i64 2, .int .i64 3, .int .i64 4] 3)
  replace p1_0 := p1.c0
  replace p1_1 := p1.c1
  replace p1_2 := p1.c2
  go_enter Try.func4, Try.ntmps4
  go_wp2_with fail
  refine (fl_ok false (some ⟨w.heap.size + 1 + 1, 0, none⟩) 2 [2, 2] (some ⟨w.heap.size + 1 + 1 + 1, 0, none⟩) 4 [1, 2, 3, 4] _ (by simp) (by simp) (n1.ints.c (by decide)) n2.ints (lit_all (by decide)) HF (some ⟨w.heap.size + 1, 0, none⟩) 2 [1, 0] (by simp) n0.ints (by decide)).mono ?_
  rintro e v1 ⟨f1, g1, f2, g2, he, hZ, hY, hB⟩
  replace hb : Hid (Below w.heap.size w v1) := hb.out.trans (hB.mono hb.out.size)
  replace p1 := p1.go hB
  replace p1_0 := p1.c0
  replace p1_1 := p1.c1
  replace p1_2 := p1.c2
  clear hB
  clear n0 n1 n2
  rw [fact_v, fact_s] at he
  rw [fact_v] at hY
  rw [fact_s] at hZ
  subst he
  replace hb : Hid (Below w.heap.size w (v1.alloc (.cells #[.bool false, .slice f1 2 g1, .slice f2 4 g2] 32))) := hb.out.alloc hb.out.size _
  replace p1 := p1.al (.cells #[.bool false, .slice f1 2 g1, .slice f2 4 g2] 32)
  replace hY := hY.al (.cells #[.bool false, .slice f1 2 g1, .slice f2 4 g2] 32)
  replace hZ := hZ.al (.cells #[.bool false, .slice f1 2 g1, .slice f2 4 g2] 32)
  replace p1_0 := p1.c0
  replace p1_1 := p1.c1
  replace p1_2 := p1.c2
  replace hb : Hid (Below w.heap.size w ((v1.alloc (.cells #[.bool false, .slice f1 2 g1, .slice f2 4 g2] 32)).alloc (.cells #[.int .i64 1, .int .i64 3, .int .i64 2, .int .i64 4] 3))) := hb.out.alloc hb.out.size _
  replace p1 := p1.al (.cells #[.int .i64 1, .int .i64 3, .int .i64 2, .int .i64 4] 3)
  replace hY := hY.al (.cells #[.int .i64 1, .int .i64 3, .int .i64 2, .int .i64 4] 3)
  replace hZ := hZ.al (.cells #[.int .i64 1, .int .i64 3, .int .i64 2, .int .i64 4] 3)
  replace p1_0 := p1.c0
  replace p1_1 := p1.c1
  replace p1_2 := p1.c2
  have nl := new_lit (v1.alloc (.cells #[.bool false, .slice f1 2 g1, .slice f2 4 g2] 32)) 3 [1, 3, 2, 4]
  simp only [World.size_alloc] at nl
  go_wp2_with fail
  refine (ints_any f2 g2 [1, 3, 2, 4] (some ⟨v1.heap.size + 1, 0, none⟩) 4 [1, 3, 2, 4] (by simp) _ _ hY.ints nl.ints).mono ?_
  rintro e v2 ⟨rfl, hB⟩
  replace hb : Hid (Below w.heap.size w v2) := hb.out.trans (hB.mono hb.out.size)
  replace p1 := p1.go hB
  replace hY := hY.go hB
  replace hZ := hZ.go hB
  replace p1_0 := p1.c0
  replace p1_1 := p1.c1
  replace p1_2 := p1.c2
  clear hB
  clear nl hY hZ
  rw [eqB_true rfl]
  go_wp2_with fail
  refine (fl_ok c1 sa1 sc1 sz1 da1 dc1 dz1 _ x1 x2 ((HI.out.1.below hb.out).mono hb.out.size) ((HI.out.2.1.below hb.out).mono hb.out.size) HI.out.2.2 HF pa pc p hpl ((HP.out.1.below hb.out).mono hb.out.size) F1.out).mono ?_
  rintro e v3 ⟨xa1, xc1, ya1, yc1, rfl, hX1, hY1, hB⟩
  replace hb : Hid (Below w.heap.size w v3) := hb.out.trans (hB.mono hb.out.size)
  replace p1 := p1.go hB
  replace p1_0 := p1.c0
  replace p1_1 := p1.c1
  replace p1_2 := p1.c2
  clear hB
  replace hb : Hid (Below w.heap.size w (v3.alloc (.cells #[.bool c1, .slice xa1 (axVal sz1 p).length xc1, .slice ya1 (flG p sz1 dz1).length yc1] 32))) := hb.out.alloc hb.out.size _
  replace p1 := p1.al (.cells #[.bool c1, .slice xa1 (axVal sz1 p).length xc1, .slice ya1 (flG p sz1 dz1).length yc1] 32)
  replace hX1 := hX1.al (.cells #[.bool c1, .slice xa1 (axVal sz1 p).length xc1, .slice ya1 (flG p sz1 dz1).length yc1] 32)
  replace hY1 := hY1.al (.cells #[.bool c1, .slice xa1 (axVal sz1 p).length xc1, .slice ya1 (flG p sz1 dz1).length yc1] 32)
  replace p1_0 := p1.c0
  replace p1_1 := p1.c1
  replace p1_2 := p1.c2
  have b1 := Abx.new v3 (.bool c1) (.slice xa1 (axVal sz1 p).length xc1) (.slice ya1 (flG p sz1 dz1).length yc1)
  have b1_0 := b1.c0
  have b1_1 := b1.c1
  have b1_2 := b1.c2
  go_wp2_with fail
  refine (perm_any qa qc q hql _ _ ((HP.out.2.below hb.out).mono hb.out.size)).mono ?_
  rintro e v4 ⟨rfl, hB⟩
  replace hb : Hid (Below w.heap.size w v4) := hb.out.trans (hB.mono hb.out.size)
  replace p1 := p1.go hB
  replace hX1 := hX1.go hB
  replace hY1 := hY1.go hB
  replace b1 := b1.go hB
  replace p1_0 := p1.c0
  replace p1_1 := p1.c1
  replace p1_2 := p1.c2
  replace b1_0 := b1.c0
  replace b1_1 := b1.c1
  replace b1_2 := b1.c2
  clear hB
  obtain ⟨u, hu⟩ : ∃ u, u = v4 := ⟨_, rfl⟩
  subst hu
  have HQ : Hid (Abx u w.heap.size (.bool c1) (.slice sa1 sz1.length sc1) (.slice da1 dz1.length dc1)) := p1
  have HB1 : Hid (NewC _ u xa1 (axVal sz1 p) xc1 ∧ NewInts _ u ya1 (flG p sz1 dz1)) := ⟨hX1, hY1⟩
  have HX1 : Hid (Abx u _ (.bool c1) (.slice xa1 (axVal sz1 p).length xc1) (.slice ya1 (flG p sz1 dz1).length yc1)) := b1
  rw [O1.out]
  have hp6 : p.length ≤ 6 := fl_short F1.out
  go_upto_region 9 with fail
  go_cut [13, 14] (fun s13 s14 wc => Laid u c1 sz1 dz1 s13 s14 wc)
  case first =>
    have hbW : Hid (Below u.heap.size u u.drew) := (Below.refl _ u).drew
    refine anyT_begin 8 (fun w' => w'.cell? ⟨v3.heap.size, 0, none⟩ = some (.bool c1) ∧ w'.cell? ⟨v3.heap.size, 1, none⟩ = some (.slice xa1 (axVal sz1 p).length xc1) ∧ w'.cell? ⟨v3.heap.size, 2, none⟩ = some (.slice ya1 (flG p sz1 dz1).length yc1)) 10 #[false, false, false, false, false, false, false, false, false, false] (by kernel_rfl) rfl rfl ?_
    refine anyT_put 0 52 ?rv71 #[true, false, false, false, false, false, false, false, false, false] rfl rfl rfl (by kernel_rfl) (by kernel_rfl) (by kernel_rfl) (fun _ _ _ h => h) (by decide) ?ry71 (fun _ => ⟨b1_0, b1_1, b1_2⟩) ?rm71
    case ry71 => first | exact Or.inl ⟨by rfl, by intro w'; go_simp; first | done | rfl⟩
    case rm71 =>
    simp only [Act.put, List.setIfInBounds_toArray, List.set_cons_zero, List.set_cons_succ]
    refine anyT_take 2 54 ?rv72 #[true, false, true, false, false, false, false, false, false, false] rfl rfl rfl (by kernel_rfl) (by kernel_rfl) (by kernel_rfl) (fun _ _ _ h => h) (by kernel_rfl) (by decide) (by kernel_rfl) ?ry72 (⟨b1_0, b1_1, b1_2⟩) ?rm72
    case ry72 => first | exact Or.inl ⟨by rfl, by intro w' hw'; (try dsimp only at hw'); go_simp; first | done | rfl⟩
    case rm72 =>
    simp only [Act.put, List.setIfInBounds_toArray, List.set_cons_zero, List.set_cons_succ]
    refine anyT_br2 1 7 #[true, true, true, false, false, false, false, false, false, false] #[true, false, true, false, false, false, false, true, false, false] (by kernel_rfl) rfl rfl rfl rfl (fun K hK => ?ba73) (fun K hK => ?bb73)
    case ba73 =>
      go_simp
      go_wp2_with (go_at_call 9; refine (bk_any pa pc p (by omega) (flE_zero.1 F1.out).2.2 (u.drew) ((HP.out.1.below (hb.out.trans (hbW.out.mono hb.out.size))).mono (Nat.le_trans hb.out.size hbW.out.size))).mono ?_; rintro e w2 ⟨ka, kc, bq, rfl, hbq, hK, hBc⟩)
      have hbWk : Hid (Below u.heap.size u w2) := hbW.out.trans (hBc.mono hbW.out.size)
      have pck := HX1.out.go hbWk.out
      have hKk : Hid (IsInts w2.heap.size w2 ka bq) := hK
      try (have RBk : Hid (Abx w2 u.heap.size (.bool false) (.slice none 0 0) (.slice none 0 0)) := RBl.out.go hBc)
      clear hBc hK
      refine hK.out _ _ (fun _ => ⟨pck.c0, pck.c1, pck.c2⟩) ?_
      clear hK K
      refine anyT_br2 3 7 #[true, true, true, true, false, false, false, false, false, false] #[true, true, true, false, false, false, false, true, false, false] (by kernel_rfl) rfl rfl rfl rfl (fun K hK => ?ba74) (fun K hK => ?bb74)
      case ba74 =>
        go_simp
        go_wp2_with (go_at_call 11; refine (fl_bk HF F1.out HI.out.2.2 ka kc bq hbq.out xa1 xc1 ya1 yc1 w2 hKk.out ((HB1.out.1.go hbWk.out).ints) ((HB1.out.2.go hbWk.out).ints)).mono ?_; rintro e w3 ⟨xa, xc, ya, yc, rfl, hX, hY, hBc⟩)
        have hbWkf : Hid (Below u.heap.size u w3) := hbWk.out.trans (hBc.mono hbWk.out.size)
        have pckf := HX1.out.go hbWkf.out
        first | have rB : Abx w3 u.heap.size (.bool false) (.slice none 0 0) (.slice none 0 0) := RBk.out.go hBc | have rB : Abx w3 w2.heap.size (.bool false) (.slice none 0 0) (.slice none 0 0) := RBl.out.go hBc | skip
        try (have r0 := rB.c0)
        try (have r1 := rB.c1)
        try (have r2 := rB.c2)
        try (have f0 := rB.fr 0)
        try (have f1' := rB.fr 1)
        try (have f2' := rB.fr 2)
        have hsW := hbWk.out.size
        refine hK.out _ _ (fun _ => ⟨pckf.c0, pckf.c1, pckf.c2⟩) ?_
        clear hK K
        refine anyT_put 4 51 ?rv75 #[true, true, true, true, true, false, false, false, false, false] rfl rfl rfl (by kernel_rfl) (by kernel_rfl) (by kernel_rfl) (fun _ _ _ h => h) (by decide) ?ry75 (fun _ => ⟨pckf.c0, pckf.c1, pckf.c2⟩) ?rm75
        case ry75 => first | exact Or.inl ⟨by rfl, by intro w'; go_simp; first | done | rfl⟩
        case rm75 =>
        simp only [Act.put, List.setIfInBounds_toArray, List.set_cons_zero, List.set_cons_succ]
        refine anyT_put 5 56 ?rv76 #[true, true, true, true, true, true, false, false, false, false] rfl rfl rfl (by kernel_rfl) (by kernel_rfl) (by kernel_rfl) (fun _ _ _ h => h) (by decide) ?ry76 (fun _ => ⟨pckf.c0, pckf.c1, pckf.c2⟩) ?rm76
        case ry76 => first | exact Or.inl ⟨by rfl, by intro w'; go_simp; first | done | rfl⟩
        case rm76 =>
        simp only [Act.put, List.setIfInBounds_toArray, List.set_cons_zero, List.set_cons_succ]
        refine anyT_put 6 57 ?rv77 #[true, true, true, true, true, true, true, false, false, false] rfl rfl rfl (by kernel_rfl) (by kernel_rfl) (by kernel_rfl) (fun _ _ _ h => h) (by decide) ?ry77 (fun _ => ⟨pckf.c0, pckf.c1, pckf.c2⟩) ?rm77
        case ry77 => first | exact Or.inl ⟨by rfl, by intro w'; go_simp; first | done | rfl⟩
        case rm77 =>
        simp only [Act.put, List.setIfInBounds_toArray, List.set_cons_zero, List.set_cons_succ]
        refine anyT_one 7 #[true, true, true, true, true, true, true, true, false, false] (by kernel_rfl) rfl rfl (fun K hK => ?_)
        go_simp
        have hbWkfl : Hid (Below u.heap.size u (w3.alloc (.cells #[.bool false, .slice none 0 0, .slice none 0 0] 32))) := hbWkf.out.alloc hbWkf.out.size _
        have pckfl := HX1.out.go hbWkfl.out
        have RBl : Hid (Abx (w3.alloc (.cells #[.bool false, .slice none 0 0, .slice none 0 0] 32)) w3.heap.size (.bool false) (.slice none 0 0) (.slice none 0 0)) := Abx.new _ _ _ _
        try (have hKkfl : Hid (IsInts (w3.alloc (.cells #[.bool false, .slice none 0 0, .slice none 0 0] 32)).heap.size (w3.alloc (.cells #[.bool false, .slice none 0 0, .slice none 0 0] 32)) ka bq) := (hKkf.out.below ((Below.refl _ w3).alloc (Nat.le_refl _) _)).mono (by simp))
        refine hK.out _ _ (fun _ => ⟨pckfl.c0, pckfl.c1, pckfl.c2⟩) ?_
        clear hK K
        refine anyT_one 8 #[true, true, true, true, true, true, true, true, true, false] (by kernel_rfl) rfl rfl (fun K hK => ?_)
        go_simp
        refine hK.out _ _ (fun h => absurd h (by decide)) ?_
        clear hK K
        refine anyT_one 9 #[true, true, true, true, true, true, true, true, true, true] (by kernel_rfl) rfl rfl (fun K hK => ?_)
        go_simp
        refine hK.out _ _ (fun h => absurd h (by decide)) ?_
        clear hK K
        refine anyT_done (by kernel_rfl) ?_
        go_wp2_with fail
        go_meet
        first | exact laid_a (hX.low hbWk.out.size) (hY.low hbWk.out.size) hbWkf.out | exact laid_s (by have h := hX; rw [World.size_alloc] at h; exact h) (by have h := hY; rw [World.size_alloc] at h; exact h) rB hbWk.out.size hbWklf.out | exact laid_s (B := u.heap.size) (hX.low RBk.out.lt) (hY.low RBk.out.lt) rB (Nat.le_refl _) hbWlkf.out
      case bb74 =>
        go_simp
        have hbWkl : Hid (Below u.heap.size u (w2.alloc (.cells #[.bool false, .slice none 0 0, .slice none 0 0] 32))) := hbWk.out.alloc hbWk.out.size _
        have pckl := HX1.out.go hbWkl.out
        have RBl : Hid (Abx (w2.alloc (.cells #[.bool false, .slice none 0 0, .slice none 0 0] 32)) w2.heap.size (.bool false) (.slice none 0 0) (.slice none 0 0)) := Abx.new _ _ _ _
        try (have hKkl : Hid (IsInts (w2.alloc (.cells #[.bool false, .slice none 0 0, .slice none 0 0] 32)).heap.size (w2.alloc (.cells #[.bool false, .slice none 0 0, .slice none 0 0] 32)) ka bq) := (hKk.out.below ((Below.refl _ w2).alloc (Nat.le_refl _) _)).mono (by simp))
        refine hK.out _ _ (fun _ => ⟨pckl.c0, pckl.c1, pckl.c2⟩) ?_
        clear hK K
        refine anyT_one 3 #[true, true, true, true, false, false, false, true, false, false] (by kernel_rfl) rfl rfl (fun K hK => ?_)
        go_simp
        go_wp2_with (go_at_call 11; refine (fl_bk HF F1.out HI.out.2.2 ka kc bq hbq.out xa1 xc1 ya1 yc1 (w2.alloc (.cells #[.bool false, .slice none 0 0, .slice none 0 0] 32)) hKkl.out ((HB1.out.1.go hbWkl.out).ints) ((HB1.out.2.go hbWkl.out).ints)).mono ?_; rintro e w3 ⟨xa, xc, ya, yc, rfl, hX, hY, hBc⟩)
        have hbWklf : Hid (Below u.heap.size u w3) := hbWkl.out.trans (hBc.mono hbWkl.out.size)
        have pcklf := HX1.out.go hbWklf.out
        first | have rB : Abx w3 u.heap.size (.bool false) (.slice none 0 0) (.slice none 0 0) := RBk.out.go hBc | have rB : Abx w3 w2.heap.size (.bool false) (.slice none 0 0) (.slice none 0 0) := RBl.out.go hBc | skip
        try (have r0 := rB.c0)
        try (have r1 := rB.c1)
        try (have r2 := rB.c2)
        try (have f0 := rB.fr 0)
        try (have f1' := rB.fr 1)
        try (have f2' := rB.fr 2)
        have hsW := hbWkl.out.size
        refine hK.out _ _ (fun _ => ⟨pcklf.c0, pcklf.c1, pcklf.c2⟩) ?_
        clear hK K
        refine anyT_put 4 51 ?rv82 #[true, true, true, true, true, false, false, true, false, false] rfl rfl rfl (by kernel_rfl) (by kernel_rfl) (by kernel_rfl) (fun _ _ _ h => h) (by decide) ?ry82 (fun _ => ⟨pcklf.c0, pcklf.c1, pcklf.c2⟩) ?rm82
        case ry82 => first | exact Or.inl ⟨by rfl, by intro w'; go_simp; first | done | rfl⟩
        case rm82 =>
        simp only [Act.put, List.setIfInBounds_toArray, List.set_cons_zero, List.set_cons_succ]
        refine anyT_put 5 56 ?rv83 #[true, true, true, true, true, true, false, true, false, false] rfl rfl rfl (by kernel_rfl) (by kernel_rfl) (by kernel_rfl) (fun _ _ _ h => h) (by decide) ?ry83 (fun _ => ⟨pcklf.c0, pcklf.c1, pcklf.c2⟩) ?rm83
        case ry83 => first | exact Or.inl ⟨by rfl, by intro w'; go_simp; first | done | rfl⟩
        case rm83 =>
        simp only [Act.put, List.setIfInBounds_toArray, List.set_cons_zero, List.set_cons_succ]
        refine anyT_put 6 57 ?rv84 #[true, true, true, true, true, true, true, true, false, false] rfl rfl rfl (by kernel_rfl) (by kernel_rfl) (by kernel_rfl) (fun _ _ _ h => h) (by decide) ?ry84 (fun _ => ⟨pcklf.c0, pcklf.c1, pcklf.c2⟩) ?rm84
        case ry84 => first | exact Or.inl ⟨by rfl, by intro w'; go_simp; first | done | rfl⟩
        case rm84 =>
        simp only [Act.put, List.setIfInBounds_toArray, List.set_cons_zero, List.set_cons_succ]
        refine anyT_one 8 #[true, true, true, true, true, true, true, true, true, false] (by kernel_rfl) rfl rfl (fun K hK => ?_)
        go_simp
        refine hK.out _ _ (fun h => absurd h (by decide)) ?_
        clear hK K
        refine anyT_one 9 #[true, true, true, true, true, true, true, true, true, true] (by kernel_rfl) rfl rfl (fun K hK => ?_)
        go_simp
        refine hK.out _ _ (fun h => absurd h (by decide)) ?_
        clear hK K
        refine anyT_done (by kernel_rfl) ?_
        go_wp2_with fail
        go_meet
        first | exact laid_a (hX.low hbWk.out.size) (hY.low hbWk.out.size) hbWkf.out | exact laid_s (by have h := hX; rw [World.size_alloc] at h; exact h) (by have h := hY; rw [World.size_alloc] at h; exact h) rB hbWk.out.size hbWklf.out | exact laid_s (B := u.heap.size) (hX.low RBk.out.lt) (hY.low RBk.out.lt) rB (Nat.le_refl _) hbWlkf.out
    case bb73 =>
      go_simp
      have hbWl : Hid (Below u.heap.size u ((u.drew).alloc (.cells #[.bool false, .slice none 0 0, .slice none 0 0] 32))) := hbW.out.alloc hbW.out.size _
      have pcl := HX1.out.go hbWl.out
      have RBl : Hid (Abx ((u.drew).alloc (.cells #[.bool false, .slice none 0 0, .slice none 0 0] 32)) (u.drew).heap.size (.bool false) (.slice none 0 0) (.slice none 0 0)) := Abx.new _ _ _ _
      try (have hKl : Hid (IsInts ((u.drew).alloc (.cells #[.bool false, .slice none 0 0, .slice none 0 0] 32)).heap.size ((u.drew).alloc (.cells #[.bool false, .slice none 0 0, .slice none 0 0] 32)) ka bq) := (hK.out.below ((Below.refl _ (u.drew)).alloc (Nat.le_refl _) _)).mono (by simp))
      refine hK.out _ _ (fun _ => ⟨pcl.c0, pcl.c1, pcl.c2⟩) ?_
      clear hK K
      refine anyT_one 1 #[true, true, true, false, false, false, false, true, false, false] (by kernel_rfl) rfl rfl (fun K hK => ?_)
      go_simp
      go_wp2_with (go_at_call 9; refine (bk_any pa pc p (by omega) (flE_zero.1 F1.out).2.2 ((u.drew).alloc (.cells #[.bool false, .slice none 0 0, .slice none 0 0] 32)) ((HP.out.1.below (hb.out.trans (hbWl.out.mono hb.out.size))).mono (Nat.le_trans hb.out.size hbWl.out.size))).mono ?_; rintro e w2 ⟨ka, kc, bq, rfl, hbq, hK, hBc⟩)
      have hbWlk : Hid (Below u.heap.size u w2) := hbWl.out.trans (hBc.mono hbWl.out.size)
      have pclk := HX1.out.go hbWlk.out
      have hKlk : Hid (IsInts w2.heap.size w2 ka bq) := hK
      try (have RBk : Hid (Abx w2 u.heap.size (.bool false) (.slice none 0 0) (.slice none 0 0)) := RBl.out.go hBc)
      clear hBc hK
      refine hK.out _ _ (fun _ => ⟨pclk.c0, pclk.c1, pclk.c2⟩) ?_
      clear hK K
      refine anyT_one 3 #[true, true, true, true, false, false, false, true, false, false] (by kernel_rfl) rfl rfl (fun K hK => ?_)
      go_simp
      go_wp2_with (go_at_call 11; refine (fl_bk HF F1.out HI.out.2.2 ka kc bq hbq.out xa1 xc1 ya1 yc1 w2 hKlk.out ((HB1.out.1.go hbWlk.out).ints) ((HB1.out.2.go hbWlk.out).ints)).mono ?_; rintro e w3 ⟨xa, xc, ya, yc, rfl, hX, hY, hBc⟩)
      have hbWlkf : Hid (Below u.heap.size u w3) := hbWlk.out.trans (hBc.mono hbWlk.out.size)
      have pclkf := HX1.out.go hbWlkf.out
      first | have rB : Abx w3 u.heap.size (.bool false) (.slice none 0 0) (.slice none 0 0) := RBk.out.go hBc | have rB : Abx w3 w2.heap.size (.bool false) (.slice none 0 0) (.slice none 0 0) := RBl.out.go hBc | skip
      try (have r0 := rB.c0)
      try (have r1 := rB.c1)
      try (have r2 := rB.c2)
      try (have f0 := rB.fr 0)
      try (have f1' := rB.fr 1)
      try (have f2' := rB.fr 2)
      have hsW := hbWlk.out.size
      refine hK.out _ _ (fun _ => ⟨pclkf.c0, pclkf.c1, pclkf.c2⟩) ?_
      clear hK K
      refine anyT_put 4 51 ?rv89 #[true, true, true, true, true, false, false, true, false, false] rfl rfl rfl (by kernel_rfl) (by kernel_rfl) (by kernel_rfl) (fun _ _ _ h => h) (by decide) ?ry89 (fun _ => ⟨pclkf.c0, pclkf.c1, pclkf.c2⟩) ?rm89
      case ry89 => first | exact Or.inl ⟨by rfl, by intro w'; go_simp; first | done | rfl⟩
      case rm89 =>
      simp only [Act.put, List.setIfInBounds_toArray, List.set_cons_zero, List.set_cons_succ]
      refine anyT_put 5 56 ?rv90 #[true, true, true, true, true, true, false, true, false, false] rfl rfl rfl (by kernel_rfl) (by kernel_rfl) (by kernel_rfl) (fun _ _ _ h => h) (by decide) ?ry90 (fun _ => ⟨pclkf.c0, pclkf.c1, pclkf.c2⟩) ?rm90
      case ry90 => first | exact Or.inl ⟨by rfl, by intro w'; go_simp; first | done | rfl⟩
      case rm90 =>
      simp only [Act.put, List.setIfInBounds_toArray, List.set_cons_zero, List.set_cons_succ]
      refine anyT_put 6 57 ?rv91 #[true, true, true, true, true, true, true, true, false, false] rfl rfl rfl (by kernel_rfl) (by kernel_rfl) (by kernel_rfl) (fun _ _ _ h => h) (by decide) ?ry91 (fun _ => ⟨pclkf.c0, pclkf.c1, pclkf.c2⟩) ?rm91
      case ry91 => first | exact Or.inl ⟨by rfl, by intro w'; go_simp; first | done | rfl⟩
      case rm91 =>
      simp only [Act.put, List.setIfInBounds_toArray, List.set_cons_zero, List.set_cons_succ]
      refine anyT_one 8 #[true, true, true, true, true, true, true, true, true, false] (by kernel_rfl) rfl rfl (fun K hK => ?_)
      go_simp
      refine hK.out _ _ (fun h => absurd h (by decide)) ?_
      clear hK K
      refine anyT_one 9 #[true, true, true, true, true, true, true, true, true, true] (by kernel_rfl) rfl rfl (fun K hK => ?_)
      go_simp
      refine hK.out _ _ (fun h => absurd h (by decide)) ?_
      clear hK K
      refine anyT_done (by kernel_rfl) ?_
      go_wp2_with fail
      go_meet
      first | exact laid_a (hX.low hbWk.out.size) (hY.low hbWk.out.size) hbWkf.out | exact laid_s (by have h := hX; rw [World.size_alloc] at h; exact h) (by have h := hY; rw [World.size_alloc] at h; exact h) rB hbWk.out.size hbWklf.out | exact laid_s (B := u.heap.size) (hX.low RBk.out.lt) (hY.low RBk.out.lt) rB (Nat.le_refl _) hbWlkf.out
  case rest =>
    obtain ⟨B, xa, xc, ya, yc, rfl, rfl, hL, hX, hY, hB⟩ := hcut
    have hb9 : Hid (Below w.heap.size w wc) := hb.out.trans (hB.mono hb.out.size)
    have P9 := HQ.out.go hB
    have q0 := P9.c0
    have q1 := P9.c1
    have q2 := P9.c2
    have l0 := hL.c0
    have l1 := hL.c1
    have l2 := hL.c2
    have X9 : Hid (Abx wc v3.heap.size (.bool c1) (.slice xa1 (axVal sz1 p).length xc1) (.slice ya1 (flG p sz1 dz1).length yc1)) := HX1.out.go hB
    have N9 : Hid (NewC _ wc xa1 (axVal sz1 p) xc1 ∧ NewInts _ wc ya1 (flG p sz1 dz1)) := ⟨HB1.out.1.go hB, HB1.out.2.go hB⟩
    go_wp2_with fail
    refine (alike_eq c1 xa xc sz1 ya yc dz1 sa1 sc1 sz1 da1 dc1 dz1 rfl rfl x1 x2 wc hX.ints hY.ints ((HI.out.1.below hb9.out).mono hb9.out.size) ((HI.out.2.1.below hb9.out).mono hb9.out.size)).mono ?_
    rintro e w6 ⟨rfl, hBz⟩
    have hb6 : Hid (Below w.heap.size w w6) := hb9.out.trans (hBz.mono hb9.out.size)
    have P6 : Hid (Abx w6 w.heap.size (.bool c1) (.slice sa1 sz1.length sc1) (.slice da1 dz1.length dc1)) := P9.go hBz
    have X6 : Hid (Abx w6 v3.heap.size (.bool c1) (.slice xa1 (axVal sz1 p).length xc1) (.slice ya1 (flG p sz1 dz1).length yc1)) := X9.out.go hBz
    have N6 : Hid (NewC _ w6 xa1 (axVal sz1 p) xc1 ∧ NewInts _ w6 ya1 (flG p sz1 dz1)) := ⟨N9.out.1.go hBz, N9.out.2.go hBz⟩
    clear hBz hL hX hY hB P9 q0 q1 q2 l0 l1 l2
    go_wp2_with fail
    go_ret
    exact ⟨rfl, hb6.out⟩
set_option maxRecDepth 100000 in
set_option maxHeartbeats 8000000 in
theorem group_len (HF : CFl) (pa : Option Addr) (pc : Nat) (p : List Int) (qa : Option Addr) (qc : Nat) (q : List Int) (hpl : p.length ≤ 9223372036854775807) (hql : q.length ≤ 9223372036854775807) (c1 : Bool) (sa1 : Option Addr) (sc1 : Nat) (sz1 : List Int) (da1 : Option Addr) (dc1 : Nat) (dz1 : List Int) (w : World) (hp : IsInts w.heap.size w pa p) (hq : IsInts w.heap.size w qa q) (w9 : IsArrC w sa1 sz1 sc1 da1 dz1) (F1 : Hid (flE p c1 sz1 dz1 = 0)) (O1 : Hid (ordB q = true)) (L1 : Hid (q.length ≠ p.length)) :
    Calls Try.prog 4 #[.slice pa p.length pc, .slice qa q.length qc, .agg #[.bool c1, .slice sa1 sz1.length sc1, .slice da1 dz1.length dc1]] w fun e w' => e = .returned (.bool true) ∧ Below w.heap.size w w' := by
  have HP : Hid (IsInts w.heap.size w pa p ∧ IsInts w.heap.size w qa q) := ⟨hp, hq⟩
  clear hp hq
  obtain ⟨x1, x2, x3, x4, s64, T⟩ := w9
  have HI : Hid (IsC w.heap.size w sa1 sz1 sc1 ∧ IsInts w.heap.size w da1 dz1 ∧ ∀ j, In64 (nth dz1 j)) := ⟨x3, x4, T⟩
  clear x3 x4 T s64
  have p1 : Abx (w.alloc (.cells #[.bool c1, .slice sa1 sz1.length sc1, .slice da1 dz1.length dc1] 32)) w.heap.size (.bool c1) (.slice sa1 sz1.length sc1) (.slice da1 dz1.length dc1) := Abx.new w _ _ _
  have hb : Hid (Below w.heap.size w (w.alloc (.cells #[.bool c1, .slice sa1 sz1.length sc1, .slice da1 dz1.length dc1] 32))) := (Below.refl _ w).alloc (Nat.le_refl _) _
  have p1_0 := p1.c0
  have p1_1 := p1.c1
  have p1_2 := p1.c2
  have n0 : NewInts (w.alloc (.cells #[.bool c1, .slice sa1 sz1.length sc1, .slice da1 dz1.length dc1] 32)).heap.size ((((w.alloc (.cells #[.bool c1, .slice sa1 sz1.length sc1, .slice da1 dz1.length dc1] 32)).alloc (.cells #[.int .i64 1, .int .i64 0] 3)).alloc (.cells #[.int .i64 2, .int .i64 2] 3)).alloc (.cells #[.int .i64 1, .int .i64 2, .int .i64 3, .int .i64 4] 3)) (some ⟨(w.alloc (.cells #[.bool c1, .slice sa1 sz1.length sc1, .slice da1 dz1.length dc1] 32)).heap.size, 0, none⟩) [1, 0] := (((new_lit (w.alloc (.cells #[.bool c1, .slice sa1 sz1.length sc1, .slice da1 dz1.length dc1] 32)) 3 [1, 0]).al (.cells #[.int .i64 2, .int .i64 2] 3)).al (.cells #[.int .i64 1, .int .i64 2, .int .i64 3, .int .i64 4] 3))
  have n1 : NewInts ((w.alloc (.cells #[.bool c1, .slice sa1 sz1.length sc1, .slice da1 dz1.length dc1] 32)).alloc (.cells #[.int .i64 1, .int .i64 0] 3)).heap.size ((((w.alloc (.cells #[.bool c1, .slice sa1 sz1.length sc1, .slice da1 dz1.length dc1] 32)).alloc (.cells #[.int .i64 1, .int .i64 0] 3)).alloc (.cells #[.int .i64 2, .int .i64 2] 3)).alloc (.cells #[.int .i64 1, .int .i64 2, .int .i64 3, .int .i64 4] 3)) (some ⟨((w.alloc (.cells #[.bool c1, .slice sa1 sz1.length sc1, .slice da1 dz1.length dc1] 32)).alloc (.cells #[.int .i64 1, .int .i64 0] 3)).heap.size, 0, none⟩) [2, 2] := ((new_lit ((w.alloc (.cells #[.bool c1, .slice sa1 sz1.length sc1, .slice da1 dz1.length dc1] 32)).alloc (.cells #[.int .i64 1, .int .i64 0] 3)) 3 [2, 2]).al (.cells #[.int .i64 1, .int .i64 2, .int .i64 3, .int .i64 4] 3))
  have n2 : NewInts (((w.alloc (.cells #[.bool c1, .slice sa1 sz1.length sc1, .slice da1 dz1.length dc1] 32)).alloc (.cells #[.int .i64 1, .int .i64 0] 3)).alloc (.cells #[.int .i64 2, .int .i64 2] 3)).heap.size ((((w.alloc (.cells #[.bool c1, .slice sa1 sz1.length sc1, .slice da1 dz1.length dc1] 32)).alloc (.cells #[.int .i64 1, .int .i64 0] 3)).alloc (.cells #[.int .i64 2, .int .i64 2] 3)).alloc (.cells #[.int .i64 1, .int .i64 2, .int .i64 3, .int .i64 4] 3)) (some ⟨(((w.alloc (.cells #[.bool c1, .slice sa1 sz1.length sc1, .slice da1 dz1.length dc1] 32)).alloc (.cells #[.int .i64 1, .int .i64 0] 3)).alloc (.cells #[.int .i64 2, .int .i64 2] 3)).heap.size, 0, none⟩) [1, 2, 3, 4] := (new_lit (((w.alloc (.cells #[.bool c1, .slice sa1 sz1.length sc1, .slice da1 dz1.length dc1] 32)).alloc (.cells #[.int .i64 1, .int .i64 0] 3)).alloc (.cells #[.int .i64 2, .int .i64 2] 3)) 3 [1, 2, 3, 4])
  simp only [World.size_alloc] at n0 n1 n2
  replace hb : Hid (Below w.heap.size w ((w.alloc (.cells #[.bool c1, .slice sa1 sz1.length sc1, .slice da1 dz1.length dc1] 32)).alloc (.cells #[.int .i64 1, .int .i64 0] 3))) := hb.out.alloc hb.out.size _
  replace p1 := p1.al (.cells #[.int .i64 1, .int .i64 0] 3)
  replace p1_0 := p1.c0
  replace p1_1 := p1.c1
  replace p1_2 := p1.c2
  replace hb : Hid (Below w.heap.size w (((w.alloc (.cells #[.bool c1, .slice sa1 sz1.length sc1, .slice da1 dz1.length dc1] 32)).alloc (.cells #[.int .i64 1, .int .i64 0] 3)).alloc (.cells #[.int .i64 2, .int .i64 2] 3))) := hb.out.alloc hb.out.size _
  replace p1 := p1.al (.cells #[.int .i64 2, .int .i64 2] 3)
  replace p1_0 := p1.c0
  replace p1_1 := p1.c1
  replace p1_2 := p1.c2
  replace hb : Hid (Below w.heap.size w ((((w.alloc (.cells #[.bool c1, .slice sa1 sz1.length sc1, .slice da1 dz1.length dc1] 32)).alloc (.cells #[.int .i64 1, .int .i64 0] 3)).alloc (.cells #[.int .i64 2, .int .i64 2] 3)).alloc (.cells #[.int .i64 1, .int .i64 2, .int .i64 3, .int .i64 4] 3))) := hb.out.alloc hb.out.size _
  replace p1 := p1.al (.cells #[.int .i64 1, .int .i64 2, .int .i64 3, .int .i64 4] 3)
  replace p1_0 := p1.c0
  replace p1_1 := p1.c1
  replace p1_2 := p1.c2
  go_enter Try.func4, Try.ntmps4
  go_wp2_with fail
  refine (fl_ok false (some ⟨w.heap.size + 1 + 1, 0, none⟩) 2 [2, 2] (some ⟨w.heap.size + 1 + 1 + 1, 0, none⟩) 4 [1, 2, 3, 4] _ (by simp) (by simp) (n1.ints.c (by decide)) n2.ints (lit_all (by decide)) HF (some ⟨w.heap.size + 1, 0, none⟩) 2 [1, 0] (by simp) n0.ints (by decide)).mono ?_
  rintro e v1 ⟨f1, g1, f2, g2, he, hZ, hY, hB⟩
  replace hb : Hid (Below w.heap.size w v1) := hb.out.trans (hB.mono hb.out.size)
  replace p1 := p1.go hB
  replace p1_0 := p1.c0
  replace p1_1 := p1.c1
  replace p1_2 := p1.c2
  clear hB
  clear n0 n1 n2
  rw [fact_v, fact_s] at he
  rw [fact_v] at hY
  rw [fact_s] at hZ
  subst he
  replace hb : Hid (Below w.heap.size w (v1.alloc (.cells #[.bool false, .slice f1 2 g1, .slice f2 4 g2] 32))) := hb.out.alloc hb.out.size _
  replace p1 := p1.al (.cells #[.bool false, .slice f1 2 g1, .slice f2 4 g2] 32)
  replace hY := hY.al (.cells #[.bool false, .slice f1 2 g1, .slice f2 4 g2] 32)
  replace hZ := hZ.al (.cells #[.bool false, .slice f1 2 g1, .slice f2 4 g2] 32)
  replace p1_0 := p1.c0
  replace p1_1 := p1.c1
  replace p1_2 := p1.c2
  replace hb : Hid (Below w.heap.size w ((v1.alloc (.cells #[.bool false, .slice f1 2 g1, .slice f2 4 g2] 32)).alloc (.cells #[.int .i64 1, .int .i64 3, .int .i64 2, .int .i64 4] 3))) := hb.out.alloc hb.out.size _
  replace p1 := p1.al (.cells #[.int .i64 1, .int .i64 3, .int .i64 2, .int .i64 4] 3)
  replace hY := hY.al (.cells #[.int .i64 1, .int .i64 3, .int .i64 2, .int .i64 4] 3)
  replace hZ := hZ.al (.cells #[.int .i64 1, .int .i64 3, .int .i64 2, .int .i64 4] 3)
  replace p1_0 := p1.c0
  replace p1_1 := p1.c1
  replace p1_2 := p1.c2
  have nl := new_lit (v1.alloc (.cells #[.bool false, .slice f1 2 g1, .slice f2 4 g2] 32)) 3 [1, 3, 2, 4]
  simp only [World.size_alloc] at nl
  go_wp2_with fail
  refine (ints_any f2 g2 [1, 3, 2, 4] (some ⟨v1.heap.size + 1, 0, none⟩) 4 [1, 3, 2, 4] (by simp) _ _ hY.ints nl.ints).mono ?_
  rintro e v2 ⟨rfl, hB⟩
  replace hb : Hid (Below w.heap.size w v2) := hb.out.trans (hB.mono hb.out.size)
  replace p1 := p1.go hB
  replace hY := hY.go hB
  replace hZ := hZ.go hB
  replace p1_0 := p1.c0
  replace p1_1 := p1.c1
  replace p1_2 := p1.c2
  clear hB
  clear nl hY hZ
  rw [eqB_true rfl]
  go_wp2_with fail
  refine (fl_ok c1 sa1 sc1 sz1 da1 dc1 dz1 _ x1 x2 ((HI.out.1.below hb.out).mono hb.out.size) ((HI.out.2.1.below hb.out).mono hb.out.size) HI.out.2.2 HF pa pc p hpl ((HP.out.1.below hb.out).mono hb.out.size) F1.out).mono ?_
  rintro e v3 ⟨xa1, xc1, ya1, yc1, rfl, hX1, hY1, hB⟩
  replace hb : Hid (Below w.heap.size w v3) := hb.out.trans (hB.mono hb.out.size)
  replace p1 := p1.go hB
  replace p1_0 := p1.c0
  replace p1_1 := p1.c1
  replace p1_2 := p1.c2
  clear hB
  replace hb : Hid (Below w.heap.size w (v3.alloc (.cells #[.bool c1, .slice xa1 (axVal sz1 p).length xc1, .slice ya1 (flG p sz1 dz1).length yc1] 32))) := hb.out.alloc hb.out.size _
  replace p1 := p1.al (.cells #[.bool c1, .slice xa1 (axVal sz1 p).length xc1, .slice ya1 (flG p sz1 dz1).length yc1] 32)
  replace hX1 := hX1.al (.cells #[.bool c1, .slice xa1 (axVal sz1 p).length xc1, .slice ya1 (flG p sz1 dz1).length yc1] 32)
  replace hY1 := hY1.al (.cells #[.bool c1, .slice xa1 (axVal sz1 p).length xc1, .slice ya1 (flG p sz1 dz1).length yc1] 32)
  replace p1_0 := p1.c0
  replace p1_1 := p1.c1
  replace p1_2 := p1.c2
  have b1 := Abx.new v3 (.bool c1) (.slice xa1 (axVal sz1 p).length xc1) (.slice ya1 (flG p sz1 dz1).length yc1)
  have b1_0 := b1.c0
  have b1_1 := b1.c1
  have b1_2 := b1.c2
  go_wp2_with fail
  refine (perm_any qa qc q hql _ _ ((HP.out.2.below hb.out).mono hb.out.size)).mono ?_
  rintro e v4 ⟨rfl, hB⟩
  replace hb : Hid (Below w.heap.size w v4) := hb.out.trans (hB.mono hb.out.size)
  replace p1 := p1.go hB
  replace hX1 := hX1.go hB
  replace hY1 := hY1.go hB
  replace b1 := b1.go hB
  replace p1_0 := p1.c0
  replace p1_1 := p1.c1
  replace p1_2 := p1.c2
  replace b1_0 := b1.c0
  replace b1_1 := b1.c1
  replace b1_2 := b1.c2
  clear hB
  obtain ⟨u, hu⟩ : ∃ u, u = v4 := ⟨_, rfl⟩
  subst hu
  have HQ : Hid (Abx u w.heap.size (.bool c1) (.slice sa1 sz1.length sc1) (.slice da1 dz1.length dc1)) := p1
  have HB1 : Hid (NewC _ u xa1 (axVal sz1 p) xc1 ∧ NewInts _ u ya1 (flG p sz1 dz1)) := ⟨hX1, hY1⟩
  have HX1 : Hid (Abx u _ (.bool c1) (.slice xa1 (axVal sz1 p).length xc1) (.slice ya1 (flG p sz1 dz1).length yc1)) := b1
  rw [O1.out]
  have hp6 : p.length ≤ 6 := fl_short F1.out
  go_upto_region 9 with fail
  go_cut [13, 14] (fun s13 s14 wc => Laid u c1 sz1 dz1 s13 s14 wc)
  case first =>
    have hbW : Hid (Below u.heap.size u u.drew) := (Below.refl _ u).drew
    refine anyT_begin 8 (fun w' => w'.cell? ⟨v3.heap.size, 0, none⟩ = some (.bool c1) ∧ w'.cell? ⟨v3.heap.size, 1, none⟩ = some (.slice xa1 (axVal sz1 p).length xc1) ∧ w'.cell? ⟨v3.heap.size, 2, none⟩ = some (.slice ya1 (flG p sz1 dz1).length yc1)) 10 #[false, false, false, false, false, false, false, false, false, false] (by kernel_rfl) rfl rfl ?_
    refine anyT_put 0 52 ?rv94 #[true, false, false, false, false, false, false, false, false, false] rfl rfl rfl (by kernel_rfl) (by kernel_rfl) (by kernel_rfl) (fun _ _ _ h => h) (by decide) ?ry94 (fun _ => ⟨b1_0, b1_1, b1_2⟩) ?rm94
    case ry94 => first | exact Or.inl ⟨by rfl, by intro w'; go_simp; first | done | rfl⟩
    case rm94 =>
    simp only [Act.put, List.setIfInBounds_toArray, List.set_cons_zero, List.set_cons_succ]
    refine anyT_take 2 54 ?rv95 #[true, false, true, false, false, false, false, false, false, false] rfl rfl rfl (by kernel_rfl) (by kernel_rfl) (by kernel_rfl) (fun _ _ _ h => h) (by kernel_rfl) (by decide) (by kernel_rfl) ?ry95 (⟨b1_0, b1_1, b1_2⟩) ?rm95
    case ry95 => first | exact Or.inl ⟨by rfl, by intro w' hw'; (try dsimp only at hw'); go_simp; first | done | rfl⟩
    case rm95 =>
    simp only [Act.put, List.setIfInBounds_toArray, List.set_cons_zero, List.set_cons_succ]
    refine anyT_br2 1 7 #[true, true, true, false, false, false, false, false, false, false] #[true, false, true, false, false, false, false, true, false, false] (by kernel_rfl) rfl rfl rfl rfl (fun K hK => ?ba96) (fun K hK => ?bb96)
    case ba96 =>
      go_simp
      go_wp2_with (go_at_call 9; refine (bk_any pa pc p (by omega) (flE_zero.1 F1.out).2.2 (u.drew) ((HP.out.1.below (hb.out.trans (hbW.out.mono hb.out.size))).mono (Nat.le_trans hb.out.size hbW.out.size))).mono ?_; rintro e w2 ⟨ka, kc, bq, rfl, hbq, hK, hBc⟩)
      have hbWk : Hid (Below u.heap.size u w2) := hbW.out.trans (hBc.mono hbW.out.size)
      have pck := HX1.out.go hbWk.out
      have hKk : Hid (IsInts w2.heap.size w2 ka bq) := hK
      try (have RBk : Hid (Abx w2 u.heap.size (.bool false) (.slice none 0 0) (.slice none 0 0)) := RBl.out.go hBc)
      clear hBc hK
      refine hK.out _ _ (fun _ => ⟨pck.c0, pck.c1, pck.c2⟩) ?_
      clear hK K
      refine anyT_br2 3 7 #[true, true, true, true, false, false, false, false, false, false] #[true, true, true, false, false, false, false, true, false, false] (by kernel_rfl) rfl rfl rfl rfl (fun K hK => ?ba97) (fun K hK => ?bb97)
      case ba97 =>
        go_simp
        go_wp2_with (go_at_call 11; refine (fl_bk HF F1.out HI.out.2.2 ka kc bq hbq.out xa1 xc1 ya1 yc1 w2 hKk.out ((HB1.out.1.go hbWk.out).ints) ((HB1.out.2.go hbWk.out).ints)).mono ?_; rintro e w3 ⟨xa, xc, ya, yc, rfl, hX, hY, hBc⟩)
        have hbWkf : Hid (Below u.heap.size u w3) := hbWk.out.trans (hBc.mono hbWk.out.size)
        have pckf := HX1.out.go hbWkf.out
        first | have rB : Abx w3 u.heap.size (.bool false) (.slice none 0 0) (.slice none 0 0) := RBk.out.go hBc | have rB : Abx w3 w2.heap.size (.bool false) (.slice none 0 0) (.slice none 0 0) := RBl.out.go hBc | skip
        try (have r0 := rB.c0)
        try (have r1 := rB.c1)
        try (have r2 := rB.c2)
        try (have f0 := rB.fr 0)
        try (have f1' := rB.fr 1)
        try (have f2' := rB.fr 2)
        have hsW := hbWk.out.size
        refine hK.out _ _ (fun _ => ⟨pckf.c0, pckf.c1, pckf.c2⟩) ?_
        clear hK K
        refine anyT_put 4 51 ?rv98 #[true, true, true, true, true, false, false, false, false, false] rfl rfl rfl (by kernel_rfl) (by kernel_rfl) (by kernel_rfl) (fun _ _ _ h => h) (by decide) ?ry98 (fun _ => ⟨pckf.c0, pckf.c1, pckf.c2⟩) ?rm98
        case ry98 => first | exact Or.inl ⟨by rfl, by intro w'; go_simp; first | done | rfl⟩
        case rm98 =>
        simp only [Act.put, List.setIfInBounds_toArray, List.set_cons_zero, List.set_cons_succ]
        refine anyT_put 5 56 ?rv99 #[true, true, true, true, true, true, false, false, false, false] rfl rfl rfl (by kernel_rfl) (by kernel_rfl) (by kernel_rfl) (fun _ _ _ h => h) (by decide) ?ry99 (fun _ => ⟨pckf.c0, pckf.c1, pckf.c2⟩) ?rm99
        case ry99 => first | exact Or.inl ⟨by rfl, by intro w'; go_simp; first | done | rfl⟩
        case rm99 =>
        simp only [Act.put, List.setIfInBounds_toArray, List.set_cons_zero, List.set_cons_succ]
        refine anyT_put 6 57 ?rv100 #[true, true, true, true, true, true, true, false, false, false] rfl rfl rfl (by kernel_rfl) (by kernel_rfl) (by kernel_rfl) (fun _ _ _ h => h) (by decide) ?ry100 (fun _ => ⟨pckf.c0, pckf.c1, pckf.c2⟩) ?rm100
        case ry100 => first | exact Or.inl ⟨by rfl, by intro w'; go_simp; first | done | rfl⟩
        case rm100 =>
        simp only [Act.put, List.setIfInBounds_toArray, List.set_cons_zero, List.set_cons_succ]
        refine anyT_one 7 #[true, true, true, true, true, true, true, true, false, false] (by kernel_rfl) rfl rfl (fun K hK => ?_)
        go_simp
        have hbWkfl : Hid (Below u.heap.size u (w3.alloc (.cells #[.bool false, .slice none 0 0, .slice none 0 0] 32))) := hbWkf.out.alloc hbWkf.out.size _
        have pckfl := HX1.out.go hbWkfl.out
        have RBl : Hid (Abx (w3.alloc (.cells #[.bool false, .slice none 0 0, .slice none 0 0] 32)) w3.heap.size (.bool false) (.slice none 0 0) (.slice none 0 0)) := Abx.new _ _ _ _
        try (have hKkfl : Hid (IsInts (w3.alloc (.cells #[.bool false, .slice none 0 0, .slice none 0 0] 32)).heap.size (w3.alloc (.cells #[.bool false, .slice none 0 0, .slice none 0 0] 32)) ka bq) := (hKkf.out.below ((Below.refl _ w3).alloc (Nat.le_refl _) _)).mono (by simp))
        refine hK.out _ _ (fun _ => ⟨pckfl.c0, pckfl.c1, pckfl.c2⟩) ?_
        clear hK K
        refine anyT_one 8 #[true, true, true, true, true, true, true, true, true, false] (by kernel_rfl) rfl rfl (fun K hK => ?_)
        go_simp
        refine hK.out _ _ (fun h => absurd h (by decide)) ?_
        clear hK K
        refine anyT_one 9 #[true, true, true, true, true, true, true, true, true, true] (by kernel_rfl) rfl rfl (fun K hK => ?_)
        go_simp
        refine hK.out _ _ (fun h => absurd h (by decide)) ?_
        clear hK K
        refine anyT_done (by kernel_rfl) ?_
        go_wp2_with fail
        go_meet
        first | exact laid_a (hX.low hbWk.out.size) (hY.low hbWk.out.size) hbWkf.out | exact laid_s (by have h := hX; rw [World.size_alloc] at h; exact h) (by have h := hY; rw [World.size_alloc] at h; exact h) rB hbWk.out.size hbWklf.out | exact laid_s (B := u.heap.size) (hX.low RBk.out.lt) (hY.low RBk.out.lt) rB (Nat.le_refl _) hbWlkf.out
      case bb97 =>
        go_simp
        have hbWkl : Hid (Below u.heap.size u (w2.alloc (.cells #[.bool false, .slice none 0 0, .slice none 0 0] 32))) := hbWk.out.alloc hbWk.out.size _
        have pckl := HX1.out.go hbWkl.out
        have RBl : Hid (Abx (w2.alloc (.cells #[.bool false, .slice none 0 0, .slice none 0 0] 32)) w2.heap.size (.bool false) (.slice none 0 0) (.slice none 0 0)) := Abx.new _ _ _ _
        try (have hKkl : Hid (IsInts (w2.alloc (.cells #[.bool false, .slice none 0 0, .slice none 0 0] 32)).heap.size (w2.alloc (.cells #[.bool false, .slice none 0 0, .slice none 0 0] 32)) ka bq) := (hKk.out.below ((Below.refl _ w2).alloc (Nat.le_refl _) _)).mono (by simp))
        refine hK.out _ _ (fun _ => ⟨pckl.c0, pckl.c1, pckl.c2⟩) ?_
        clear hK K
        refine anyT_one 3 #[true, true, true, true, false, false, false, true, false, false] (by kernel_rfl) rfl rfl (fun K hK => ?_)
        go_simp
        go_wp2_with (go_at_call 11; refine (fl_bk HF F1.out HI.out.2.2 ka kc bq hbq.out xa1 xc1 ya1 yc1 (w2.alloc (.cells #[.bool false, .slice none 0 0, .slice none 0 0] 32)) hKkl.out ((HB1.out.1.go hbWkl.out).ints) ((HB1.out.2.go hbWkl.out).ints)).mono ?_; rintro e w3 ⟨xa, xc, ya, yc, rfl, hX, hY, hBc⟩)
        have hbWklf : Hid (Below u.heap.size u w3) := hbWkl.out.trans (hBc.mono hbWkl.out.size)
        have pcklf := HX1.out.go hbWklf.out
        first | have rB : Abx w3 u.heap.size (.bool false) (.slice none 0 0) (.slice none 0 0) := RBk.out.go hBc | have rB : Abx w3 w2.heap.size (.bool false) (.slice none 0 0) (.slice none 0 0) := RBl.out.go hBc | skip
        try (have r0 := rB.c0)
        try (have r1 := rB.c1)
        try (have r2 := rB.c2)
        try (have f0 := rB.fr 0)
        try (have f1' := rB.fr 1)
        try (have f2' := rB.fr 2)
        have hsW := hbWkl.out.size
        refine hK.out _ _ (fun _ => ⟨pcklf.c0, pcklf.c1, pcklf.c2⟩) ?_
        clear hK K
        refine anyT_put 4 51 ?rv105 #[true, true, true, true, true, false, false, true, false, false] rfl rfl rfl (by kernel_rfl) (by kernel_rfl) (by kernel_rfl) (fun _ _ _ h => h) (by decide) ?ry105 (fun _ => ⟨pcklf.c0, pcklf.c1, pcklf.c2⟩) ?rm105
        case ry105 => first | exact Or.inl ⟨by rfl, by intro w'; go_simp; first | done | rfl⟩
        case rm105 =>
        simp only [Act.put, List.setIfInBounds_toArray, List.set_cons_zero, List.set_cons_succ]
        refine anyT_put 5 56 ?rv106 #[true, true, true, true, true, true, false, true, false, false] rfl rfl rfl (by kernel_rfl) (by kernel_rfl) (by kernel_rfl) (fun _ _ _ h => h) (by decide) ?ry106 (fun _ => ⟨pcklf.c0, pcklf.c1, pcklf.c2⟩) ?rm106
        case ry106 => first | exact Or.inl ⟨by rfl, by intro w'; go_simp; first | done | rfl⟩
        case rm106 =>
        simp only [Act.put, List.setIfInBounds_toArray, List.set_cons_zero, List.set_cons_succ]
        refine anyT_put 6 57 ?rv107 #[true, true, true, true, true, true, true, true, false, false] rfl rfl rfl (by kernel_rfl) (by kernel_rfl) (by kernel_rfl) (fun _ _ _ h => h) (by decide) ?ry107 (fun _ => ⟨pcklf.c0, pcklf.c1, pcklf.c2⟩) ?rm107
        case ry107 => first | exact Or.inl ⟨by rfl, by intro w'; go_simp; first | done | rfl⟩
        case rm107 =>
        simp only [Act.put, List.setIfInBounds_toArray, List.set_cons_zero, List.set_cons_succ]
        refine anyT_one 8 #[true, true, true, true, true, true, true, true, true, false] (by kernel_rfl) rfl rfl (fun K hK => ?_)
        go_simp
        refine hK.out _ _ (fun h => absurd h (by decide)) ?_
        clear hK K
        refine anyT_one 9 #[true, true, true, true, true, true, true, true, true, true] (by kernel_rfl) rfl rfl (fun K hK => ?_)
        go_simp
        refine hK.out _ _ (fun h => absurd h (by decide)) ?_
        clear hK K
        refine anyT_done (by kernel_rfl) ?_
        go_wp2_with fail
        go_meet
        first | exact laid_a (hX.low hbWk.out.size) (hY.low hbWk.out.size) hbWkf.out | exact laid_s (by have h := hX; rw [World.size_alloc] at h; exact h) (by have h := hY; rw [World.size_alloc] at h; exact h) rB hbWk.out.size hbWklf.out | exact laid_s (B := u.heap.size) (hX.low RBk.out.lt) (hY.low RBk.out.lt) rB (Nat.le_refl _) hbWlkf.out
    case bb96 =>
      go_simp
      have hbWl : Hid (Below u.heap.size u ((u.drew).alloc (.cells #[.bool false, .slice none 0 0, .slice none 0 0] 32))) := hbW.out.alloc hbW.out.size _
      have pcl := HX1.out.go hbWl.out
      have RBl : Hid (Abx ((u.drew).alloc (.cells #[.bool false, .slice none 0 0, .slice none 0 0] 32)) (u.drew).heap.size (.bool false) (.slice none 0 0) (.slice none 0 0)) := Abx.new _ _ _ _
      try (have hKl : Hid (IsInts ((u.drew).alloc (.cells #[.bool false, .slice none 0 0, .slice none 0 0] 32)).heap.size ((u.drew).alloc (.cells #[.bool false, .slice none 0 0, .slice none 0 0] 32)) ka bq) := (hK.out.below ((Below.refl _ (u.drew)).alloc (Nat.le_refl _) _)).mono (by simp))
      refine hK.out _ _ (fun _ => ⟨pcl.c0, pcl.c1, pcl.c2⟩) ?_
      clear hK K
      refine anyT_one 1 #[true, true, true, false, false, false, false, true, false, false] (by kernel_rfl) rfl rfl (fun K hK => ?_)
      go_simp
      go_wp2_with (go_at_call 9; refine (bk_any pa pc p (by omega) (flE_zero.1 F1.out).2.2 ((u.drew).alloc (.cells #[.bool false, .slice none 0 0, .slice none 0 0] 32)) ((HP.out.1.below (hb.out.trans (hbWl.out.mono hb.out.size))).mono (Nat.le_trans hb.out.size hbWl.out.size))).mono ?_; rintro e w2 ⟨ka, kc, bq, rfl, hbq, hK, hBc⟩)
      have hbWlk : Hid (Below u.heap.size u w2) := hbWl.out.trans (hBc.mono hbWl.out.size)
      have pclk := HX1.out.go hbWlk.out
      have hKlk : Hid (IsInts w2.heap.size w2 ka bq) := hK
      try (have RBk : Hid (Abx w2 u.heap.size (.bool false) (.slice none 0 0) (.slice none 0 0)) := RBl.out.go hBc)
      clear hBc hK
      refine hK.out _ _ (fun _ => ⟨pclk.c0, pclk.c1, pclk.c2⟩) ?_
      clear hK K
      refine anyT_one 3 #[true, true, true, true, false, false, false, true, false, false] (by kernel_rfl) rfl rfl (fun K hK => ?_)
      go_simp
      go_wp2_with (go_at_call 11; refine (fl_bk HF F1.out HI.out.2.2 ka kc bq hbq.out xa1 xc1 ya1 yc1 w2 hKlk.out ((HB1.out.1.go hbWlk.out).ints) ((HB1.out.2.go hbWlk.out).ints)).mono ?_; rintro e w3 ⟨xa, xc, ya, yc, rfl, hX, hY, hBc⟩)
      have hbWlkf : Hid (Below u.heap.size u w3) := hbWlk.out.trans (hBc.mono hbWlk.out.size)
      have pclkf := HX1.out.go hbWlkf.out
      first | have rB : Abx w3 u.heap.size (.bool false) (.slice none 0 0) (.slice none 0 0) := RBk.out.go hBc | have rB : Abx w3 w2.heap.size (.bool false) (.slice none 0 0) (.slice none 0 0) := RBl.out.go hBc | skip
      try (have r0 := rB.c0)
      try (have r1 := rB.c1)
      try (have r2 := rB.c2)
      try (have f0 := rB.fr 0)
      try (have f1' := rB.fr 1)
      try (have f2' := rB.fr 2)
      have hsW := hbWlk.out.size
      refine hK.out _ _ (fun _ => ⟨pclkf.c0, pclkf.c1, pclkf.c2⟩) ?_
      clear hK K
      refine anyT_put 4 51 ?rv112 #[true, true, true, true, true, false, false, true, false, false] rfl rfl rfl (by kernel_rfl) (by kernel_rfl) (by kernel_rfl) (fun _ _ _ h => h) (by decide) ?ry112 (fun _ => ⟨pclkf.c0, pclkf.c1, pclkf.c2⟩) ?rm112
      case ry112 => first | exact Or.inl ⟨by rfl, by intro w'; go_simp; first | done | rfl⟩
      case rm112 =>
      simp only [Act.put, List.setIfInBounds_toArray, List.set_cons_zero, List.set_cons_succ]
      refine anyT_put 5 56 ?rv113 #[true, true, true, true, true, true, false, true, false, false] rfl rfl rfl (by kernel_rfl) (by kernel_rfl) (by kernel_rfl) (fun _ _ _ h => h) (by decide) ?ry113 (fun _ => ⟨pclkf.c0, pclkf.c1, pclkf.c2⟩) ?rm113
      case ry113 => first | exact Or.inl ⟨by rfl, by intro w'; go_simp; first | done | rfl⟩
      case rm113 =>
      simp only [Act.put, List.setIfInBounds_toArray, List.set_cons_zero, List.set_cons_succ]
      refine anyT_put 6 57 ?rv114 #[true, true, true, true, true, true, true, true, false, false] rfl rfl rfl (by kernel_rfl) (by kernel_rfl) (by kernel_rfl) (fun _ _ _ h => h) (by decide) ?ry114 (fun _ => ⟨pclkf.c0, pclkf.c1, pclkf.c2⟩) ?rm114
      case ry114 => first | exact Or.inl ⟨by rfl, by intro w'; go_simp; first | done | rfl⟩
      case rm114 =>
      simp only [Act.put, List.setIfInBounds_toArray, List.set_cons_zero, List.set_cons_succ]
      refine anyT_one 8 #[true, true, true, true, true, true, true, true, true, false] (by kernel_rfl) rfl rfl (fun K hK => ?_)
      go_simp
      refine hK.out _ _ (fun h => absurd h (by decide)) ?_
      clear hK K
      refine anyT_one 9 #[true, true, true, true, true, true, true, true, true, true] (by kernel_rfl) rfl rfl (fun K hK => ?_)
      go_simp
      refine hK.out _ _ (fun h => absurd h (by decide)) ?_
      clear hK K
      refine anyT_done (by kernel_rfl) ?_
      go_wp2_with fail
      go_meet
      first | exact laid_a (hX.low hbWk.out.size) (hY.low hbWk.out.size) hbWkf.out | exact laid_s (by have h := hX; rw [World.size_alloc] at h; exact h) (by have h := hY; rw [World.size_alloc] at h; exact h) rB hbWk.out.size hbWklf.out | exact laid_s (B := u.heap.size) (hX.low RBk.out.lt) (hY.low RBk.out.lt) rB (Nat.le_refl _) hbWlkf.out
  case rest =>
    obtain ⟨B, xa, xc, ya, yc, rfl, rfl, hL, hX, hY, hB⟩ := hcut
    have hb9 : Hid (Below w.heap.size w wc) := hb.out.trans (hB.mono hb.out.size)
    have P9 := HQ.out.go hB
    have q0 := P9.c0
    have q1 := P9.c1
    have q2 := P9.c2
    have l0 := hL.c0
    have l1 := hL.c1
    have l2 := hL.c2
    have X9 : Hid (Abx wc v3.heap.size (.bool c1) (.slice xa1 (axVal sz1 p).length xc1) (.slice ya1 (flG p sz1 dz1).length yc1)) := HX1.out.go hB
    have N9 : Hid (NewC _ wc xa1 (axVal sz1 p) xc1 ∧ NewInts _ wc ya1 (flG p sz1 dz1)) := ⟨HB1.out.1.go hB, HB1.out.2.go hB⟩
    go_wp2_with fail
    refine (alike_eq c1 xa xc sz1 ya yc dz1 sa1 sc1 sz1 da1 dc1 dz1 rfl rfl x1 x2 wc hX.ints hY.ints ((HI.out.1.below hb9.out).mono hb9.out.size) ((HI.out.2.1.below hb9.out).mono hb9.out.size)).mono ?_
    rintro e w6 ⟨rfl, hBz⟩
    have hb6 : Hid (Below w.heap.size w w6) := hb9.out.trans (hBz.mono hb9.out.size)
    have P6 : Hid (Abx w6 w.heap.size (.bool c1) (.slice sa1 sz1.length sc1) (.slice da1 dz1.length dc1)) := P9.go hBz
    have X6 : Hid (Abx w6 v3.heap.size (.bool c1) (.slice xa1 (axVal sz1 p).length xc1) (.slice ya1 (flG p sz1 dz1).length yc1)) := X9.out.go hBz
    have N6 : Hid (NewC _ w6 xa1 (axVal sz1 p) xc1 ∧ NewInts _ w6 ya1 (flG p sz1 dz1)) := ⟨N9.out.1.go hBz, N9.out.2.go hBz⟩
    clear hBz hL hX hY hB P9 q0 q1 q2 l0 l1 l2
    have tl : ((q.length : Int) != (p.length : Int)) = true := by simp; have := L1.out; omega
    go_wp2_with fail
    go_ret
    exact ⟨rfl, hb6.out⟩
set_option maxRecDepth 100000 in
set_option maxHeartbeats 20000000 in
theorem group_ok (HF : CFl) (pa : Option Addr) (pc : Nat) (p : List Int) (qa : Option Addr) (qc : Nat) (q : List Int) (hpl : p.length ≤ 9223372036854775807) (hql : q.length ≤ 9223372036854775807) (c1 : Bool) (sa1 : Option Addr) (sc1 : Nat) (sz1 : List Int) (da1 : Option Addr) (dc1 : Nat) (dz1 : List Int) (w : World) (hp : IsInts w.heap.size w pa p) (hq : IsInts w.heap.size w qa q) (w9 : IsArrC w sa1 sz1 sc1 da1 dz1) (F1 : Hid (flE p c1 sz1 dz1 = 0)) (O1 : Hid (ordB q = true)) (L1 : Hid (q.length = p.length)) :
    Calls Try.prog 4 #[.slice pa p.length pc, .slice qa q.length qc, .agg #[.bool c1, .slice sa1 sz1.length sc1, .slice da1 dz1.length dc1]] w fun e w' => e = .returned (.bool true) ∧ Below w.heap.size w w' := by
  have HP : Hid (IsInts w.heap.size w pa p ∧ IsInts w.heap.size w qa q) := ⟨hp, hq⟩
  clear hp hq
  obtain ⟨x1, x2, x3, x4, s64, T⟩ := w9
  have HI : Hid (IsC w.heap.size w sa1 sz1 sc1 ∧ IsInts w.heap.size w da1 dz1 ∧ ∀ j, In64 (nth dz1 j)) := ⟨x3, x4, T⟩
  clear x3 x4 T s64
  have p1 : Abx (w.alloc (.cells #[.bool c1, .slice sa1 sz1.length sc1, .slice da1 dz1.length dc1] 32)) w.heap.size (.bool c1) (.slice sa1 sz1.length sc1) (.slice da1 dz1.length dc1) := Abx.new w _ _ _
  have hb : Hid (Below w.heap.size w (w.alloc (.cells #[.bool c1, .slice sa1 sz1.length sc1, .slice da1 dz1.length dc1] 32))) := (Below.refl _ w).alloc (Nat.le_refl _) _
  have p1_0 := p1.c0
  have p1_1 := p1.c1
  have p1_2 := p1.c2
  have n0 : NewInts (w.alloc (.cells #[.bool c1, .slice sa1 sz1.length sc1, .slice da1 dz1.length dc1] 32)).heap.size ((((w.alloc (.cells #[.bool c1, .slice sa1 sz1.length sc1, .slice da1 dz1.length dc1] 32)).alloc (.cells #[.int .i64 1, .int .i64 0] 3)).alloc (.cells #[.int .i64 2, .int .i64 2] 3)).alloc (.cells #[.int .i64 1, .int .i64 2, .int .i64 3, .int .i64 4] 3)) (some ⟨(w.alloc (.cells #[.bool c1, .slice sa1 sz1.length sc1, .slice da1 dz1.length dc1] 32)).heap.size, 0, none⟩) [1, 0] := (((new_lit (w.alloc (.cells #[.bool c1, .slice sa1 sz1.length sc1, .slice da1 dz1.length dc1] 32)) 3 [1, 0]).al (.cells #[.int .i64 2, .int .i64 2] 3)).al (.cells #[.int .i64 1, .int .i64 2, .int .i64 3, .int .i64 4] 3))
  have n1 : NewInts ((w.alloc (.cells #[.bool c1, .slice sa1 sz1.length sc1, .slice da1 dz1.length dc1] 32)).alloc (.cells #[.int .i64 1, .int .i64 0] 3)).heap.size ((((w.alloc (.cells #[.bool c1, .slice sa1 sz1.length sc1, .slice da1 dz1.length dc1] 32)).alloc (.cells #[.int .i64 1, .int .i64 0] 3)).alloc (.cells #[.int .i64 2, .int .i64 2] 3)).alloc (.cells #[.int .i64 1, .int .i64 2, .int .i64 3, .int .i64 4] 3)) (some ⟨((w.alloc (.cells #[.bool c1, .slice sa1 sz1.length sc1, .slice da1 dz1.length dc1] 32)).alloc (.cells #[.int .i64 1, .int .i64 0] 3)).heap.size, 0, none⟩) [2, 2] := ((new_lit ((w.alloc (.cells #[.bool c1, .slice sa1 sz1.length sc1, .slice da1 dz1.length dc1] 32)).alloc (.cells #[.int .i64 1, .int .i64 0] 3)) 3 [2, 2]).al (.cells #[.int .i64 1, .int .i64 2, .int .i64 3, .int .i64 4] 3))
  have n2 : NewInts (((w.alloc (.cells #[.bool c1, .slice sa1 sz1.length sc1, .slice da1 dz1.length dc1] 32)).alloc (.cells #[.int .i64 1, .int .i64 0] 3)).alloc (.cells #[.int .i64 2, .int .i64 2] 3)).heap.size ((((w.alloc (.cells #[.bool c1, .slice sa1 sz1.length sc1, .slice da1 dz1.length dc1] 32)).alloc (.cells #[.int .i64 1, .int .i64 0] 3)).alloc (.cells #[.int .i64 2, .int .i64 2] 3)).alloc (.cells #[.int .i64 1, .int .i64 2, .int .i64 3, .int .i64 4] 3)) (some ⟨(((w.alloc (.cells #[.bool c1, .slice sa1 sz1.length sc1, .slice da1 dz1.length dc1] 32)).alloc (.cells #[.int .i64 1, .int .i64 0] 3)).alloc (.cells #[.int .i64 2, .int .i64 2] 3)).heap.size, 0, none⟩) [1, 2, 3, 4] := (new_lit (((w.alloc (.cells #[.bool c1, .slice sa1 sz1.length sc1, .slice da1 dz1.length dc1] 32)).alloc (.cells #[.int .i64 1, .int .i64 0] 3)).alloc (.cells #[.int .i64 2, .int .i64 2] 3)) 3 [1, 2, 3, 4])
  simp only [World.size_alloc] at n0 n1 n2
  replace hb : Hid (Below w.heap.size w ((w.alloc (.cells #[.bool c1, .slice sa1 sz1.length sc1, .slice da1 dz1.length dc1] 32)).alloc (.cells #[.int .i64 1, .int .i64 0] 3))) := hb.out.alloc hb.out.size _
  replace p1 := p1.al (.cells #[.int .i64 1, .int .i64 0] 3)
  replace p1_0 := p1.c0
  replace p1_1 := p1.c1
  replace p1_2 := p1.c2
  replace hb : Hid (Below w.heap.size w (((w.alloc (.cells #[.bool c1, .slice sa1 sz1.length sc1, .slice da1 dz1.length dc1] 32)).alloc (.cells #[.int .i64 1, .int .i64 0] 3)).alloc (.cells #[.int .i64 2, .int .i64 2] 3))) := hb.out.alloc hb.out.size _
  replace p1 := p1.al (.cells #[.int .i64 2, .int .i64 2] 3)
  replace p1_0 := p1.c0
  replace p1_1 := p1.c1
  replace p1_2 := p1.c2
  replace hb : Hid (Below w.heap.size w ((((w.alloc (.cells #[.bool c1, .slice sa1 sz1.length sc1, .slice da1 dz1.length dc1] 32)).alloc (.cells #[.int .i64 1, .int .i64 0] 3)).alloc (.cells #[.int .i64 2, .int .i64 2] 3)).alloc (.cells #[.int .i64 1, .int .i64 2, .int .i64 3, .int .i64 4] 3))) := hb.out.alloc hb.out.size _
  replace p1 := p1.al (.cells #[.int .i64 1, .int .i64 2, .int .i64 3, .int .i64 4] 3)
  replace p1_0 := p1.c0
  replace p1_1 := p1.c1
  replace p1_2 := p1.c2
  go_enter Try.func4, Try.ntmps4
  go_wp2_with fail
  refine (fl_ok false (some ⟨w.heap.size + 1 + 1, 0, none⟩) 2 [2, 2] (some ⟨w.heap.size + 1 + 1 + 1, 0, none⟩) 4 [1, 2, 3, 4] _ (by simp) (by simp) (n1.ints.c (by decide)) n2.ints (lit_all (by decide)) HF (some ⟨w.heap.size + 1, 0, none⟩) 2 [1, 0] (by simp) n0.ints (by decide)).mono ?_
  rintro e v1 ⟨f1, g1, f2, g2, he, hZ, hY, hB⟩
  replace hb : Hid (Below w.heap.size w v1) := hb.out.trans (hB.mono hb.out.size)
  replace p1 := p1.go hB
  replace p1_0 := p1.c0
  replace p1_1 := p1.c1
  replace p1_2 := p1.c2
  clear hB
  clear n0 n1 n2
  rw [fact_v, fact_s] at he
  rw [fact_v] at hY
  rw [fact_s] at hZ
  subst he
  replace hb : Hid (Below w.heap.size w (v1.alloc (.cells #[.bool false, .slice f1 2 g1, .slice f2 4 g2] 32))) := hb.out.alloc hb.out.size _
  replace p1 := p1.al (.cells #[.bool false, .slice f1 2 g1, .slice f2 4 g2] 32)
  replace hY := hY.al (.cells #[.bool false, .slice f1 2 g1, .slice f2 4 g2] 32)
  replace hZ := hZ.al (.cells #[.bool false, .slice f1 2 g1, .slice f2 4 g2] 32)
  replace p1_0 := p1.c0
  replace p1_1 := p1.c1
  replace p1_2 := p1.c2
  replace hb : Hid (Below w.heap.size w ((v1.alloc (.cells #[.bool false, .slice f1 2 g1, .slice f2 4 g2] 32)).alloc (.cells #[.int .i64 1, .int .i64 3, .int .i64 2, .int .i64 4] 3))) := hb.out.alloc hb.out.size _
  replace p1 := p1.al (.cells #[.int .i64 1, .int .i64 3, .int .i64 2, .int .i64 4] 3)
  replace hY := hY.al (.cells #[.int .i64 1, .int .i64 3, .int .i64 2, .int .i64 4] 3)
  replace hZ := hZ.al (.cells #[.int .i64 1, .int .i64 3, .int .i64 2, .int .i64 4] 3)
  replace p1_0 := p1.c0
  replace p1_1 := p1.c1
  replace p1_2 := p1.c2
  have nl := new_lit (v1.alloc (.cells #[.bool false, .slice f1 2 g1, .slice f2 4 g2] 32)) 3 [1, 3, 2, 4]
  simp only [World.size_alloc] at nl
  go_wp2_with fail
  refine (ints_any f2 g2 [1, 3, 2, 4] (some ⟨v1.heap.size + 1, 0, none⟩) 4 [1, 3, 2, 4] (by simp) _ _ hY.ints nl.ints).mono ?_
  rintro e v2 ⟨rfl, hB⟩
  replace hb : Hid (Below w.heap.size w v2) := hb.out.trans (hB.mono hb.out.size)
  replace p1 := p1.go hB
  replace hY := hY.go hB
  replace hZ := hZ.go hB
  replace p1_0 := p1.c0
  replace p1_1 := p1.c1
  replace p1_2 := p1.c2
  clear hB
  clear nl hY hZ
  rw [eqB_true rfl]
  go_wp2_with fail
  refine (fl_ok c1 sa1 sc1 sz1 da1 dc1 dz1 _ x1 x2 ((HI.out.1.below hb.out).mono hb.out.size) ((HI.out.2.1.below hb.out).mono hb.out.size) HI.out.2.2 HF pa pc p hpl ((HP.out.1.below hb.out).mono hb.out.size) F1.out).mono ?_
  rintro e v3 ⟨xa1, xc1, ya1, yc1, rfl, hX1, hY1, hB⟩
  replace hb : Hid (Below w.heap.size w v3) := hb.out.trans (hB.mono hb.out.size)
  replace p1 := p1.go hB
  replace p1_0 := p1.c0
  replace p1_1 := p1.c1
  replace p1_2 := p1.c2
  clear hB
  replace hb : Hid (Below w.heap.size w (v3.alloc (.cells #[.bool c1, .slice xa1 (axVal sz1 p).length xc1, .slice ya1 (flG p sz1 dz1).length yc1] 32))) := hb.out.alloc hb.out.size _
  replace p1 := p1.al (.cells #[.bool c1, .slice xa1 (axVal sz1 p).length xc1, .slice ya1 (flG p sz1 dz1).length yc1] 32)
  replace hX1 := hX1.al (.cells #[.bool c1, .slice xa1 (axVal sz1 p).length xc1, .slice ya1 (flG p sz1 dz1).length yc1] 32)
  replace hY1 := hY1.al (.cells #[.bool c1, .slice xa1 (axVal sz1 p).length xc1, .slice ya1 (flG p sz1 dz1).length yc1] 32)
  replace p1_0 := p1.c0
  replace p1_1 := p1.c1
  replace p1_2 := p1.c2
  have b1 := Abx.new v3 (.bool c1) (.slice xa1 (axVal sz1 p).length xc1) (.slice ya1 (flG p sz1 dz1).length yc1)
  have b1_0 := b1.c0
  have b1_1 := b1.c1
  have b1_2 := b1.c2
  go_wp2_with fail
  refine (perm_any qa qc q hql _ _ ((HP.out.2.below hb.out).mono hb.out.size)).mono ?_
  rintro e v4 ⟨rfl, hB⟩
  replace hb : Hid (Below w.heap.size w v4) := hb.out.trans (hB.mono hb.out.size)
  replace p1 := p1.go hB
  replace hX1 := hX1.go hB
  replace hY1 := hY1.go hB
  replace b1 := b1.go hB
  replace p1_0 := p1.c0
  replace p1_1 := p1.c1
  replace p1_2 := p1.c2
  replace b1_0 := b1.c0
  replace b1_1 := b1.c1
  replace b1_2 := b1.c2
  clear hB
  obtain ⟨u, hu⟩ : ∃ u, u = v4 := ⟨_, rfl⟩
  subst hu
  have HQ : Hid (Abx u w.heap.size (.bool c1) (.slice sa1 sz1.length sc1) (.slice da1 dz1.length dc1)) := p1
  have HB1 : Hid (NewC _ u xa1 (axVal sz1 p) xc1 ∧ NewInts _ u ya1 (flG p sz1 dz1)) := ⟨hX1, hY1⟩
  have HX1 : Hid (Abx u _ (.bool c1) (.slice xa1 (axVal sz1 p).length xc1) (.slice ya1 (flG p sz1 dz1).length yc1)) := b1
  rw [O1.out]
  have hp6 : p.length ≤ 6 := fl_short F1.out
  go_upto_region 9 with fail
  go_cut [13, 14] (fun s13 s14 wc => Laid u c1 sz1 dz1 s13 s14 wc)
  case first =>
    have hbW : Hid (Below u.heap.size u u.drew) := (Below.refl _ u).drew
    refine anyT_begin 8 (fun w' => w'.cell? ⟨v3.heap.size, 0, none⟩ = some (.bool c1) ∧ w'.cell? ⟨v3.heap.size, 1, none⟩ = some (.slice xa1 (axVal sz1 p).length xc1) ∧ w'.cell? ⟨v3.heap.size, 2, none⟩ = some (.slice ya1 (flG p sz1 dz1).length yc1)) 10 #[false, false, false, false, false, false, false, false, false, false] (by kernel_rfl) rfl rfl ?_
    refine anyT_put 0 52 ?rv117 #[true, false, false, false, false, false, false, false, false, false] rfl rfl rfl (by kernel_rfl) (by kernel_rfl) (by kernel_rfl) (fun _ _ _ h => h) (by decide) ?ry117 (fun _ => ⟨b1_0, b1_1, b1_2⟩) ?rm117
    case ry117 => first | exact Or.inl ⟨by rfl, by intro w'; go_simp; first | done | rfl⟩
    case rm117 =>
    simp only [Act.put, List.setIfInBounds_toArray, List.set_cons_zero, List.set_cons_succ]
    refine anyT_take 2 54 ?rv118 #[true, false, true, false, false, false, false, false, false, false] rfl rfl rfl (by kernel_rfl) (by kernel_rfl) (by kernel_rfl) (fun _ _ _ h => h) (by kernel_rfl) (by decide) (by kernel_rfl) ?ry118 (⟨b1_0, b1_1, b1_2⟩) ?rm118
    case ry118 => first | exact Or.inl ⟨by rfl, by intro w' hw'; (try dsimp only at hw'); go_simp; first | done | rfl⟩
    case rm118 =>
    simp only [Act.put, List.setIfInBounds_toArray, List.set_cons_zero, List.set_cons_succ]
    refine anyT_br2 1 7 #[true, true, true, false, false, false, false, false, false, false] #[true, false, true, false, false, false, false, true, false, false] (by kernel_rfl) rfl rfl rfl rfl (fun K hK => ?ba119) (fun K hK => ?bb119)
    case ba119 =>
      go_simp
      go_wp2_with (go_at_call 9; refine (bk_any pa pc p (by omega) (flE_zero.1 F1.out).2.2 (u.drew) ((HP.out.1.below (hb.out.trans (hbW.out.mono hb.out.size))).mono (Nat.le_trans hb.out.size hbW.out.size))).mono ?_; rintro e w2 ⟨ka, kc, bq, rfl, hbq, hK, hBc⟩)
      have hbWk : Hid (Below u.heap.size u w2) := hbW.out.trans (hBc.mono hbW.out.size)
      have pck := HX1.out.go hbWk.out
      have hKk : Hid (IsInts w2.heap.size w2 ka bq) := hK
      try (have RBk : Hid (Abx w2 u.heap.size (.bool false) (.slice none 0 0) (.slice none 0 0)) := RBl.out.go hBc)
      clear hBc hK
      refine hK.out _ _ (fun _ => ⟨pck.c0, pck.c1, pck.c2⟩) ?_
      clear hK K
      refine anyT_br2 3 7 #[true, true, true, true, false, false, false, false, false, false] #[true, true, true, false, false, false, false, true, false, false] (by kernel_rfl) rfl rfl rfl rfl (fun K hK => ?ba120) (fun K hK => ?bb120)
      case ba120 =>
        go_simp
        go_wp2_with (go_at_call 11; refine (fl_bk HF F1.out HI.out.2.2 ka kc bq hbq.out xa1 xc1 ya1 yc1 w2 hKk.out ((HB1.out.1.go hbWk.out).ints) ((HB1.out.2.go hbWk.out).ints)).mono ?_; rintro e w3 ⟨xa, xc, ya, yc, rfl, hX, hY, hBc⟩)
        have hbWkf : Hid (Below u.heap.size u w3) := hbWk.out.trans (hBc.mono hbWk.out.size)
        have pckf := HX1.out.go hbWkf.out
        first | have rB : Abx w3 u.heap.size (.bool false) (.slice none 0 0) (.slice none 0 0) := RBk.out.go hBc | have rB : Abx w3 w2.heap.size (.bool false) (.slice none 0 0) (.slice none 0 0) := RBl.out.go hBc | skip
        try (have r0 := rB.c0)
        try (have r1 := rB.c1)
        try (have r2 := rB.c2)
        try (have f0 := rB.fr 0)
        try (have f1' := rB.fr 1)
        try (have f2' := rB.fr 2)
        have hsW := hbWk.out.size
        refine hK.out _ _ (fun _ => ⟨pckf.c0, pckf.c1, pckf.c2⟩) ?_
        clear hK K
        refine anyT_put 4 51 ?rv121 #[true, true, true, true, true, false, false, false, false, false] rfl rfl rfl (by kernel_rfl) (by kernel_rfl) (by kernel_rfl) (fun _ _ _ h => h) (by decide) ?ry121 (fun _ => ⟨pckf.c0, pckf.c1, pckf.c2⟩) ?rm121
        case ry121 => first | exact Or.inl ⟨by rfl, by intro w'; go_simp; first | done | rfl⟩
        case rm121 =>
        simp only [Act.put, List.setIfInBounds_toArray, List.set_cons_zero, List.set_cons_succ]
        refine anyT_put 5 56 ?rv122 #[true, true, true, true, true, true, false, false, false, false] rfl rfl rfl (by kernel_rfl) (by kernel_rfl) (by kernel_rfl) (fun _ _ _ h => h) (by decide) ?ry122 (fun _ => ⟨pckf.c0, pckf.c1, pckf.c2⟩) ?rm122
        case ry122 => first | exact Or.inl ⟨by rfl, by intro w'; go_simp; first | done | rfl⟩
        case rm122 =>
        simp only [Act.put, List.setIfInBounds_toArray, List.set_cons_zero, List.set_cons_succ]
        refine anyT_put 6 57 ?rv123 #[true, true, true, true, true, true, true, false, false, false] rfl rfl rfl (by kernel_rfl) (by kernel_rfl) (by kernel_rfl) (fun _ _ _ h => h) (by decide) ?ry123 (fun _ => ⟨pckf.c0, pckf.c1, pckf.c2⟩) ?rm123
        case ry123 => first | exact Or.inl ⟨by rfl, by intro w'; go_simp; first | done | rfl⟩
        case rm123 =>
        simp only [Act.put, List.setIfInBounds_toArray, List.set_cons_zero, List.set_cons_succ]
        refine anyT_one 7 #[true, true, true, true, true, true, true, true, false, false] (by kernel_rfl) rfl rfl (fun K hK => ?_)
        go_simp
        have hbWkfl : Hid (Below u.heap.size u (w3.alloc (.cells #[.bool false, .slice none 0 0, .slice none 0 0] 32))) := hbWkf.out.alloc hbWkf.out.size _
        have pckfl := HX1.out.go hbWkfl.out
        have RBl : Hid (Abx (w3.alloc (.cells #[.bool false, .slice none 0 0, .slice none 0 0] 32)) w3.heap.size (.bool false) (.slice none 0 0) (.slice none 0 0)) := Abx.new _ _ _ _
        try (have hKkfl : Hid (IsInts (w3.alloc (.cells #[.bool false, .slice none 0 0, .slice none 0 0] 32)).heap.size (w3.alloc (.cells #[.bool false, .slice none 0 0, .slice none 0 0] 32)) ka bq) := (hKkf.out.below ((Below.refl _ w3).alloc (Nat.le_refl _) _)).mono (by simp))
        refine hK.out _ _ (fun _ => ⟨pckfl.c0, pckfl.c1, pckfl.c2⟩) ?_
        clear hK K
        refine anyT_one 8 #[true, true, true, true, true, true, true, true, true, false] (by kernel_rfl) rfl rfl (fun K hK => ?_)
        go_simp
        refine hK.out _ _ (fun h => absurd h (by decide)) ?_
        clear hK K
        refine anyT_one 9 #[true, true, true, true, true, true, true, true, true, true] (by kernel_rfl) rfl rfl (fun K hK => ?_)
        go_simp
        refine hK.out _ _ (fun h => absurd h (by decide)) ?_
        clear hK K
        refine anyT_done (by kernel_rfl) ?_
        go_wp2_with fail
        go_meet
        first | exact laid_a (hX.low hbWk.out.size) (hY.low hbWk.out.size) hbWkf.out | exact laid_s (by have h := hX; rw [World.size_alloc] at h; exact h) (by have h := hY; rw [World.size_alloc] at h; exact h) rB hbWk.out.size hbWklf.out | exact laid_s (B := u.heap.size) (hX.low RBk.out.lt) (hY.low RBk.out.lt) rB (Nat.le_refl _) hbWlkf.out
      case bb120 =>
        go_simp
        have hbWkl : Hid (Below u.heap.size u (w2.alloc (.cells #[.bool false, .slice none 0 0, .slice none 0 0] 32))) := hbWk.out.alloc hbWk.out.size _
        have pckl := HX1.out.go hbWkl.out
        have RBl : Hid (Abx (w2.alloc (.cells #[.bool false, .slice none 0 0, .slice none 0 0] 32)) w2.heap.size (.bool false) (.slice none 0 0) (.slice none 0 0)) := Abx.new _ _ _ _
        try (have hKkl : Hid (IsInts (w2.alloc (.cells #[.bool false, .slice none 0 0, .slice none 0 0] 32)).heap.size (w2.alloc (.cells #[.bool false, .slice none 0 0, .slice none 0 0] 32)) ka bq) := (hKk.out.below ((Below.refl _ w2).alloc (Nat.le_refl _) _)).mono (by simp))
        refine hK.out _ _ (fun _ => ⟨pckl.c0, pckl.c1, pckl.c2⟩) ?_
        clear hK K
        refine anyT_one 3 #[true, true, true, true, false, false, false, true, false, false] (by kernel_rfl) rfl rfl (fun K hK => ?_)
        go_simp
        go_wp2_with (go_at_call 11; refine (fl_bk HF F1.out HI.out.2.2 ka kc bq hbq.out xa1 xc1 ya1 yc1 (w2.alloc (.cells #[.bool false, .slice none 0 0, .slice none 0 0] 32)) hKkl.out ((HB1.out.1.go hbWkl.out).ints) ((HB1.out.2.go hbWkl.out).ints)).mono ?_; rintro e w3 ⟨xa, xc, ya, yc, rfl, hX, hY, hBc⟩)
        have hbWklf : Hid (Below u.heap.size u w3) := hbWkl.out.trans (hBc.mono hbWkl.out.size)
        have pcklf := HX1.out.go hbWklf.out
        first | have rB : Abx w3 u.heap.size (.bool false) (.slice none 0 0) (.slice none 0 0) := RBk.out.go hBc | have rB : Abx w3 w2.heap.size (.bool false) (.slice none 0 0) (.slice none 0 0) := RBl.out.go hBc | skip
        try (have r0 := rB.c0)
        try (have r1 := rB.c1)
        try (have r2 := rB.c2)
        try (have f0 := rB.fr 0)
        try (have f1' := rB.fr 1)
        try (have f2' := rB.fr 2)
        have hsW := hbWkl.out.size
        refine hK.out _ _ (fun _ => ⟨pcklf.c0, pcklf.c1, pcklf.c2⟩) ?_
        clear hK K
        refine anyT_put 4 51 ?rv128 #[true, true, true, true, true, false, false, true, false, false] rfl rfl rfl (by kernel_rfl) (by kernel_rfl) (by kernel_rfl) (fun _ _ _ h => h) (by decide) ?ry128 (fun _ => ⟨pcklf.c0, pcklf.c1, pcklf.c2⟩) ?rm128
        case ry128 => first | exact Or.inl ⟨by rfl, by intro w'; go_simp; first | done | rfl⟩
        case rm128 =>
        simp only [Act.put, List.setIfInBounds_toArray, List.set_cons_zero, List.set_cons_succ]
        refine anyT_put 5 56 ?rv129 #[true, true, true, true, true, true, false, true, false, false] rfl rfl rfl (by kernel_rfl) (by kernel_rfl) (by kernel_rfl) (fun _ _ _ h => h) (by decide) ?ry129 (fun _ => ⟨pcklf.c0, pcklf.c1, pcklf.c2⟩) ?rm129
        case ry129 => first | exact Or.inl ⟨by rfl, by intro w'; go_simp; first | done | rfl⟩
        case rm129 =>
        simp only [Act.put, List.setIfInBounds_toArray, List.set_cons_zero, List.set_cons_succ]
        refine anyT_put 6 57 ?rv130 #[true, true, true, true, true, true, true, true, false, false] rfl rfl rfl (by kernel_rfl) (by kernel_rfl) (by kernel_rfl) (fun _ _ _ h => h) (by decide) ?ry130 (fun _ => ⟨pcklf.c0, pcklf.c1, pcklf.c2⟩) ?rm130
        case ry130 => first | exact Or.inl ⟨by rfl, by intro w'; go_simp; first | done | rfl⟩
        case rm130 =>
        simp only [Act.put, List.setIfInBounds_toArray, List.set_cons_zero, List.set_cons_succ]
        refine anyT_one 8 #[true, true, true, true, true, true, true, true, true, false] (by kernel_rfl) rfl rfl (fun K hK => ?_)
        go_simp
        refine hK.out _ _ (fun h => absurd h (by decide)) ?_
        clear hK K
        refine anyT_one 9 #[true, true, true, true, true, true, true, true, true, true] (by kernel_rfl) rfl rfl (fun K hK => ?_)
        go_simp
        refine hK.out _ _ (fun h => absurd h (by decide)) ?_
        clear hK K
        refine anyT_done (by kernel_rfl) ?_
        go_wp2_with fail
        go_meet
        first | exact laid_a (hX.low hbWk.out.size) (hY.low hbWk.out.size) hbWkf.out | exact laid_s (by have h := hX; rw [World.size_alloc] at h; exact h) (by have h := hY; rw [World.size_alloc] at h; exact h) rB hbWk.out.size hbWklf.out | exact laid_s (B := u.heap.size) (hX.low RBk.out.lt) (hY.low RBk.out.lt) rB (Nat.le_refl _) hbWlkf.out
    case bb119 =>
      go_simp
      have hbWl : Hid (Below u.heap.size u ((u.drew).alloc (.cells #[.bool false, .slice none 0 0, .slice none 0 0] 32))) := hbW.out.alloc hbW.out.size _
      have pcl := HX1.out.go hbWl.out
      have RBl : Hid (Abx ((u.drew).alloc (.cells #[.bool false, .slice none 0 0, .slice none 0 0] 32)) (u.drew).heap.size (.bool false) (.slice none 0 0) (.slice none 0 0)) := Abx.new _ _ _ _
      try (have hKl : Hid (IsInts ((u.drew).alloc (.cells #[.bool false, .slice none 0 0, .slice none 0 0] 32)).heap.size ((u.drew).alloc (.cells #[.bool false, .slice none 0 0, .slice none 0 0] 32)) ka bq) := (hK.out.below ((Below.refl _ (u.drew)).alloc (Nat.le_refl _) _)).mono (by simp))
      refine hK.out _ _ (fun _ => ⟨pcl.c0, pcl.c1, pcl.c2⟩) ?_
      clear hK K
      refine anyT_one 1 #[true, true, true, false, false, false, false, true, false, false] (by kernel_rfl) rfl rfl (fun K hK => ?_)
      go_simp
      go_wp2_with (go_at_call 9; refine (bk_any pa pc p (by omega) (flE_zero.1 F1.out).2.2 ((u.drew).alloc (.cells #[.bool false, .slice none 0 0, .slice none 0 0] 32)) ((HP.out.1.below (hb.out.trans (hbWl.out.mono hb.out.size))).mono (Nat.le_trans hb.out.size hbWl.out.size))).mono ?_; rintro e w2 ⟨ka, kc, bq, rfl, hbq, hK, hBc⟩)
      have hbWlk : Hid (Below u.heap.size u w2) := hbWl.out.trans (hBc.mono hbWl.out.size)
      have pclk := HX1.out.go hbWlk.out
      have hKlk : Hid (IsInts w2.heap.size w2 ka bq) := hK
      try (have RBk : Hid (Abx w2 u.heap.size (.bool false) (.slice none 0 0) (.slice none 0 0)) := RBl.out.go hBc)
      clear hBc hK
      refine hK.out _ _ (fun _ => ⟨pclk.c0, pclk.c1, pclk.c2⟩) ?_
      clear hK K
      refine anyT_one 3 #[true, true, true, true, false, false, false, true, false, false] (by kernel_rfl) rfl rfl (fun K hK => ?_)
      go_simp
      go_wp2_with (go_at_call 11; refine (fl_bk HF F1.out HI.out.2.2 ka kc bq hbq.out xa1 xc1 ya1 yc1 w2 hKlk.out ((HB1.out.1.go hbWlk.out).ints) ((HB1.out.2.go hbWlk.out).ints)).mono ?_; rintro e w3 ⟨xa, xc, ya, yc, rfl, hX, hY, hBc⟩)
      have hbWlkf : Hid (Below u.heap.size u w3) := hbWlk.out.trans (hBc.mono hbWlk.out.size)
      have pclkf := HX1.out.go hbWlkf.out
      first | have rB : Abx w3 u.heap.size (.bool false) (.slice none 0 0) (.slice none 0 0) := RBk.out.go hBc | have rB : Abx w3 w2.heap.size (.bool false) (.slice none 0 0) (.slice none 0 0) := RBl.out.go hBc | skip
      try (have r0 := rB.c0)
      try (have r1 := rB.c1)
      try (have r2 := rB.c2)
      try (have f0 := rB.fr 0)
      try (have f1' := rB.fr 1)
      try (have f2' := rB.fr 2)
      have hsW := hbWlk.out.size
      refine hK.out _ _ (fun _ => ⟨pclkf.c0, pclkf.c1, pclkf.c2⟩) ?_
      clear hK K
      refine anyT_put 4 51 ?rv135 #[true, true, true, true, true, false, false, true, false, false] rfl rfl rfl (by kernel_rfl) (by kernel_rfl) (by kernel_rfl) (fun _ _ _ h => h) (by decide) ?ry135 (fun _ => ⟨pclkf.c0, pclkf.c1, pclkf.c2⟩) ?rm135
      case ry135 => first | exact Or.inl ⟨by rfl, by intro w'; go_simp; first | done | rfl⟩
      case rm135 =>
      simp only [Act.put, List.setIfInBounds_toArray, List.set_cons_zero, List.set_cons_succ]
      refine anyT_put 5 56 ?rv136 #[true, true, true, true, true, true, false, true, false, false] rfl rfl rfl (by kernel_rfl) (by kernel_rfl) (by kernel_rfl) (fun _ _ _ h => h) (by decide) ?ry136 (fun _ => ⟨pclkf.c0, pclkf.c1, pclkf.c2⟩) ?rm136
      case ry136 => first | exact Or.inl ⟨by rfl, by intro w'; go_simp; first | done | rfl⟩
      case rm136 =>
      simp only [Act.put, List.setIfInBounds_toArray, List.set_cons_zero, List.set_cons_succ]
      refine anyT_put 6 57 ?rv137 #[true, true, true, true, true, true, true, true, false, false] rfl rfl rfl (by kernel_rfl) (by kernel_rfl) (by kernel_rfl) (fun _ _ _ h => h) (by decide) ?ry137 (fun _ => ⟨pclkf.c0, pclkf.c1, pclkf.c2⟩) ?rm137
      case ry137 => first | exact Or.inl ⟨by rfl, by intro w'; go_simp; first | done | rfl⟩
      case rm137 =>
      simp only [Act.put, List.setIfInBounds_toArray, List.set_cons_zero, List.set_cons_succ]
      refine anyT_one 8 #[true, true, true, true, true, true, true, true, true, false] (by kernel_rfl) rfl rfl (fun K hK => ?_)
      go_simp
      refine hK.out _ _ (fun h => absurd h (by decide)) ?_
      clear hK K
      refine anyT_one 9 #[true, true, true, true, true, true, true, true, true, true] (by kernel_rfl) rfl rfl (fun K hK => ?_)
      go_simp
      refine hK.out _ _ (fun h => absurd h (by decide)) ?_
      clear hK K
      refine anyT_done (by kernel_rfl) ?_
      go_wp2_with fail
      go_meet
      first | exact laid_a (hX.low hbWk.out.size) (hY.low hbWk.out.size) hbWkf.out | exact laid_s (by have h := hX; rw [World.size_alloc] at h; exact h) (by have h := hY; rw [World.size_alloc] at h; exact h) rB hbWk.out.size hbWklf.out | exact laid_s (B := u.heap.size) (hX.low RBk.out.lt) (hY.low RBk.out.lt) rB (Nat.le_refl _) hbWlkf.out
  case rest =>
    obtain ⟨B, xa, xc, ya, yc, rfl, rfl, hL, hX, hY, hB⟩ := hcut
    have hb9 : Hid (Below w.heap.size w wc) := hb.out.trans (hB.mono hb.out.size)
    have P9 := HQ.out.go hB
    have q0 := P9.c0
    have q1 := P9.c1
    have q2 := P9.c2
    have l0 := hL.c0
    have l1 := hL.c1
    have l2 := hL.c2
    have X9 : Hid (Abx wc v3.heap.size (.bool c1) (.slice xa1 (axVal sz1 p).length xc1) (.slice ya1 (flG p sz1 dz1).length yc1)) := HX1.out.go hB
    have N9 : Hid (NewC _ wc xa1 (axVal sz1 p) xc1 ∧ NewInts _ wc ya1 (flG p sz1 dz1)) := ⟨HB1.out.1.go hB, HB1.out.2.go hB⟩
    go_wp2_with fail
    refine (alike_eq c1 xa xc sz1 ya yc dz1 sa1 sc1 sz1 da1 dc1 dz1 rfl rfl x1 x2 wc hX.ints hY.ints ((HI.out.1.below hb9.out).mono hb9.out.size) ((HI.out.2.1.below hb9.out).mono hb9.out.size)).mono ?_
    rintro e w6 ⟨rfl, hBz⟩
    have hb6 : Hid (Below w.heap.size w w6) := hb9.out.trans (hBz.mono hb9.out.size)
    have P6 : Hid (Abx w6 w.heap.size (.bool c1) (.slice sa1 sz1.length sc1) (.slice da1 dz1.length dc1)) := P9.go hBz
    have X6 : Hid (Abx w6 v3.heap.size (.bool c1) (.slice xa1 (axVal sz1 p).length xc1) (.slice ya1 (flG p sz1 dz1).length yc1)) := X9.out.go hBz
    have N6 : Hid (NewC _ w6 xa1 (axVal sz1 p) xc1 ∧ NewInts _ w6 ya1 (flG p sz1 dz1)) := ⟨N9.out.1.go hBz, N9.out.2.go hBz⟩
    clear hBz hL hX hY hB P9 q0 q1 q2 l0 l1 l2
    have hql6 : q.length ≤ 6 := by have := L1.out; omega
    have tl : ((q.length : Int) != (p.length : Int)) = false := by simp; have := L1.out; omega
    have HO : Hid (IsOrd p ∧ IsOrd q) := ⟨(flE_zero.1 F1.out).2.2, (ordB_iff q).1 O1.out⟩
    have hmk := run_make_row' (P := Try.prog) 22 3 (.int .i64 0) 8 Try.underlying22 Try.infoInt rfl .i64 .i64 p.length (by omega) (by omega)
    go_wp2_with fail
    clear hmk
    go_loopw [17] (fun i wr => ∃ k : Nat, k ≤ p.length ∧ i = .int .i64 k ∧ wr.rowIs w6.heap.size 3 p.length (upTo (fun t => nth q (nth p t).toNat) k) ∧ Below w6.heap.size w6 wr) (fun i _ => p.length - (intOf i).toNat)
    case atStart => exact ⟨0, Nat.zero_le _, rfl, (World.rowIs_made w6 (.int .i64 0) p.length 3).congr (fun j _ => by simp [upTo]), (Below.refl _ w6).alloc (Nat.le_refl _) _⟩
    case round =>
      obtain ⟨k, hk, rfl, hrow, hBy⟩ := hrel
      have HBy : Hid (Below w.heap.size w wr) := hb6.out.trans (hBy.mono hb6.out.size)
      by_cases hlt : k < p.length
      · obtain ⟨bp, op, rfl, hbp, hcP⟩ := (HP.out.1.below HBy.out).at hlt
        have cp := hcP k hlt
        have hbo := HO.out.1.1 k hlt
        obtain ⟨t, ht⟩ : ∃ t : Nat, nth p k = t := ⟨(nth p k).toNat, by omega⟩
        have htl : t < q.length := by have := L1.out; omega
        rw [ht] at cp
        have HT : Hid (nth q t = nth q (nth p k).toNat) := by show _ = _; rw [ht, Int.toNat_natCast]
        clear hcP ht hbo
        obtain ⟨bq, oq, rfl, hbq, hcQ⟩ := (HP.out.2.below HBy.out).at htl
        have cq := hcQ t htl
        clear hcQ
        have c2 := hrow.cell hlt
        have f2 := hrow.frozen k
        go_wp2_with fail
        exact ⟨⟨k + 1, by omega, by go_num, upTo_set hrow _ HT.out, hBy.setCell (p := ⟨w6.heap.size, k, none⟩) (Nat.le_refl _) _⟩, by simp [intOf]; omega⟩
      · obtain rfl : k = p.length := by omega
        obtain ⟨r, hr⟩ : ∃ r, r = (List.range p.length).map (fun t => nth q (nth p t).toNat) := ⟨_, rfl⟩
        have hrl : r.length = p.length := by rw [hr]; simp
        have hrn : ∀ j, j < p.length → nth r j = nth q (nth p j).toNat := fun j hj => by rw [hr]; simp [nth, hj]
        have HRN : Hid (NewInts w6.heap.size wr (some ⟨w6.heap.size, 0, none⟩) r) := upTo_new hrow (Nat.le_refl _) r hrl hrn
        have HC : Hid (_ ∧ _ ∧ _ ∧ _) := fl_comp F1.out HO.out.2 L1.out hrl hrn
        have HRL : Hid (r.length = p.length) := hrl
        clear hr hrl hrn hrow hlt hk
        have X7 := X6.out.go hBy
        have x0 := X7.c0
        have x1' := X7.c1
        have x2' := X7.c2
        have N7 : Hid (NewC _ wr xa1 (axVal sz1 p) xc1 ∧ NewInts _ wr ya1 (flG p sz1 dz1)) := ⟨N6.out.1.go hBy, N6.out.2.go hBy⟩
        have P7 : Hid (Abx wr w.heap.size (.bool c1) (.slice sa1 sz1.length sc1) (.slice da1 dz1.length dc1)) := P6.out.go hBy
        clear hBy
        go_wp2_with fail
        refine (fl_ok c1 xa1 xc1 (axVal sz1 p) ya1 yc1 (flG p sz1 dz1) wr (tu_len (fl_flaw F1.out)).1 (tu_len (fl_flaw F1.out)).2 N7.out.1.ints N7.out.2.ints (GA_64 HI.out.2.2) HF qa qc q hql ((HP.out.2.below HBy.out).mono HBy.out.size) HC.out.1).mono ?_
        rintro e v8 ⟨ea, ec, ha, hc, rfl, hX8, hY8, hB8⟩
        have HB8 : Hid (Below w.heap.size w v8) := HBy.out.trans (hB8.mono HBy.out.size)
        have P8 := (P7.out.go hB8).al (.cells #[.bool c1, .slice ea (axVal (axVal sz1 p) q).length ec, .slice ha (flG q (axVal sz1 p) (flG p sz1 dz1)).length hc] 32)
        have HR8 : Hid (NewInts _ (v8.alloc (.cells #[.bool c1, .slice ea (axVal (axVal sz1 p) q).length ec, .slice ha (flG q (axVal sz1 p) (flG p sz1 dz1)).length hc] 32)) (some ⟨w6.heap.size, 0, none⟩) r) := (HRN.out.go hB8).al _
        have Y8 : Hid (Abx (v8.alloc (.cells #[.bool c1, .slice ea (axVal (axVal sz1 p) q).length ec, .slice ha (flG q (axVal sz1 p) (flG p sz1 dz1)).length hc] 32)) v8.heap.size (.bool c1) (.slice ea (axVal (axVal sz1 p) q).length ec) (.slice ha (flG q (axVal sz1 p) (flG p sz1 dz1)).length hc)) := Abx.new v8 _ _ _
        have M8 : Hid (NewC _ (v8.alloc (.cells #[.bool c1, .slice ea (axVal (axVal sz1 p) q).length ec, .slice ha (flG q (axVal sz1 p) (flG p sz1 dz1)).length hc] 32)) ea (axVal (axVal sz1 p) q) ec ∧ NewInts _ (v8.alloc (.cells #[.bool c1, .slice ea (axVal (axVal sz1 p) q).length ec, .slice ha (flG q (axVal sz1 p) (flG p sz1 dz1)).length hc] 32)) ha (flG q (axVal sz1 p) (flG p sz1 dz1))) := ⟨hX8.al _, hY8.al _⟩
        have HB9 : Hid (Below w.heap.size w (v8.alloc (.cells #[.bool c1, .slice ea (axVal (axVal sz1 p) q).length ec, .slice ha (flG q (axVal sz1 p) (flG p sz1 dz1)).length hc] 32))) := HB8.out.alloc HB8.out.size _
        have p0 := P8.c0
        have p1q := P8.c1
        have p2q := P8.c2
        clear hB8 hX8 hY8 x0 x1' x2'
        rw [← HRL.out]
        go_wp2_with fail
        refine (fl_ok c1 sa1 sc1 sz1 da1 dc1 dz1 _ x1 x2 ((HI.out.1.below HB9.out).mono HB9.out.size) ((HI.out.2.1.below HB9.out).mono HB9.out.size) HI.out.2.2 HF (some ⟨w6.heap.size, 0, none⟩) r.length r (by rw [HRL.out]; omega) HR8.out.ints HC.out.2.1).mono ?_
        rintro e v10 ⟨ia, ic, ja, jc, rfl, hX9, hY9, hB9⟩
        have Y9 := (Y8.out.go hB9).al (.cells #[.bool c1, .slice ia (axVal sz1 r).length ic, .slice ja (flG r sz1 dz1).length jc] 32)
        have M9 : Hid (NewC _ (v10.alloc (.cells #[.bool c1, .slice ia (axVal sz1 r).length ic, .slice ja (flG r sz1 dz1).length jc] 32)) ea (axVal (axVal sz1 p) q) ec ∧ NewInts _ (v10.alloc (.cells #[.bool c1, .slice ia (axVal sz1 r).length ic, .slice ja (flG r sz1 dz1).length jc] 32)) ha (flG q (axVal sz1 p) (flG p sz1 dz1))) := ⟨(M8.out.1.go hB9).al _, (M8.out.2.go hB9).al _⟩
        have hX10 := hX9.al (.cells #[.bool c1, .slice ia (axVal sz1 r).length ic, .slice ja (flG r sz1 dz1).length jc] 32)
        have hY10 := hY9.al (.cells #[.bool c1, .slice ia (axVal sz1 r).length ic, .slice ja (flG r sz1 dz1).length jc] 32)
        have HB10 : Hid (Below w.heap.size w (v10.alloc (.cells #[.bool c1, .slice ia (axVal sz1 r).length ic, .slice ja (flG r sz1 dz1).length jc] 32))) := (HB9.out.trans (hB9.mono HB9.out.size)).alloc (Nat.le_trans HB9.out.size hB9.size) _
        have y0 := Y9.c0
        have y1 := Y9.c1
        have y2 := Y9.c2
        clear hB9 p0 p1q p2q
        go_wp2_with fail
        refine (alike_eq c1 ea ec (axVal (axVal sz1 p) q) ha hc (flG q (axVal sz1 p) (flG p sz1 dz1)) ia ic (axVal sz1 r) ja jc (flG r sz1 dz1) HC.out.2.2.1 HC.out.2.2.2 (tu_len (fl_flaw HC.out.1)).1 (tu_len (fl_flaw HC.out.1)).2 _ M9.out.1.ints M9.out.2.ints hX10.ints hY10.ints).mono ?_
        rintro e v11 ⟨rfl, hBz⟩
        have hbz : Hid (Below w.heap.size w v11) := HB10.out.trans (hBz.mono HB10.out.size)
        clear hBz
        go_wp2_with fail
        go_ret
        exact ⟨rfl, hbz.out⟩
theorem tgroup_walk (HF : CFl) (pa : Option Addr) (pc : Nat) (p : List Int) (qa : Option Addr) (qc : Nat) (q : List Int) (hpl : p.length ≤ 9223372036854775807) (hql : q.length ≤ 9223372036854775807) (c1 : Bool) (sa1 : Option Addr) (sc1 : Nat) (sz1 : List Int) (da1 : Option Addr) (dc1 : Nat) (dz1 : List Int) (w : World) (hp : IsInts w.heap.size w pa p) (hq : IsInts w.heap.size w qa q) (w9 : IsArrC w sa1 sz1 sc1 da1 dz1) :
    Calls Try.prog 4 #[.slice pa p.length pc, .slice qa q.length qc, .agg #[.bool c1, .slice sa1 sz1.length sc1, .slice da1 dz1.length dc1]] w fun e w' => e = .returned (.bool true) ∧ Below w.heap.size w w' := by
  by_cases f1 : flE p c1 sz1 dz1 = 0
  · cases o1 : ordB q
    · exact group_ord HF pa pc p qa qc q hpl hql c1 sa1 sc1 sz1 da1 dc1 dz1 w hp hq w9 f1 o1
    · by_cases l1 : q.length = p.length
      · exact group_ok HF pa pc p qa qc q hpl hql c1 sa1 sc1 sz1 da1 dc1 dz1 w hp hq w9 f1 o1 l1
      · exact group_len HF pa pc p qa qc q hpl hql c1 sa1 sc1 sz1 da1 dc1 dz1 w hp hq w9 f1 o1 l1
  · exact group_no HF pa pc p qa qc q hpl hql c1 sa1 sc1 sz1 da1 dc1 dz1 w hp hq w9 f1
end Go.Proofs.Ytkadepneehdffaa
