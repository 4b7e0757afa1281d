/-
  What the program asks of an array ahead of all.
-/
import Derived.Test.YtnfdcdoelhanlaaCuts
import Derived.Test.YtnfdcdoelhanlaaBase
namespace Go.Proofs.Ytnfdcdoelhanlaa
open Go.RowKit
set_option linter.unusedVariables false

theorem axE_flaw6 {x : Int} {c : Bool} {sz dz : List Int} (h : flawE c sz dz ≠ 0) : axE x c sz dz = flawE c sz dz := by unfold axE; rw [if_pos h]
theorem axE_index6 {x : Int} {c : Bool} {sz dz : List Int} (h : flawE c sz dz = 0) (k : x < 0 ∨ (sz.length : Int) ≤ x) : axE x c sz dz = 5 := by unfold axE; rw [if_neg (by simpa using h), if_pos k]
set_option maxRecDepth 100000 in
set_option maxHeartbeats 1000000 in
theorem axis_ok (x : Int) (c : Bool) (sa : Option Addr) (sc : Nat) (sz : List Int) (da : Option Addr) (dc : Nat) (dz : List Int) (h1 : sz.length ≤ 9223372036854775807) (h2 : dz.length ≤ 9223372036854775807) (w : World) (hs : IsInts w.heap.size w sa sz) (hd : IsInts w.heap.size w da dz) (h : axE x c sz dz = 0) :
    Calls Try.prog 30 #[.int .i64 x, .agg #[.bool c, .slice sa sz.length sc, .slice da dz.length dc]] w fun e w' => e = .returned .nilIface ∧ Below w.heap.size w w' := by
  have HB0 : Hid (Below w.heap.size w (w.alloc (.cells #[.bool c, .slice sa sz.length sc, .slice da dz.length dc] 25))) := (Below.refl _ w).alloc (Nat.le_refl _) _
  have pa := Abx.new w (.bool c) (.slice sa sz.length sc) (.slice da dz.length dc)
  have p0 := pa.c0
  have p1 := pa.c1
  have p2 := pa.c2
  have HI : Hid (IsInts w.heap.size w sa sz ∧ IsInts w.heap.size w da dz) := ⟨hs, hd⟩
  obtain ⟨h3, hx0, hx1⟩ := axE_zero.1 h
  have H3 : Hid (flawE c sz dz = 0) := h3
  have hx2 : x < sz.length := by omega
  have hx3 : ¬ ((sz.length : Int) ≤ x) := by omega
  clear h h3 hs hd hx1
  go_enter Try.func30, Try.ntmps30
  go_wp2_with fail
  refine (check_ok c sa sc sz da dc dz h1 h2 _ ((HI.out.1.below HB0.out).mono HB0.out.size) ((HI.out.2.below HB0.out).mono HB0.out.size) H3.out).mono ?_
  rintro e v1 ⟨rfl, hC⟩
  have HB1 : Hid (Below w.heap.size w v1) := HB0.out.trans (hC.mono HB0.out.size)
  have q1 := (pa.go hC).c1
  clear hC pa p0 p1 p2 HB0
  go_wp2_with fail
  go_ret
  exact ⟨rfl, HB1.out⟩
set_option maxRecDepth 100000 in
set_option maxHeartbeats 1000000 in
theorem axis_no (x : Int) (hx : In64 x) (c : Bool) (sa : Option Addr) (sc : Nat) (sz : List Int) (da : Option Addr) (dc : Nat) (dz : List Int) (h1 : sz.length ≤ 9223372036854775807) (h2 : dz.length ≤ 9223372036854775807) (w : World) (hs : IsInts w.heap.size w sa sz) (hd : IsInts w.heap.size w da dz) (h : axE x c sz dz ≠ 0) :
    Calls Try.prog 30 #[.int .i64 x, .agg #[.bool c, .slice sa sz.length sc, .slice da dz.length dc]] w fun e w' => e = .returned (.iface 60 (.int .i64 (axE x c sz dz))) ∧ Below w.heap.size w w' := by
  have HB0 : Hid (Below w.heap.size w (w.alloc (.cells #[.bool c, .slice sa sz.length sc, .slice da dz.length dc] 25))) := (Below.refl _ w).alloc (Nat.le_refl _) _
  have pa := Abx.new w (.bool c) (.slice sa sz.length sc) (.slice da dz.length dc)
  have p0 := pa.c0
  have p1 := pa.c1
  have p2 := pa.c2
  have HI : Hid (IsInts w.heap.size w sa sz ∧ IsInts w.heap.size w da dz) := ⟨hs, hd⟩
  obtain ⟨hx0, hx1⟩ := hx
  by_cases h3 : flawE c sz dz = 0
  · have H3 : Hid (flawE c sz dz = 0) := h3
    have hk : x < 0 ∨ (sz.length : Int) ≤ x := by
      by_cases hc : x < 0 ∨ (sz.length : Int) ≤ x
      · exact hc
      · exact absurd (axE_zero.2 ⟨h3, by omega, by omega⟩) h
    have HE : Hid (axE x c sz dz = 5) := axE_index6 h3 hk
    clear h3 h hs hd
    rcases hk with hk | hk
    all_goals
      go_enter Try.func30, Try.ntmps30
      go_wp2_with fail
      refine (check_ok c sa sc sz da dc dz h1 h2 _ ((HI.out.1.below HB0.out).mono HB0.out.size) ((HI.out.2.below HB0.out).mono HB0.out.size) H3.out).mono ?_
      rintro e v1 ⟨rfl, hC⟩
      have HB1 : Hid (Below w.heap.size w v1) := HB0.out.trans (hC.mono HB0.out.size)
      have q1 := (pa.go hC).c1
      clear hC pa p0 p1 p2 HB0
      go_wp2_with fail
      go_ret
      exact ⟨by first | (rw [HE.out]; done) | (rw [HE.out]; rfl), HB1.out⟩
  · have HE : Hid (axE x c sz dz = flawE c sz dz) := axE_flaw6 h3
    have H3 : Hid (flawE c sz dz ≠ 0) := h3
    clear h3 h hs hd
    go_enter Try.func30, Try.ntmps30
    go_wp2_with fail
    refine (check_no c sa sc sz da dc dz h1 h2 _ ((HI.out.1.below HB0.out).mono HB0.out.size) ((HI.out.2.below HB0.out).mono HB0.out.size) H3.out).mono ?_
    rintro e v1 ⟨rfl, hC⟩
    have HB1 : Hid (Below w.heap.size w v1) := HB0.out.trans (hC.mono HB0.out.size)
    clear hC pa p0 p1 p2 HB0
    go_wp2_with fail
    go_ret
    exact ⟨by first | (rw [HE.out]; done) | (rw [HE.out]; rfl), HB1.out⟩
end Go.Proofs.Ytnfdcdoelhanlaa
