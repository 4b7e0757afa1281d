/-
  The walk of the statement on what a line reads as.
-/
import Derived.Test.YthfdpfekjcdlbaaGreatDoorErr
import Derived.Test.YthfdpfekjcdlbaaGreatDoorLye
import Derived.Test.YthfdpfekjcdlbaaGreatDoorLyv
namespace Go.Proofs.YthfdpfekjcdlbaaGreatDoor
open Go.RowKit Go.Lib Classical
set_option linter.unusedVariables false

theorem fact_reads : lineS [43, 47, 97] = .ok [(⟨4, 1, 0, []⟩, 0), (⟨4, 33, 0, []⟩, 1), (⟨3, 0, 0, [97]⟩, 2)] := by rfl
set_option maxRecDepth 100000 in
set_option maxHeartbeats 4000000 in
theorem reads_walk (s : ByteArray) (hs : s.size ≤ 9223372036854775807) (w : World) (hT : Lib.Utf8Tabs (Tryz.laysValid_ren.g 3) (Tryz.laysValid_ren.g 4) w) (hr : HasRng w) (hg : HasErr w) :
    Calls Tryz.prog 3 #[.string s] w fun e w' => e = .returned (.bool true) ∧ Below w.heap.size w w' := by
  have hc1 := line_any17 ⟨#[43, 47, 97]⟩ (by decide) w hT hr
  rw [show lineS (tl (⟨#[43, 47, 97]⟩ : ByteArray) 0) = _ from fact_reads] at hc1
  have HT : Hid (Lib.Utf8Tabs (Tryz.laysValid_ren.g 3) (Tryz.laysValid_ren.g 4) w) := hT
  have HR : Hid (HasRng w) := hr
  have HG : Hid (HasErr w) := hg
  clear hT hr hg
  go_enter Tryz.func3, Tryz.ntmps3
  go_wp2_with fail
  refine hc1.mono ?_
  rintro e w1 ⟨hB1, fa, fc, rfl, _⟩
  have B1 : Hid (Below w.heap.size w w1) := hB1
  clear hB1 hc1
  simp only [List.length_cons, List.length_nil, Nat.zero_add, Nat.reduceAdd]
  go_wp2_with fail
  refine (rwords_any s hs _).mono ?_
  rintro e w2 ⟨hB2, hE2⟩
  have B2 : Hid (Below w.heap.size w w2) := B1.out.trans (hB2.mono B1.out.size)
  clear hB2
  have hc3 := line_any17 s hs w2 (tabs_go HT.out B2.out) (HR.out.go B2.out)
  cases hL : lineS (tl s 0) with
  | error x =>
    obtain ⟨i, c⟩ := x
    rw [hL] at hE2 hc3
    obtain rfl := hE2
    clear hL
    go_wp2_with fail
    refine hc3.mono ?_
    rintro e w3 ⟨hB3, rfl⟩
    have B3 : Hid (Below w.heap.size w w3) := B2.out.trans (hB3.mono B2.out.size)
    clear hB3 hc3
    go_wp2_with fail
    refine (error_same c _ (HG.out.go B3.out)).mono ?_
    rintro e w4 ⟨rfl, hB4⟩
    have B4 : Hid (Below w.heap.size w w4) := B3.out.trans (hB4.mono B3.out.size)
    clear hB4
    have ht := tokens_any none 0 [] none 0 [] (by decide) w4 (.inl rfl) (.inl rfl)
    simp only [List.length_nil, decide_true] at ht
    go_wp2_with fail
    refine ht.mono ?_
    rintro e w5 ⟨rfl, hB5⟩
    have B5 : Hid (Below w.heap.size w w5) := B4.out.trans (hB5.mono B4.out.size)
    clear hB5 ht
    go_wp2_with fail
    go_ret
    exact ⟨by simp, B5.out⟩
  | ok ws =>
    rw [hL] at hE2 hc3
    obtain ⟨a, cap, rfl, hI2⟩ := hE2
    have HI2 : Hid (IsTk w2.heap.size w2 a (rdA ws)) := hI2
    have hlen : ws.length ≤ 200 := (again17 hL).2.1
    clear hL hI2
    go_wp2_with fail
    refine hc3.mono ?_
    rintro e w3 ⟨hB3, a3, cap3, rfl, hI3⟩
    have HI3 : Hid (IsTk w3.heap.size w3 a3 (rdA ws)) := hI3
    have HI23 : Hid (IsTk w3.heap.size w3 a (rdA ws)) := (HI2.out.go hB3).mono hB3.size
    have B3 : Hid (Below w.heap.size w w3) := B2.out.trans (hB3.mono B2.out.size)
    clear hB3 hc3 hI3
    go_wp2_with fail
    refine (error_same 0 _ (HG.out.go B3.out)).mono ?_
    rintro e w4 ⟨rfl, hB4⟩
    have ht := tokens_any a3 cap3 (rdA ws) a cap (rdA ws) (by rw [rdA_length]; omega) w4 ((HI3.out.go hB4).mono hB4.size) ((HI23.out.go hB4).mono hB4.size)
    rw [rdA_length, decide_eq_true rfl] at ht
    have B4 : Hid (Below w.heap.size w w4) := B3.out.trans (hB4.mono B3.out.size)
    clear hB4
    go_wp2_with fail
    refine ht.mono ?_
    rintro e w5 ⟨rfl, hB5⟩
    have B5 : Hid (Below w.heap.size w w5) := B4.out.trans (hB5.mono B4.out.size)
    clear hB5 ht
    go_wp2_with fail
    go_ret
    exact ⟨by simp, B5.out⟩
end Go.Proofs.YthfdpfekjcdlbaaGreatDoor
