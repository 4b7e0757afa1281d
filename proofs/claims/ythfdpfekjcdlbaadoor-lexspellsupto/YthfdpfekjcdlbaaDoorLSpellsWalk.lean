/-
  The walk of the statement on what words are spelt as.
-/
import Derived.Test.YthfdpfekjcdlbaaDoorErr
import Derived.Test.YthfdpfekjcdlbaaDoorLyu
import Derived.Test.YthfdpfekjcdlbaaDoorLyw
import Derived.Test.YthfdpfekjcdlbaaDoorLyv
import Derived.Test.YthfdpfekjcdlbaaDoorLza
namespace Go.Proofs.YthfdpfekjcdlbaaDoor
open Go.RowKit Go.Lib Classical
set_option linter.unusedVariables false

set_option maxRecDepth 100000 in
set_option maxHeartbeats 2000000 in
theorem spells_walk17 (a : Option Addr) (cap : Nat) (ts : List TkA) (w : World) (h0 : TokIn w a ts) (hT : Lib.Utf8Tabs (Tryd.laysValid_ren.g 3) (Tryd.laysValid_ren.g 4) w) (hg : HasErr w) (hsp : Spl w)
    (hs0 : ∀ j, j < ts.length → (tkz ts j).1.text.length ≤ 1048576 ∧ InR (tkz ts j).1.fn) :
    Calls Tryd.prog 3 #[.slice a ts.length cap] w fun e w' => e = .returned (.bool true) ∧ Below w.heap.size w w' := by
  obtain ⟨hlen, hI, hin⟩ := h0
  obtain ⟨W1, hW1⟩ : ∃ W1, W1 = w.alloc (.cells #[.int .i64 3, .int .i64 0, .int .i64 0, .string ⟨#[97]⟩, .int .i64 0] 29) := ⟨_, rfl⟩
  have hB1 : Below w.heap.size w W1 := by rw [hW1]; exact (Below.refl _ w).alloc (Nat.le_refl _) _
  have hL1 : IsTk W1.heap.size W1 (some ⟨w.heap.size, 0, none⟩) [(⟨3, 0, 0, [97]⟩, 0)] := by rw [hW1]; exact is_lit w [(⟨3, 0, 0, [97]⟩, 0)]
  have hc1 := spell_any17 (some ⟨w.heap.size, 0, none⟩) 1 [(⟨3, 0, 0, [97]⟩, 0)] (by decide) W1 hL1 (by
    intro j hj
    have : j = 0 := by simp at hj; omega
    subst this
    exact ⟨⟨by decide, by decide⟩, by decide⟩) (hsp.go hB1) (tabs_go hT hB1)
  rw [show spelsS (List.map Prod.fst [((⟨3, 0, 0, [97]⟩ : Tk), (0 : Int))]) = _ from fact_spells] at hc1
  have HT : Hid (Lib.Utf8Tabs (Tryd.laysValid_ren.g 3) (Tryd.laysValid_ren.g 4) w) := hT
  have HG : Hid (HasErr w) := hg
  have HP : Hid (Spl w) := hsp
  have HI : Hid (IsTk w.heap.size w a ts) := hI
  have HIn : Hid (∀ j, j < ts.length → InR (tkz ts j).1.num ∧ (tkz ts j).1.text.length ≤ 9223372036854775807) := hin
  have HIn2 : Hid (∀ j, j < ts.length → InR (tkz ts j).1.num ∧ InR (tkz ts j).1.fn ∧ (tkz ts j).1.text.length ≤ 1048576) := fun j hj => ⟨(hin j hj).1, (hs0 j hj).2, (hs0 j hj).1⟩
  have HW1 : Hid (W1 = w.alloc (.cells #[.int .i64 3, .int .i64 0, .int .i64 0, .string ⟨#[97]⟩, .int .i64 0] 29)) := hW1
  have B1 : Hid (Below w.heap.size w W1) := hB1
  clear hT hg hsp hI hin hL1 hB1 hW1 hs0
  go_enter Tryd.func3, Tryd.ntmps3
  go_wp2_with fail
  rw [← HW1.out]
  refine hc1.mono ?_
  rintro e w2 ⟨hB2, rfl⟩
  have B2 : Hid (Below w.heap.size w w2) := B1.out.trans (hB2.mono B1.out.size)
  clear hB2 hc1
  have hcr := rspelling_any a cap ts hlen w2 ((HI.out.go B2.out).mono B2.out.size) HIn2.out
  go_wp2_with fail
  refine hcr.mono ?_
  cases hS : spelsS (ts.map Prod.fst) with
  | error c =>
    rintro e w3 ⟨hB3, rfl⟩
    have B3 : Hid (Below w.heap.size w w3) := B2.out.trans (hB3.mono B2.out.size)
    have hcs := spell_any17 a cap ts hlen w3 ((HI.out.go B3.out).mono B3.out.size) HIn.out (HP.out.go B3.out) (tabs_go HT.out B3.out)
    rw [hS] at hcs
    clear hB3 hcr hS
    go_wp2_with fail
    refine hcs.mono ?_
    rintro e w4 ⟨hB4, rfl⟩
    have B4 : Hid (Below w.heap.size w w4) := B3.out.trans (hB4.mono B3.out.size)
    clear hB4 hcs
    go_wp2_with fail
    refine (error_same c _ (HG.out.go B4.out)).mono ?_
    rintro e w5 ⟨rfl, hB5⟩
    have B5 : Hid (Below w.heap.size w w5) := B4.out.trans (hB5.mono B4.out.size)
    go_wp2_with fail
    go_ret
    exact ⟨by simp, B5.out⟩
  | ok t =>
    rintro e w3 ⟨hB3, rfl⟩
    have B3 : Hid (Below w.heap.size w w3) := B2.out.trans (hB3.mono B2.out.size)
    have hcs := spell_any17 a cap ts hlen w3 ((HI.out.go B3.out).mono B3.out.size) HIn.out (HP.out.go B3.out) (tabs_go HT.out B3.out)
    rw [hS] at hcs
    obtain ⟨Y, hY⟩ : ∃ Y : ByteArray, Y = ⟨t.toArray⟩ := ⟨_, rfl⟩
    have hcs2 : Calls Tryd.prog 6 #[.slice a ts.length cap] w3 fun e w' => Below w3.heap.size w3 w' ∧ e = .returned (.tuple #[.string Y, .nilIface]) := by rw [hY]; exact hcs
    rw [← hY]
    have heq : (Y.toList == Y.toList) = true := by simp
    clear hB3 hcr hS hcs hY
    go_wp2_with fail
    refine hcs2.mono ?_
    rintro e w4 ⟨hB4, rfl⟩
    have B4 : Hid (Below w.heap.size w w4) := B3.out.trans (hB4.mono B3.out.size)
    clear hB4 hcs2
    go_wp2_with fail
    refine (error_same 0 _ (HG.out.go B4.out)).mono ?_
    rintro e w5 ⟨rfl, hB5⟩
    have B5 : Hid (Below w.heap.size w w5) := B4.out.trans (hB5.mono B4.out.size)
    go_wp2_with fail
    go_ret
    exact ⟨by simp, B5.out⟩
end Go.Proofs.YthfdpfekjcdlbaaDoor
