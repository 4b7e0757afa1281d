/-
  The walk of the statement that what is spelt is read.
-/
import Derived.Test.YthfdpfekjcdlbaaDoorLyu
import Derived.Test.YthfdpfekjcdlbaaDoorLyw
import Derived.Test.YthfdpfekjcdlbaaDoorLyv
namespace Go.Proofs.YthfdpfekjcdlbaaDoor
open Go.RowKit Go.Lib Classical
set_option linter.unusedVariables false

set_option maxRecDepth 100000 in
set_option maxHeartbeats 2000000 in
theorem back_walk (a : Option Addr) (cap : Nat) (ts : List TkA) (w : World) (h0 : TokIn w a ts) (hT : Lib.Utf8Tabs (Tryd.laysValid_ren.g 3) (Tryd.laysValid_ren.g 4) w) (hr : HasRng w) (hsp : Spl w) :
    Calls Tryd.prog 4 #[.slice a ts.length cap] w fun e w' => e = .returned (.bool true) ∧ Below w.heap.size w w' := by
  obtain ⟨hlen, hI, hin⟩ := h0
  obtain ⟨W1, hW1⟩ : ∃ W1, W1 = w.alloc (.cells #[.int .i64 1, .int .i64 0, .int .i64 (-5), .string ⟨#[]⟩, .int .i64 0, .int .i64 2, .int .i64 0, .int .i64 0, .string ⟨#[105, 116, 39, 115]⟩, .int .i64 0] 29) := ⟨_, rfl⟩
  have hB1 : Below w.heap.size w W1 := by rw [hW1]; exact (Below.refl _ w).alloc (Nat.le_refl _) _
  have hL1 : IsTk W1.heap.size W1 (some ⟨w.heap.size, 0, none⟩) [(⟨1, 0, -5, []⟩, 0), (⟨2, 0, 0, [105, 116, 39, 115]⟩, 0)] := by rw [hW1]; exact is_lit w [(⟨1, 0, -5, []⟩, 0), (⟨2, 0, 0, [105, 116, 39, 115]⟩, 0)]
  have hc1 := spell_any17 (some ⟨w.heap.size, 0, none⟩) 2 [(⟨1, 0, -5, []⟩, 0), (⟨2, 0, 0, [105, 116, 39, 115]⟩, 0)] (by decide) W1 hL1 (by
    intro j hj
    have : j = 0 ∨ j = 1 := by simp at hj; omega
    rcases this with rfl | rfl
    · exact ⟨⟨by decide, by decide⟩, by decide⟩
    · exact ⟨⟨by decide, by decide⟩, by decide⟩) (hsp.go hB1) (tabs_go hT hB1)
  rw [show spelsS (List.map Prod.fst [((⟨1, 0, -5, []⟩ : Tk), (0 : Int)), (⟨2, 0, 0, [105, 116, 39, 115]⟩, 0)]) = _ from fact_back] at hc1
  have HT : Hid (Lib.Utf8Tabs (Tryd.laysValid_ren.g 3) (Tryd.laysValid_ren.g 4) w) := hT
  have HR : Hid (HasRng w) := hr
  have HP : Hid (Spl w) := hsp
  have HI : Hid (IsTk w.heap.size w a ts) := hI
  have HIn : Hid (∀ j, j < ts.length → InR (tkz ts j).1.num ∧ (tkz ts j).1.text.length ≤ 9223372036854775807) := hin
  have HW1 : Hid (W1 = w.alloc (.cells #[.int .i64 1, .int .i64 0, .int .i64 (-5), .string ⟨#[]⟩, .int .i64 0, .int .i64 2, .int .i64 0, .int .i64 0, .string ⟨#[105, 116, 39, 115]⟩, .int .i64 0] 29)) := hW1
  have B1 : Hid (Below w.heap.size w W1) := hB1
  clear hT hr hsp hI hin hL1 hB1 hW1
  go_enter Tryd.func4, Tryd.ntmps4
  go_wp2_with fail
  rw [← HW1.out]
  refine hc1.mono ?_
  rintro e w2 ⟨hB2, rfl⟩
  have B2 : Hid (Below w.heap.size w w2) := B1.out.trans (hB2.mono B1.out.size)
  clear hB2 hc1
  have hcs := spell_any17 a cap ts hlen w2 ((HI.out.go B2.out).mono B2.out.size) HIn.out (HP.out.go B2.out) (tabs_go HT.out B2.out)
  go_wp2_with fail
  refine hcs.mono ?_
  cases hS : spelsS (ts.map Prod.fst) with
  | error c =>
    rintro e w3 ⟨hB3, rfl⟩
    have B3 : Hid (Below w.heap.size w w3) := B2.out.trans (hB3.mono B2.out.size)
    rw [errV_pos (spels_err hS)]
    clear hB3 hcs hS
    go_wp2_with fail
    go_ret
    exact ⟨rfl, B3.out⟩
  | ok t =>
    rintro e w3 ⟨hB3, rfl⟩
    have B3 : Hid (Below w.heap.size w w3) := B2.out.trans (hB3.mono B2.out.size)
    obtain ⟨hl200, hl1000⟩ := spels_len hS
    rw [List.length_map] at hl200
    obtain ⟨us, hline, hsame, _⟩ := back17 (fun t ht => by
      obtain ⟨b, hb, rfl⟩ := List.mem_map.1 ht
      obtain ⟨j, hj, rfl⟩ := List.getElem_of_mem hb
      rw [← tkz_get hj]; exact (HIn.out j hj).1) hS
    have HUL : Hid (us.length = ts.length) := by have := congrArg List.length hsame; rw [List.length_map, List.length_map] at this; exact this
    have HSame : Hid (us.map Prod.fst = ts.map Prod.fst) := hsame
    have HI3 : Hid (IsTk w3.heap.size w3 a ts) := (HI.out.go B3.out).mono B3.out.size
    have hcr := line_any17 ⟨t.toArray⟩ (by rw [size_mk]; omega) w3 (tabs_go HT.out B3.out) (HR.out.go B3.out)
    rw [show tl (⟨t.toArray⟩ : ByteArray) 0 = t from rfl, hline] at hcr
    obtain ⟨Y, hY⟩ : ∃ Y : ByteArray, Y = ⟨t.toArray⟩ := ⟨_, rfl⟩
    rw [← hY] at hcr ⊢
    clear hY hB3 hcs hS hline hsame
    go_wp2_with fail
    refine hcr.mono ?_
    rintro e w5 ⟨hB5, b, bcap, rfl, hJ⟩
    have HJ5 : Hid (IsTk w5.heap.size w5 b (rdA us)) := hJ
    have HI5 : Hid (IsTk w5.heap.size w5 a ts) := (HI3.out.go hB5).mono hB5.size
    have B5 : Hid (Below w.heap.size w w5) := B3.out.trans (hB5.mono B3.out.size)
    clear hB5 hcr hJ
    have hb1 := bare_any b bcap (rdA us) (by rw [rdA_length, HUL.out]; exact hl200) w5 HJ5.out
    rw [rdA_length] at hb1
    go_wp2_with fail
    refine hb1.mono ?_
    rintro e w6 ⟨p, pcap, rfl, hP6, hB6⟩
    rw [rdA_length]
    have HP6 : Hid (IsTk w6.heap.size w6 p (barA (rdA us))) := hP6
    have HI6 : Hid (IsTk w6.heap.size w6 a ts) := (HI5.out.go hB6).mono hB6.size
    have B6 : Hid (Below w.heap.size w w6) := B5.out.trans (hB6.mono B5.out.size)
    clear hB6 hb1 hP6
    have hb2 := bare_any a cap ts hl200 w6 HI6.out
    go_wp2_with fail
    refine hb2.mono ?_
    rintro e w7 ⟨q, qcap, rfl, hQ7, hB7⟩
    have HP7 : Hid (IsTk w7.heap.size w7 p (barA (rdA us))) := (HP6.out.go hB7).mono hB7.size
    have HQ7 : Hid (IsTk w7.heap.size w7 q (barA ts)) := hQ7
    have B7 : Hid (Below w.heap.size w w7) := B6.out.trans (hB7.mono B6.out.size)
    clear hB7 hb2 hQ7
    have ht := tokens_any p pcap (barA (rdA us)) q qcap (barA ts) (by rw [barA_length, rdA_length, HUL.out]; omega) w7 HP7.out HQ7.out
    rw [barA_length, barA_length, rdA_length, decide_eq_true (barA_eq (by rw [rdA_fst]; exact HSame.out))] at ht
    go_wp2_with fail
    refine ht.mono ?_
    rintro e w8 ⟨rfl, hB8⟩
    have B8 : Hid (Below w.heap.size w w8) := B7.out.trans (hB8.mono B7.out.size)
    clear hB8 ht
    go_wp2_with fail
    go_ret
    exact ⟨rfl, B8.out⟩
end Go.Proofs.YthfdpfekjcdlbaaDoor
