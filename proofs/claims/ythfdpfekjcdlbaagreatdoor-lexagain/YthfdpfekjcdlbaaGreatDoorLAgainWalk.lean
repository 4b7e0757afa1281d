/-
  The walk of the statement that what is read can be spelt.
-/
import Derived.BigQuiet
import Derived.Test.YthfdpfekjcdlbaaGreatDoorErr
import Derived.Test.YthfdpfekjcdlbaaGreatDoorLyk
import Derived.Test.YthfdpfekjcdlbaaGreatDoorLyv
namespace Go.Proofs.YthfdpfekjcdlbaaGreatDoor
open Go.RowKit Go.Lib Classical
set_option linter.unusedVariables false

theorem fact_again : lineS [97, 32, 39, 98, 39, 32, 99] = .ok [(⟨3, 0, 0, [97]⟩, 0), (⟨2, 0, 0, [98]⟩, 2), (⟨3, 0, 0, [99]⟩, 6)] := by rfl
set_option maxRecDepth 100000 in
set_option maxHeartbeats 8000000 in
theorem again_walk (s : ByteArray) (hs : s.size ≤ 9223372036854775807) (w : World) (hT : Lib.Utf8Tabs (Tryz.laysValid_ren.g 3) (Tryz.laysValid_ren.g 4) w) (hr : HasRng w) (hg : HasErr w) (hsp : Spl w) :
    Calls Tryz.prog 4 #[.string s] w fun e w' => e = .returned (.bool true) ∧ Below w.heap.size w w' := by
  have hc1 := line_any17 ⟨#[97, 32, 39, 98, 39, 32, 99]⟩ (by decide) w hT hr
  rw [show lineS (tl (⟨#[97, 32, 39, 98, 39, 32, 99]⟩ : ByteArray) 0) = _ from fact_again] at hc1
  have HT : Hid (Lib.Utf8Tabs (Tryz.laysValid_ren.g 3) (Tryz.laysValid_ren.g 4) w) := hT
  have HR : Hid (HasRng w) := hr
  have HG : Hid (HasErr w) := hg
  have HP : Hid (Spl w) := hsp
  clear hT hr hg hsp
  go_enter Tryz.func4, Tryz.ntmps4
  go_wp2_with fail
  refine hc1.mono ?_
  rintro e w1 ⟨hB1, fa, fc, rfl, hF⟩
  obtain ⟨fg, fo, rfl, _, hfc⟩ := hF.at (j := 1) (by decide)
  have hf4 := (hfc 1 (by decide)).2.2.2.2
  have ht4 : (tkz (rdA [(⟨3, 0, 0, [97]⟩, 0), (⟨2, 0, 0, [98]⟩, 2), (⟨3, 0, 0, [99]⟩, 6)]) 1).2 = 2 := rfl
  rw [ht4] at hf4
  have B1 : Hid (Below w.heap.size w w1) := hB1
  clear hB1 hc1 hF hfc ht4
  simp only [List.length_cons, List.length_nil, Nat.zero_add, Nat.reduceAdd]
  have hc2 := line_any17 s hs w1 (tabs_go HT.out B1.out) (HR.out.go B1.out)
  go_wp2_with fail
  refine hc2.mono ?_
  cases hL : lineS (tl s 0) with
  | error x =>
    obtain ⟨i, c⟩ := x
    rintro e w2 ⟨hB2, rfl⟩
    have B2 : Hid (Below w.heap.size w w2) := B1.out.trans (hB2.mono B1.out.size)
    have hc0 : c ≠ 0 := line_err hL
    rw [errV_pos hc0]
    clear hB2 hc2 hL hf4
    go_wp2_with fail
    go_ret
    exact ⟨rfl, B2.out⟩
  | ok ws =>
    rintro e w2 ⟨hB2, a, cap, rfl, hI⟩
    obtain ⟨hInc, hlen, hpos, hfin⟩ := again17 hL
    have hshort := line_short hL
    have HI : Hid (IsTk w2.heap.size w2 a (rdA ws)) := hI
    have B2 : Hid (Below w.heap.size w w2) := B1.out.trans (hB2.mono B1.out.size)
    have HInc : Hid (Inc 0 ws) := hInc
    have HPos : Hid (∀ v ∈ ws, v.2 < (tl s 0).length ∧ ((tl s 0).getD v.2 0).toNat ≠ 32 ∧ InR v.1.num) := hpos
    have HFin : Hid (spelsS (ws.map Prod.fst) = .bad 7 ∨ ∃ s us, spelsS (ws.map Prod.fst) = .ok s ∧ lineS s = .ok us ∧ us.map Prod.fst = ws.map Prod.fst ∧ s.length ≤ 1000) := hfin
    have HSh : Hid (∀ v ∈ ws, v.1.text.length ≤ 1000) := hshort
    clear hB2 hc2 hL hI hInc hpos hfin hshort hf4
    go_wp2_with fail
    go_loopw [9] (fun v wr => ∃ k : Nat, k ≤ ws.length ∧ v = .int .i64 k ∧ ∃ m, wr = w2.drewN m) (fun v _ => ws.length - (RowKit.intOf v).toNat)
    case atStart => exact ⟨0, Nat.zero_le _, rfl, 0, rfl⟩
    case round =>
      obtain ⟨k, hk, rfl, m, rfl⟩ := hrel
      by_cases hlt : k < ws.length
      · have hlt2 : k < (rdA ws).length := by rw [rdA_length]; exact hlt
        obtain ⟨g, off, rfl, hg, hcell⟩ := HI.out.at hlt2
        have c4 := (hcell k hlt2).2.2.2.2
        rw [rdA_at hlt] at c4
        dsimp only at c4
        obtain ⟨p1, p2, p3⟩ := HPos.out ws[k] (List.getElem_mem hlt)
        rw [tl_len] at p1
        have hbt : bt s ws[k].2 ≠ 32 := p2
        by_cases hk0 : k = 0
        · have kd : decide (0 < k) = false := decide_eq_false (by omega)
          have kdi : decide ((0 : Int) < (k : Int)) = false := decide_eq_false (by omega)
          clear hk0 hcell p2 p3
          generalize ws[k].2 = V at *
          have d1 : decide ((V : Int) < 0) = false := decide_eq_false (by omega)
          have d2 : decide (s.size ≤ V) = false := decide_eq_false (by omega)
          have d2i : decide ((s.size : Int) ≤ (V : Int)) = false := decide_eq_false (by omega)
          have hix := index_at s V (V : Int) rfl (by omega)
          have d3 : ((bt s V : Int) == 32) = false := by rw [beq_eq_false_iff_ne]; omega
          go_wp2_with fail
          go_quiet (fail)
          go_wp2
          go_roundw
          case rel => exact ⟨k + 1, hlt, by go_num, _, rfl⟩
          case measure => simp [RowKit.intOf]; omega
        · obtain ⟨k', rfl⟩ : ∃ k', k = k' + 1 := ⟨k - 1, by omega⟩
          have b4 := (hcell k' (by omega)).2.2.2.2
          rw [rdA_at (by omega : k' < ws.length)] at b4
          dsimp only at b4
          have hinc := Inc.at k' hlt HInc.out
          have kd : decide (0 < k' + 1) = true := decide_eq_true (by omega)
          have kdi : decide ((0 : Int) < ((k' + 1 : Nat) : Int)) = true := decide_eq_true (by omega)
          have kw : IntKind.i64.wrap (((k' + 1 : Nat) : Int) - 1) = (k' : Int) := by rw [IntKind.wrap_i64]; omega
          have kw2 : IntKind.i64.wrap ((k' : Int) + 1 - 1) = (k' : Int) := by rw [IntKind.wrap_i64]; omega
          clear hk0 hcell p2 p3
          generalize (ws[k' + 1]).2 = V at *
          generalize (ws[k']).2 = U at *
          have d1 : decide ((V : Int) < 0) = false := decide_eq_false (by omega)
          have d2 : decide (s.size ≤ V) = false := decide_eq_false (by omega)
          have d2i : decide ((s.size : Int) ≤ (V : Int)) = false := decide_eq_false (by omega)
          have hix := index_at s V (V : Int) rfl (by omega)
          have d3 : ((bt s V : Int) == 32) = false := by rw [beq_eq_false_iff_ne]; omega
          have d4 : decide (V ≤ U) = false := decide_eq_false (by omega)
          have d4i : decide ((V : Int) ≤ (U : Int)) = false := decide_eq_false (by omega)
          go_wp2_with fail
          go_quiet (fail)
          go_wp2
          go_roundw
          case rel => exact ⟨k' + 1 + 1, hlt, by go_num, _, rfl⟩
          case measure => simp [RowKit.intOf]; omega
      · obtain rfl : k = ws.length := by omega
        obtain ⟨w3, hw3⟩ : ∃ w3, w3 = w2.drewN m := ⟨_, rfl⟩
        have hB3 : Below w2.heap.size w2 w3 := by rw [hw3]; exact bel_drewN (Below.refl _ _) _
        have HI3 : Hid (IsTk w3.heap.size w3 a (rdA ws)) := (HI.out.go hB3).mono hB3.size
        have B3 : Hid (Below w.heap.size w w3) := B2.out.trans (hB3.mono B2.out.size)
        have HW3 : Hid (w3 = w2.drewN m) := hw3
        clear hB3 hw3
        have hcs := spell_any17 a cap (rdA ws) (by rw [rdA_length]; omega) w3 HI3.out (fun j hj => by
          rw [rdA_length] at hj
          rw [rdA_at hj]
          exact ⟨(HPos.out _ (List.getElem_mem hj)).2.2, by have := HSh.out _ (List.getElem_mem hj); show (ws[j]).1.text.length ≤ _; omega⟩) (HP.out.go B3.out) (tabs_go HT.out B3.out)
        rw [rdA_length, rdA_fst] at hcs
        go_wp2_with fail
        rw [← HW3.out]
        refine hcs.mono ?_
        rcases HFin.out with hbad | ⟨t, us, hok, hline, hsame, htl⟩
        · rw [hbad]
          rintro e w4 ⟨hB4, rfl⟩
          have B4 : Hid (Below w.heap.size w w4) := B3.out.trans (hB4.mono B3.out.size)
          have he := error_same 7 w4 (HG.out.go B4.out)
          rw [errV_pos (by decide)] at he ⊢
          clear hB4 hcs
          go_wp2_with fail
          refine he.mono ?_
          rintro e w5 ⟨rfl, hB5⟩
          have B5 : Hid (Below w.heap.size w w5) := B4.out.trans (hB5.mono B4.out.size)
          go_wp2_with fail
          go_ret
          exact ⟨rfl, B5.out⟩
        · rw [hok]
          rintro e w4 ⟨hB4, rfl⟩
          have B4 : Hid (Below w.heap.size w w4) := B3.out.trans (hB4.mono B3.out.size)
          have HI4 : Hid (IsTk w4.heap.size w4 a (rdA ws)) := (HI3.out.go hB4).mono hB4.size
          clear hB4 hcs
          have hcr := line_any17 ⟨t.toArray⟩ (by rw [size_mk]; omega) w4 (tabs_go HT.out B4.out) (HR.out.go B4.out)
          rw [show tl (⟨t.toArray⟩ : ByteArray) 0 = t from rfl, hline] at hcr
          have HUL : Hid (us.length = ws.length) := by have := congrArg List.length hsame; rw [List.length_map, List.length_map] at this; exact this
          have HSame : Hid (us.map Prod.fst = ws.map Prod.fst) := hsame
          clear hsame hline hok
          obtain ⟨Y, hY⟩ : ∃ Y : ByteArray, Y = ⟨t.toArray⟩ := ⟨_, rfl⟩
          rw [← hY] at hcr ⊢
          clear hY
          go_wp2_with fail
          refine hcr.mono ?_
          rintro e w5 ⟨hB5, b, bcap, rfl, hJ⟩
          have HJ5 : Hid (IsTk w5.heap.size w5 b (rdA us)) := hJ
          have HI5 : Hid (IsTk w5.heap.size w5 a (rdA ws)) := (HI4.out.go hB5).mono hB5.size
          have B5 : Hid (Below w.heap.size w w5) := B4.out.trans (hB5.mono B4.out.size)
          clear hB5 hcr hJ
          have hb1 := bare_any b bcap (rdA us) (by rw [rdA_length, HUL.out]; exact hlen) w5 HJ5.out
          rw [rdA_length] at hb1
          go_wp2_with fail
          refine hb1.mono ?_
          rintro e w6 ⟨p, pcap, rfl, hP6, hB6⟩
          rw [rdA_length]
          have HP6 : Hid (IsTk w6.heap.size w6 p (barA (rdA us))) := hP6
          have HI6 : Hid (IsTk w6.heap.size w6 a (rdA ws)) := (HI5.out.go hB6).mono hB6.size
          have B6 : Hid (Below w.heap.size w w6) := B5.out.trans (hB6.mono B5.out.size)
          clear hB6 hb1 hP6
          have hb2 := bare_any a cap (rdA ws) (by rw [rdA_length]; omega) w6 HI6.out
          rw [rdA_length] at hb2
          go_wp2_with fail
          refine hb2.mono ?_
          rintro e w7 ⟨q, qcap, rfl, hQ7, hB7⟩
          rw [rdA_length]
          have HP7 : Hid (IsTk w7.heap.size w7 p (barA (rdA us))) := (HP6.out.go hB7).mono hB7.size
          have HQ7 : Hid (IsTk w7.heap.size w7 q (barA (rdA ws))) := hQ7
          have B7 : Hid (Below w.heap.size w w7) := B6.out.trans (hB7.mono B6.out.size)
          clear hB7 hb2 hQ7
          have ht := tokens_any p pcap (barA (rdA us)) q qcap (barA (rdA ws)) (by rw [barA_length, rdA_length, HUL.out]; omega) w7 HP7.out HQ7.out
          rw [barA_length, barA_length, rdA_length, rdA_length, decide_eq_true (barA_eq (by rw [rdA_fst, rdA_fst]; exact HSame.out))] at ht
          go_wp2_with fail
          refine ht.mono ?_
          rintro e w8 ⟨rfl, hB8⟩
          have B8 : Hid (Below w.heap.size w w8) := B7.out.trans (hB8.mono B7.out.size)
          clear hB8 ht
          go_wp2_with fail
          go_ret
          exact ⟨rfl, B8.out⟩
end Go.Proofs.YthfdpfekjcdlbaaGreatDoor
