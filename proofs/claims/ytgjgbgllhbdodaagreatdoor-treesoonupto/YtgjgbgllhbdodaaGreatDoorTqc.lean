/-
  The program's Parse.
-/
import Derived.Test.YtgjgbgllhbdodaaGreatDoorLyj
import Derived.Test.YtgjgbgllhbdodaaGreatDoorTri
import Derived.Test.YtgjgbgllhbdodaaGreatDoorTqb
import Derived.Test.YtgjgbgllhbdodaaGreatDoorTpu
namespace Go.Proofs.YtgjgbgllhbdodaaGreatDoor
open Go.RowKit Go.Lib
set_option linter.unusedVariables false

theorem spel_e {t : Tk} {e : Int} (h : spelS t = .error e) : e = 1 ∨ e = 7 := by
  unfold spelS at h
  have hn : namF t.text = 0 ∨ namF t.text = 1 ∨ namF t.text = 7 := by
    unfold namF
    split
    · exact .inr (.inl rfl)
    · split
      · split
        · exact .inr (.inr rfl)
        · exact .inl rfl
      · exact .inr (.inl rfl)
  repeat (first | (split at h) | (cases h; omega) | (cases h))
theorem spel_one (t : Tk) : ∃ s, spelsS [t] = (if aloF t = 0 then .ok s else .bad (aloF t)) ∧ (aloF t = 0 ∨ aloF t = 1 ∨ aloF t = 7) := by
  unfold spelsS aloF
  rw [if_neg (by simp)]
  simp only [spelsN]
  match e : spelS t with
  | .error c =>
    have := spel_e e
    refine ⟨[], ?_, by simp only []; omega⟩
    simp only []
    rw [if_neg (by omega)]
  | .ok b =>
    refine ⟨b, ?_, ?_⟩
    · simp only [List.nil_append, joinB]
      by_cases h : 1000 < b.length
      · rw [if_pos h, if_pos h, if_neg (by decide)]
      · rw [if_neg h, if_neg h, if_pos rfl]
    · simp only []
      by_cases h : 1000 < b.length
      · rw [if_pos h]; omega
      · rw [if_neg h]; omega
theorem rg_alo {ts : List TkA} (h : Alo (ts.map Prod.fst)) : RgT ts := by
  intro j hj hk
  have hm : (tkz ts j).1 ∈ ts.map Prod.fst := by
    refine List.mem_map.2 ⟨tkz ts j, ?_, rfl⟩
    unfold tkz
    rw [List.getD_eq_getElem?_getD, List.getElem?_eq_getElem hj]
    exact List.getElem_mem hj
  have hf := alo_fld (h _ hm)
  unfold fldF at hf
  simp only [Bool.or_eq_false_iff, decide_eq_false_iff_not] at hf
  by_cases h0 : (tkz ts j).1.fn = 0
  · exact h0
  · exfalso
    revert hf
    simp [hk, h0]
/-- A row of nodes of the call's own, whose numbers can be read. -/
def NodS (lo : Nat) (w : World) (v : Value) (n : Nat) (bs : List NdA) : Prop := NdR (fun _ => True) w w lo v n bs
/-- What Parse tells. -/
def PaP (x : Except (Nat × Int) (List Nod)) (w : World) (e : Ending) (w' : World) : Prop :=
  Below w.heap.size w w' ∧ match x with
    | .error (i, c) => e = .returned (.tuple #[.slice none 0 0, .int .i64 (i : Int), errV c])
    | .ok ns => ∃ (a : Option Addr) (c : Nat) (bs : List NdA) (M : Nat), e = .returned (.tuple #[.slice a M c, .int .i64 0, .nilIface]) ∧ Hid (M = ns.length) ∧ bs.map Prod.fst = ns ∧ NodS w.heap.size w' (.slice a M c) M bs ∧ wsum ns ≤ 200
theorem bad_lx (ts : List TkA) {i : Nat} (h : i < ts.length) : badW (lx ts i) i = if aloF (tkz ts i).1 = 0 then badW (lx ts (i + 1)) (i + 1) else some (i, aloF (tkz ts i).1) := by
  rw [lx_at ts h]; rfl
theorem IsTk.sub {n : Nat} {w : World} {g off : Nat} {ts : List TkA} (h : IsTk n w (some ⟨g, off, none⟩) ts) {j : Nat} (hj : j < ts.length) : IsTk n w (some ⟨g, off + j * 5, none⟩) [tkz ts j] := by
  obtain ⟨g', off', e, hg, hc⟩ := h.at hj
  cases e
  refine .inr ⟨g, off + j * 5, rfl, hg, fun q hq => ?_⟩
  have hq0 : q = 0 := by simpa using hq
  subst hq0
  have := hc j hj
  simpa [tkz] using this
set_option maxRecDepth 100000 in
set_option maxHeartbeats 8000000 in
theorem parse_any18 (a : Option Addr) (cap : Nat) (ts : List TkA) (hlen : ts.length ≤ 9223372036854775807) (hcap : ts.length ≤ cap) (w : World) (hI : IsTk w.heap.size w a ts) (hz : ∀ j, j < ts.length → InR (tkz ts j).1.num ∧ (tkz ts j).1.text.length ≤ 9223372036854775807) (hsp : Spl w)
    (hT : Lib.Utf8Tabs (Tryz.laysValid_ren.g 3) (Tryz.laysValid_ren.g 4) w) :
    Calls Tryz.prog 8 #[.slice a ts.length cap] w (PaP (parS (ts.map Prod.fst)) w) := by
  have HS : Hid (Spl w) := hsp
  have HT : Hid (Lib.Utf8Tabs (Tryz.laysValid_ren.g 3) (Tryz.laysValid_ren.g 4) w) := hT
  have HC : Hid (∀ j, j < ts.length → InR (tkz ts j).1.num ∧ (tkz ts j).1.text.length ≤ 9223372036854775807) := hz
  have HII : Hid (IsTk w.heap.size w a ts) := hI
  clear hsp hT hz hI
  have hmap : (ts.map Prod.fst).length = ts.length := List.length_map _
  by_cases hbig : 200 < ts.length
  · have hb' : (200 : Int) < (ts.length : Int) := by omega
    have HP : Hid (parS (ts.map Prod.fst) = .error (0, 7)) := by show _ = _; unfold parS; rw [hmap, if_pos hbig]
    clear hmap
    go_enter Tryz.func8, Tryz.ntmps8
    go_wp2_with fail
    refine bodyPost_ret (v := .tuple #[.slice none 0 0, .int .i64 0, .iface 36 (.int .i64 7)]) (by simp [results, Tryz.results8, go_sem]) rfl ?_
    rw [HP.out]
    exact ⟨Below.refl _ _, rfl⟩
  have hb' : ¬ (200 : Int) < (ts.length : Int) := by omega
  have hl200 : ts.length ≤ 200 := by omega
  have HP : Hid (parS (ts.map Prod.fst) = (match badW (lx ts 0) 0 with | some x => .error x | none => match lnP (ts.map Prod.fst) with | .error i => .error (i, 1) | .ok ns => .ok ns)) := by
    show _ = _
    unfold parS; rw [hmap, if_neg hbig]; rfl
  clear hmap hbig
  go_enter Tryz.func8, Tryz.ntmps8
  go_wp2_with fail
  go_loopw [16] (fun i wr => ∃ j : Nat, i = .int .i64 j ∧ Hid (j ≤ ts.length ∧ badW (lx ts 0) 0 = badW (lx ts j) j) ∧ Hid (Below w.heap.size w wr)) (fun i _ => ts.length - (RowKit.intOf i).toNat)
  case atStart => exact ⟨0, rfl, ⟨Nat.zero_le _, rfl⟩, Below.refl _ _⟩
  case round =>
    obtain ⟨j, rfl, HJ, HB⟩ := hrel
    by_cases hlt : j < ts.length
    · obtain ⟨g, off, ha, hg, _⟩ := HII.out.at hlt
      subst ha
      have HI1 : Hid (IsTk wr.heap.size wr (some ⟨g, off + j * 5, none⟩) [tkz ts j]) := ((HII.out.sub hlt).go HB.out).mono HB.out.size
      have hc := spell_any17 (some ⟨g, off + j * 5, none⟩) (cap - j) [tkz ts j] (by simp) wr HI1.out (fun q hq => by have hq0 : q = 0 := (by simpa using hq); subst hq0; exact HC.out j hlt) (HS.out.go HB.out) (tabs_go HT.out HB.out)
      obtain ⟨s, hs, hal⟩ := spel_one (tkz ts j).1
      rw [show ([tkz ts j].map Prod.fst) = [(tkz ts j).1] from rfl, hs, show [tkz ts j].length = 1 from rfl] at hc
      have HBW : Hid (badW (lx ts 0) 0 = if aloF (tkz ts j).1 = 0 then badW (lx ts (j + 1)) (j + 1) else some (j, aloF (tkz ts j).1)) := by show _ = _; rw [HJ.out.2, bad_lx ts hlt]
      by_cases h0 : aloF (tkz ts j).1 = 0
      · rw [if_pos h0] at hc
        have HB1 : Hid (badW (lx ts 0) 0 = badW (lx ts (j + 1)) (j + 1)) := by show _ = _; rw [HBW.out, if_pos h0]
        clear hs hal HBW h0
        go_wp2_with fail
        refine hc.mono ?_
        rintro e w1 ⟨hb1, rfl⟩
        have HBn : Hid (Below w.heap.size w w1) := HB.out.trans (hb1.mono HB.out.size)
        clear hb1 hc
        go_wp2_with fail
        exact ⟨⟨j + 1, by go_num, ⟨hlt, HB1.out⟩, HBn⟩, by simp [RowKit.intOf]; omega⟩
      · rw [if_neg h0] at hc
        have HB1 : Hid (parS (ts.map Prod.fst) = .error (j, aloF (tkz ts j).1)) := by show _ = _; rw [HP.out, HBW.out, if_neg h0]
        have hal' : aloF (tkz ts j).1 = 1 ∨ aloF (tkz ts j).1 = 7 := by omega
        clear hs hal HBW h0
        generalize aloF (tkz ts j).1 = c at *
        have hc0 : c ≠ 0 := by omega
        have he : errV c = .iface 36 (.int .i64 c) := errV_pos hc0
        have HV : Hid (errV c = .iface 36 (.int .i64 c)) := he
        clear he hal' hc0
        go_wp2_with fail
        refine hc.mono ?_
        rintro e w1 ⟨hb1, h2⟩
        have h2 : e = .returned (.tuple #[.string ⟨#[]⟩, errV c]) := h2
        rw [HV.out] at h2
        obtain rfl := h2
        have HBn : Hid (Below w.heap.size w w1) := HB.out.trans (hb1.mono HB.out.size)
        clear hb1 hc
        go_wp2_with fail
        refine bodyPost_ret (v := .tuple #[.slice none 0 0, .int .i64 (j : Int), .iface 36 (.int .i64 c)]) (by simp [results, Tryz.results8, go_sem]) rfl ?_
        rw [HB1.out]
        exact ⟨HBn.out, by show Ending.returned _ = Ending.returned (.tuple #[.slice none 0 0, .int .i64 (j : Int), errV c]); rw [HV.out]⟩
    · obtain rfl : j = ts.length := by have := HJ.out.1; omega
      have HBN : Hid (badW (lx ts 0) 0 = none) := by show _ = _; rw [HJ.out.2, lx_end ts (Nat.le_refl _)]; rfl
      have hG : RgT ts := rg_alo (bad_none _ 0 (by rw [← lx_zero]; exact HBN.out))
      have HPL : Hid (parS (ts.map Prod.fst) = (match lnP (ts.map Prod.fst) with | .error i => .error (i, 1) | .ok ns => .ok ns)) := by show _ = _; rw [HP.out, HBN.out]
      obtain ⟨W1, hW1⟩ : ∃ W, W = wr.alloc (.cells #[.slice a ts.length cap, .int .i64 0, .int .i64 0, .bool false] 56) := ⟨_, rfl⟩
      have HR1 : Hid (Rdr W1 wr.heap.size (.slice a ts.length cap) (0 : Nat) 0 false) := by rw [hW1]; exact World.alloc_heap_new wr _
      have HB1 : Hid (Below w.heap.size w W1) := by rw [hW1]; exact HB.out.alloc HB.out.size _
      have HBw : Hid (Below wr.heap.size wr W1) := by rw [hW1]; exact (Below.refl _ wr).alloc (Nat.le_refl _) _
      have HT1 : Hid (IsTk wr.heap.size W1 a ts) := ((HII.out.go HB.out).mono HB.out.size).go HBw.out
      have hln := line_any18 wr.heap.size a cap ts hG (by omega) W1 HR1.out HT1.out
      clear hG
      go_wp2_with fail
      rw [← hW1]
      clear hW1
      cases hL : lnP (ts.map Prod.fst) with
      | error i =>
        rw [hL] at hln
        have HE : Hid (parS (ts.map Prod.fst) = .error (i, 1)) := by show _ = _; rw [HPL.out, hL]
        clear hL HPL HP
        refine hln.mono ?_
        rintro e w3 ⟨v, k, wb, rfl, hE3, hR3, hk, hi, hor⟩
        have HE3 : Hid (Below w.heap.size w w3) := by
          have h1 := HB.out.size
          exact HB1.out.trans ⟨hE3.os, hE3.tape, hE3.output, hE3.size, fun q hq => hE3.block q (by have := HBw.out.size; omega) (by omega)⟩
        have c1 := hR3.c1
        have c3 := hR3.c3
        subst hi
        cases wb with
        | true =>
          clear hE3 hR3 hln hor
          go_wp2_with fail
          go_quiet (fail)
          go_wp2
          refine bodyPost_ret (v := .tuple #[.slice none 0 0, .int .i64 (i : Int), .iface 36 (.int .i64 1)]) (by simp [results, Tryz.results8, go_sem]) rfl ?_
          rw [HE.out]
          exact ⟨bel_drewN HE3.out _, rfl⟩
        | false =>
          have hkl : (i : Int) < (ts.length : Int) := hor.elim (fun h => by cases h) (fun h => by omega)
          clear hE3 hR3 hln hor
          go_wp2_with fail
          go_quiet (fail)
          go_wp2
          refine bodyPost_ret (v := .tuple #[.slice none 0 0, .int .i64 (i : Int), .iface 36 (.int .i64 1)]) (by simp [results, Tryz.results8, go_sem]) rfl ?_
          rw [HE.out]
          exact ⟨bel_drewN HE3.out _, rfl⟩
      | ok ns =>
        rw [hL] at hln
        have HE : Hid (parS (ts.map Prod.fst) = .ok ns) := by show _ = _; rw [HPL.out, hL]
        have hcnt := ln_cnt hL
        rw [List.length_map] at hcnt
        have hcnt2 := wsum_len ns
        clear hL HPL HP
        refine hln.mono ?_
        rintro e w3 ⟨v, k, wb, rfl, hE3, hR3, hk, hkl, rfl, f, hPM⟩
        subst hkl
        have HE3 : Hid (Below w.heap.size w w3) := by
          have h1 := HB.out.size
          exact HB1.out.trans ⟨hE3.os, hE3.tape, hE3.output, hE3.size, fun q hq => hE3.block q (by have := HBw.out.size; omega) (by omega)⟩
        have c1 := hR3.c1
        have c3 := hR3.c3
        obtain ⟨_, Tv, xv, K, rfl, hTv, hC⟩ := nodes_any f _ w3 v ns hPM (by omega)
        have hm := hTv.1
        have hEn := hTv.2
        have hcc := (hC w3 (Below.refl _ _)).mono fun e w' h => nds_q h
        have hlt2 : ¬ ((ts.length : Int) < (ts.length : Int)) := by omega
        clear hE3 hR3 hln hPM hTv hC
        go_wp2_with fail
        refine hcc.mono ?_
        rintro e w4 ⟨la, lc, bs, M, rfl, hM, hmap, hNR, hB4⟩
        have HF : Hid (Below w.heap.size w w4 ∧ Hid (M = ns.length) ∧ bs.map Prod.fst = ns ∧ NodS w.heap.size w4 (.slice la M lc) M bs ∧ wsum ns ≤ 200) :=
          ⟨HE3.out.trans (hB4.mono HE3.out.size), hM, hmap, ⟨hNR.1, own_base18 hNR.2.1 HE3.out.size, fun b hb => by obtain ⟨aa, cc, e1, e2⟩ := hNR.2.2 b hb; exact ⟨aa, cc, e1, (e2.mono fun _ _ _ => trivial).go hB4.size (fun q hq _ => hB4.block q hq)⟩⟩, by omega⟩
        clear hcc hmap hNR hB4 hM
        go_wp2_with fail
        refine bodyPost_ret (v := .tuple #[.slice la M lc, .int .i64 0, .nilIface]) (by simp [results, Tryz.results8, go_sem]) rfl ?_
        rw [HE.out]
        exact ⟨HF.out.1, la, lc, bs, M, rfl, HF.out.2.1, HF.out.2.2.1, HF.out.2.2.2⟩
end Go.Proofs.YtgjgbgllhbdodaaGreatDoor
