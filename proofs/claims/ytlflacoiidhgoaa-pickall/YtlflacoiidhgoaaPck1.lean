/-
  What the program says is wrong with arrays, and with arrays as indices.
-/
import Derived.Test.YtlflacoiidhgoaaAlm
import Derived.Test.YtlflacoiidhgoaaBase
namespace Go.Proofs.Ytlflacoiidhgoaa
open Go.RowKit
set_option linter.unusedVariables false

theorem ret_err7 {e e' : Int} (h0 : e' ≠ 0) (h : e = e') : Ending.returned (.iface 49 (.int .i64 e')) = .returned (errV e) := by rw [h, errV_pos h0]
theorem ret_nil7 {e : Int} (h : e = 0) : Ending.returned .nilIface = .returned (errV e) := by rw [h]; rfl
set_option maxRecDepth 100000 in
set_option maxHeartbeats 2000000 in
theorem chkall_any (c : Bool) (sa : Option Addr) (sc : Nat) (sz : List Int) (da : Option Addr) (dc : Nat) (dz : List Int) (ba : Option Addr) (bc : Nat) (bs : List ArV) (h1 : sz.length ≤ 9223372036854775807) (h2 : dz.length ≤ 9223372036854775807) (h3 : bs.length ≤ 9223372036854775807) (w : World) (hs : IsInts w.heap.size w sa sz) (hd : IsInts w.heap.size w da dz) (hb : IsAs w.heap.size w ba bs) :
    Calls Try.prog 17 #[.agg #[.bool c, .slice sa sz.length sc, .slice da dz.length dc], .slice ba bs.length bc] w fun e w' => e = .returned (errV (alE c sz dz (bya bs))) ∧ Below w.heap.size w w' := by
  have HB0 : Hid (Below w.heap.size w (w.alloc (.cells #[.bool c, .slice sa sz.length sc, .slice da dz.length dc] 24))) := (Below.refl _ w).alloc (Nat.le_refl _) _
  have pa := Abx.new w (.bool c) (.slice sa sz.length sc) (.slice da dz.length dc)
  have p0 := pa.c0
  have p1 := pa.c1
  have p2 := pa.c2
  have HI : Hid (IsInts w.heap.size w sa sz ∧ IsInts w.heap.size w da dz ∧ IsAs w.heap.size w ba bs) := ⟨hs, hd, hb⟩
  clear hs hd hb
  by_cases h0 : flawE c sz dz = 0
  · have HF : Hid (flawE c sz dz = 0) := h0
    have HE : Hid (alE c sz dz (bya bs) = flL (bya bs)) := alE_ok _ h0
    clear h0
    go_enter Try.func17, Try.ntmps17
    go_wp2_with fail
    refine (check_ok c sa sc sz da dc dz h1 h2 _ ((HI.out.1.below HB0.out).mono HB0.out.size) ((HI.out.2.1.below HB0.out).mono HB0.out.size) HF.out).mono ?_
    rintro e v1 ⟨rfl, hC⟩
    have HB1 : Hid (Below w.heap.size w v1) := HB0.out.trans (hC.mono HB0.out.size)
    clear hC pa p0 p1 p2 HB0
    go_wp2_with fail
    go_loopw [16] (fun i wr => ∃ k : Nat, k ≤ bs.length ∧ i = .int .i64 k ∧ Hid (flL ((bya bs).take k) = 0) ∧ Below w.heap.size w wr) (fun i _ => bs.length - (intOf i).toNat)
    case atStart => exact ⟨0, Nat.zero_le _, rfl, rfl, HB1.out⟩
    case round =>
      obtain ⟨k, hk, rfl, HT, hB⟩ := hrel
      by_cases hlt : k < bs.length
      · have hav := (HI.out.2.2.below hB).2 k hlt
        obtain ⟨b, off, rfl, hbb, hcell⟩ := (HI.out.2.2.below hB).at hlt
        obtain ⟨c0, c1, c2⟩ := hcell k hlt
        have HAV : Hid (IsAv w.heap.size wr (arz bs k)) := hav
        have HBw : Hid (Below w.heap.size w wr) := hB
        have HZ : Hid (flawE (arz bs k).1 (arz bs k).2.1.2 (arz bs k).2.2.2 = 0 → flL ((bya bs).take (k + 1)) = 0) := fun q => fl_next bs hlt HT.out q
        have HY : Hid (flawE (arz bs k).1 (arz bs k).2.1.2 (arz bs k).2.2.2 ≠ 0 → flL (bya bs) = flawE (arz bs k).1 (arz bs k).2.1.2 (arz bs k).2.2.2) := fun q => fl_bad bs hlt HT.out q
        clear hcell hav hB HT
        generalize arz bs k = B at *
        obtain ⟨cb, ⟨⟨sb, scb⟩, szb⟩, ⟨⟨db, dcb⟩, dzb⟩⟩ := B
        unfold ArV.s at c1
        unfold ArV.d at c2
        dsimp only at c0 c1 c2 HAV HZ HY
        have HBx : Hid (Below w.heap.size wr (wr.alloc (.cells #[.bool cb, .slice sb szb.length scb, .slice db dzb.length dcb] 24))) := (Below.refl _ wr).alloc HBw.out.size _
        have pb := Abx.new wr (.bool cb) (.slice sb szb.length scb) (.slice db dzb.length dcb)
        have q0 := pb.c0
        have q1 := pb.c1
        have q2 := pb.c2
        by_cases hf : flawE cb szb dzb = 0
        · have HN : Hid (flawE cb szb dzb = 0 ∧ flL ((bya bs).take (k + 1)) = 0) := ⟨hf, HZ.out hf⟩
          clear hf HZ HY
          go_wp2_with fail
          refine (check_ok cb sb scb szb db dcb dzb HAV.out.1 HAV.out.2.1 _ ((HAV.out.2.2.1.1.below HBx.out).mono (HBw.out.trans HBx.out).size) ((HAV.out.2.2.2.1.1.below HBx.out).mono (HBw.out.trans HBx.out).size) HN.out.1).mono ?_
          rintro e v2 ⟨rfl, hC⟩
          clear pb q0 q1 q2 c0 c1 c2
          go_wp2_with fail
          exact ⟨⟨k + 1, by omega, by go_num, HN.out.2, (HBw.out.trans HBx.out).trans (hC.mono (HBw.out.trans HBx.out).size)⟩, by simp [intOf]; omega⟩
        · have HN : Hid (flawE cb szb dzb ≠ 0 ∧ flL (bya bs) = flawE cb szb dzb) := ⟨hf, HY.out hf⟩
          clear hf HZ HY
          go_wp2_with fail
          refine (check_no cb sb scb szb db dcb dzb HAV.out.1 HAV.out.2.1 _ ((HAV.out.2.2.1.1.below HBx.out).mono (HBw.out.trans HBx.out).size) ((HAV.out.2.2.2.1.1.below HBx.out).mono (HBw.out.trans HBx.out).size) HN.out.1).mono ?_
          rintro e v2 ⟨rfl, hC⟩
          clear pb q0 q1 q2 c0 c1 c2
          go_wp2_with fail
          go_ret
          exact ⟨ret_err7 HN.out.1 (by rw [HE.out, HN.out.2]), (HBw.out.trans HBx.out).trans (hC.mono (HBw.out.trans HBx.out).size)⟩
      · obtain rfl : k = bs.length := by omega
        have hfin : Hid (flL (bya bs) = 0) := by
          have := HT.out
          rwa [List.take_of_length_le (by rw [bya_length]; exact Nat.le_refl _)] at this
        clear HT
        go_wp2_with fail
        go_ret
        exact ⟨ret_nil7 (by rw [HE.out, hfin.out]), hB⟩
  · have HF : Hid (flawE c sz dz ≠ 0) := h0
    have HE : Hid (alE c sz dz (bya bs) = flawE c sz dz) := alE_no _ h0
    clear h0
    go_enter Try.func17, Try.ntmps17
    go_wp2_with fail
    refine (check_no c sa sc sz da dc dz h1 h2 _ ((HI.out.1.below HB0.out).mono HB0.out.size) ((HI.out.2.1.below HB0.out).mono HB0.out.size) HF.out).mono ?_
    rintro e v1 ⟨rfl, hC⟩
    have HB1 : Hid (Below w.heap.size w v1) := HB0.out.trans (hC.mono HB0.out.size)
    clear hC pa p0 p1 p2 HB0
    go_wp2_with fail
    go_ret
    exact ⟨ret_err7 HF.out HE.out, HB1.out⟩
set_option maxRecDepth 100000 in
set_option maxHeartbeats 2000000 in
theorem chkidx_any (sa : Option Addr) (sc : Nat) (sz : List Int) (ba : Option Addr) (bc : Nat) (bs : List ArV) (h1 : sz.length ≤ 9223372036854775807) (h3 : bs.length ≤ 9223372036854775807) (w : World) (hb : IsAs w.heap.size w ba bs) :
    Calls Try.prog 30 #[.slice sa sz.length sc, .slice ba bs.length bc] w fun e w' => e = .returned (errV (ciE sz (bya bs))) ∧ Below w.heap.size w w' := by
  have HI : Hid (IsAs w.heap.size w ba bs) := hb
  clear hb
  by_cases hl : bs.length = sz.length
  · have HL : Hid ((bya bs).length = sz.length) := by show _ = _; rw [bya_length]; exact hl
    have tl : ((bs.length : Int) != (sz.length : Int)) = false := by simp [hl]
    clear hl
    go_enter Try.func30, Try.ntmps30
    go_wp2_with fail
    clear tl
    go_loopw [15] (fun i wr => ∃ k : Nat, k ≤ bs.length ∧ i = .int .i64 k ∧ Hid (chL ((bya bs).take k) = false) ∧ Below w.heap.size w wr) (fun i _ => bs.length - (intOf i).toNat)
    case atStart => exact ⟨0, Nat.zero_le _, rfl, rfl, Below.refl _ _⟩
    case round =>
      obtain ⟨k, hk, rfl, HT, hB⟩ := hrel
      by_cases hlt : k < bs.length
      · obtain ⟨b, off, rfl, hbb, hcell⟩ := (HI.out.below hB).at hlt
        obtain ⟨c0, c1, c2⟩ := hcell k hlt
        have HBw : Hid (Below w.heap.size w wr) := hB
        have HZ : Hid ((arz bs k).1 = false → chL ((bya bs).take (k + 1)) = false) := fun q => by rw [chL_take bs hlt, HT.out, q]; rfl
        have HY : Hid ((arz bs k).1 = true → chL (bya bs) = true) := fun q => chL_bad bs hlt q
        clear hcell hB HT
        generalize arz bs k = B at *
        obtain ⟨cb, ⟨⟨sb, scb⟩, szb⟩, ⟨⟨db, dcb⟩, dzb⟩⟩ := B
        unfold ArV.s at c1
        unfold ArV.d at c2
        dsimp only at c0 c1 c2 HZ HY
        have HBx : Hid (Below w.heap.size wr (wr.alloc (.cells #[.bool cb, .slice sb szb.length scb, .slice db dzb.length dcb] 24))) := (Below.refl _ wr).alloc HBw.out.size _
        have pb := Abx.new wr (.bool cb) (.slice sb szb.length scb) (.slice db dzb.length dcb)
        have q0 := pb.c0
        have q1 := pb.c1
        have q2 := pb.c2
        cases cb
        · have HN : Hid (chL ((bya bs).take (k + 1)) = false) := HZ.out rfl
          clear HZ HY
          go_wp2_with fail
          exact ⟨⟨k + 1, by omega, by go_num, HN.out, HBw.out.trans HBx.out⟩, by simp [intOf]; omega⟩
        · have HN : Hid (chL (bya bs) = true) := HY.out rfl
          clear HZ HY
          go_wp2_with fail
          go_ret
          exact ⟨ret_err7 (by decide) (by unfold ciE; rw [if_neg (not_not_intro HL.out), if_pos HN.out]), HBw.out.trans HBx.out⟩
      · obtain rfl : k = bs.length := by omega
        have hfin : Hid (chL (bya bs) = false) := by
          have := HT.out
          rwa [List.take_of_length_le (by rw [bya_length]; exact Nat.le_refl _)] at this
        clear HT
        go_wp2_with fail
        go_ret
        exact ⟨ret_nil7 (ciE_zero.2 ⟨HL.out, hfin.out⟩), hB⟩
  · have HE : Hid (ciE sz (bya bs) = 3) := by show ciE _ _ = _; unfold ciE; rw [if_pos (by rw [bya_length]; exact hl)]
    have tl : ((bs.length : Int) != (sz.length : Int)) = true := by simp; omega
    clear hl
    go_enter Try.func30, Try.ntmps30
    go_wp2_with fail
    go_ret
    exact ⟨ret_err7 (by decide) HE.out, Below.refl _ _⟩
end Go.Proofs.Ytlflacoiidhgoaa
