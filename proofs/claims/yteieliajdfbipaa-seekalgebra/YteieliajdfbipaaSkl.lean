/-
  Arrays that should have one axis; an array of these cells on one axis: what the program tells.
-/
import Derived.Test.YteieliajdfbipaaSck
import Derived.Test.YteieliajdfbipaaCapi
namespace Go.Proofs.Yteieliajdfbipaa
open Go.RowKit
set_option linter.unusedVariables false

set_option maxRecDepth 100000 in
set_option maxHeartbeats 2000000 in
theorem chklines_any (c : Bool) (sa : Option Addr) (sc : Nat) (sz : List Int) (da : Option Addr) (dc : Nat) (dz : List Int) (ba : Option Addr) (bc : Nat) (bs : List BrV) (h1 : sz.length ≤ 9223372036854775807) (h2 : dz.length ≤ 9223372036854775807) (h3 : bs.length ≤ 9223372036854775807) (w : World) (hs : IsInts w.heap.size w sa sz) (hd : IsInts w.heap.size w da dz) (hb : IsBs w.heap.size w ba bs) :
    Calls Try.prog 22 #[.agg #[.bool c, .slice sa sz.length sc, .slice da dz.length dc], .slice ba bs.length bc] w fun e w' => e = .returned (errV (lnE c sz dz bs)) ∧ Below w.heap.size w w' := by
  have HB0 : Hid (Below w.heap.size w (w.alloc (.cells #[.bool c, .slice sa sz.length sc, .slice da dz.length dc] 24))) := (Below.refl _ w).alloc (Nat.le_refl _) _
  have pa := Abx.new w (.bool c) (.slice sa sz.length sc) (.slice da dz.length dc)
  have p0 := pa.c0
  have p1 := pa.c1
  have p2 := pa.c2
  have HI : Hid (IsInts w.heap.size w sa sz ∧ IsInts w.heap.size w da dz ∧ IsBs w.heap.size w ba bs) := ⟨hs, hd, hb⟩
  have hp := chkall8 c sa sc sz da dc dz ba bc bs h1 h2 h3 (w.alloc (.cells #[.bool c, .slice sa sz.length sc, .slice da dz.length dc] 24)) ((HI.out.1.below HB0.out).mono HB0.out.size) ((HI.out.2.1.below HB0.out).mono HB0.out.size) ((HI.out.2.2.below HB0.out).mono HB0.out.size)
  clear hs hd hb
  by_cases h0 : bsE c sz dz bs = 0
  · have HE : Hid (lnE c sz dz bs = if sz.length ≠ 1 ∨ lnB bs = false then 3 else 0) := by show _ = _; unfold lnE; rw [if_neg (not_not_intro h0)]
    have er0 : errV 0 = .nilIface := rfl
    rw [h0, er0] at hp
    clear h0 er0
    go_enter Try.func22, Try.ntmps22
    go_wp2_with fail
    refine hp.mono ?_
    clear hp
    rintro e v1 ⟨rfl, hC⟩
    have HB1 : Hid (Below w.heap.size w v1) := HB0.out.trans (hC.mono HB0.out.size)
    have HP : Hid (Abx v1 w.heap.size (.bool c) (.slice sa sz.length sc) (.slice da dz.length dc)) := pa.go hC
    clear hC pa p0 p1 p2 HB0
    have a0 := HP.out.c0
    have a1 := HP.out.c1
    have a2 := HP.out.c2
    go_wp2_with fail
    refine (isline_any c sa sc sz (.slice da dz.length dc) v1).mono ?_
    rintro e v2 ⟨rfl, hC⟩
    have HB2 : Hid (Below w.heap.size w v2) := HB1.out.trans (hC.mono HB1.out.size)
    clear hC a0 a1 a2
    by_cases hl : sz.length = 1
    · rw [decide_eq_true hl]
      have HL : Hid (sz.length = 1) := hl
      clear hl
      go_wp2_with fail
      go_loopw [20] (fun i wr => ∃ k : Nat, k ≤ bs.length ∧ i = .int .i64 k ∧ Hid (lnB (bs.take k) = true) ∧ Below w.heap.size w wr) (fun i _ => bs.length - (intOf i).toNat)
      case atStart => exact ⟨0, Nat.zero_le _, rfl, rfl, HB2.out⟩
      case round =>
        obtain ⟨k, hk, rfl, HT, hB⟩ := hrel
        by_cases hlt : k < bs.length
        · obtain ⟨b, off, rfl, hbb, hcell⟩ := (HI.out.2.2.below hB).at hlt
          obtain ⟨c0, c1, c2⟩ := hcell k hlt
          have HBw : Hid (Below w.heap.size w wr) := hB
          have HZ : Hid ((brz bs k).2.1.2.length = 1 → lnB (bs.take (k + 1)) = true) := fun q => lnB_next hlt HT.out q
          have HY : Hid ((brz bs k).2.1.2.length ≠ 1 → lnB bs = false) := fun q => lnB_bad hlt q
          clear hcell hB HT
          generalize brz bs k = B at *
          obtain ⟨cb, ⟨⟨sb, scb⟩, szb⟩, ⟨⟨db, dcb⟩, dzb⟩⟩ := B
          unfold BrV.s at c1
          unfold BrV.d at c2
          dsimp only at c0 c1 c2 HZ HY
          have HBx : Hid (Below w.heap.size wr (wr.alloc (.cells #[.bool cb, .slice sb szb.length scb, .slice db dzb.length dcb] 24))) := (Below.refl _ wr).alloc HBw.out.size _
          have pb := Abx.new wr (.bool cb) (.slice sb szb.length scb) (.slice db dzb.length dcb)
          have q0 := pb.c0
          have q1 := pb.c1
          have q2 := pb.c2
          go_wp2_with fail
          refine (isline_any cb sb scb szb (.slice db dzb.length dcb) _).mono ?_
          rintro e v3 ⟨rfl, hC⟩
          have HB3 : Hid (Below w.heap.size w v3) := (HBw.out.trans HBx.out).trans (hC.mono (HBw.out.trans HBx.out).size)
          clear hC pb q0 q1 q2 c0 c1 c2
          by_cases hf : szb.length = 1
          · rw [decide_eq_true hf]
            have HN : Hid (lnB (bs.take (k + 1)) = true) := HZ.out hf
            clear hf HZ HY
            go_wp2_with fail
            exact ⟨⟨k + 1, by omega, by go_num, HN.out, HB3.out⟩, by simp [intOf]; omega⟩
          · rw [decide_eq_false hf]
            have HN : Hid (lnB bs = false) := HY.out hf
            clear hf HZ HY
            go_wp2_with fail
            go_ret
            exact ⟨ret_err8 (by decide) (by rw [HE.out, if_pos (.inr HN.out)]), HB3.out⟩
        · obtain rfl : k = bs.length := by omega
          have hfin : Hid (lnB bs = true) := by
            have := HT.out
            rwa [List.take_of_length_le (Nat.le_refl _)] at this
          clear HT
          go_wp2_with fail
          go_ret
          exact ⟨ret_nil8 (by rw [HE.out, if_neg (by rw [hfin.out, HL.out]; simp)]), hB⟩
    · rw [decide_eq_false hl]
      have HL : Hid (sz.length ≠ 1) := hl
      clear hl
      go_wp2_with fail
      go_ret
      exact ⟨ret_err8 (by decide) (by rw [HE.out, if_pos (.inl HL.out)]), HB2.out⟩
  · have HE : Hid (lnE c sz dz bs = bsE c sz dz bs ∧ bsE c sz dz bs ≠ 0) := ⟨by unfold lnE; rw [if_pos h0], h0⟩
    rw [errV_pos h0] at hp
    clear h0
    go_enter Try.func22, Try.ntmps22
    go_wp2_with fail
    refine hp.mono ?_
    clear hp
    rintro e v1 ⟨rfl, hC⟩
    have HB1 : Hid (Below w.heap.size w v1) := HB0.out.trans (hC.mono HB0.out.size)
    clear hC pa p0 p1 p2 HB0
    go_wp2_with fail
    go_ret
    exact ⟨ret_err8 HE.out.2 HE.out.1, HB1.out⟩
set_option maxRecDepth 100000 in
set_option maxHeartbeats 1000000 in
theorem line8_any (c : Bool) (a : Option Addr) (cap : Nat) (zs : List Int) (w : World) :
    Calls Try.prog 23 #[.bool c, .slice a zs.length cap] w fun e w' => ∃ sa sc, e = .returned (.agg #[.bool c, .slice sa 1 sc, .slice a zs.length cap]) ∧ NewC w.heap.size w' sa [(zs.length : Int)] sc ∧ Below w.heap.size w w' := by
  go_enter Try.func23, Try.ntmps23
  go_wp2_with fail
  refine bodyPost_ret (v := .agg #[.bool c, .slice (some ⟨w.heap.size + 1, 0, none⟩) 1 1, .slice a zs.length cap]) (by simp [results, Try.results23, go_sem]) rfl ⟨some ⟨w.heap.size + 1, 0, none⟩, 1, rfl, ⟨?_, Nat.le_refl _⟩, ((Below.refl _ w).alloc (Nat.le_refl _) _).alloc (by simp) _⟩
  have := new_ints1 (w.alloc (.cells #[.bool c, .slice (some ⟨w.heap.size + 1, 0, none⟩) 1 1, .slice a zs.length cap] 24)) 3 zs.length
  rw [World.size_alloc w] at this
  exact this.low (by omega)
end Go.Proofs.Yteieliajdfbipaa
