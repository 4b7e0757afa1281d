/-
  What the document's answer says is wrong with an array and with some.
-/
import Derived.Test.YtlflacoiidhgoaaDoorAlm
import Derived.Test.YtlflacoiidhgoaaDoorFlaw
namespace Go.Proofs.YtlflacoiidhgoaaDoor
open Go.RowKit
set_option linter.unusedVariables false

set_option maxRecDepth 100000 in
set_option maxHeartbeats 2000000 in
theorem all_any (c : Bool) (sa : Option Addr) (sc : Nat) (sz : List Int) (da : Option Addr) (dc : Nat) (dz : List Int) (ba : Option Addr) (bc : Nat) (bs : List ArV) (h1 : sz.length ≤ 9223372036854775807) (h2 : dz.length ≤ 9223372036854775807) (h3 : bs.length ≤ 9223372036854775807) (w : World) (hs : IsInts w.heap.size w sa sz) (hd : IsInts w.heap.size w da dz) (hb : IsAs w.heap.size w ba bs) :
    Calls Tryd.prog 10 #[.agg #[.bool c, .slice sa sz.length sc, .slice da dz.length dc], .slice ba bs.length bc] w fun e w' => e = .returned (.int .i64 (alE c sz dz (bya bs))) ∧ Below w.heap.size w w' := by
  have HB0 : Hid (Below w.heap.size w (w.alloc (.cells #[.bool c, .slice sa sz.length sc, .slice da dz.length dc] 24))) := (Below.refl _ w).alloc (Nat.le_refl _) _
  have pa := Abx.new w (.bool c) (.slice sa sz.length sc) (.slice da dz.length dc)
  have p0 := pa.c0
  have p1 := pa.c1
  have p2 := pa.c2
  have HI : Hid (IsInts w.heap.size w sa sz ∧ IsInts w.heap.size w da dz ∧ IsAs w.heap.size w ba bs) := ⟨hs, hd, hb⟩
  clear hs hd hb
  go_enter Tryd.func10, Tryd.ntmps10
  go_wp2_with fail
  refine (flaw_any c sa sc sz da dc dz h1 h2 _ ((HI.out.1.below HB0.out).mono HB0.out.size) ((HI.out.2.1.below HB0.out).mono HB0.out.size)).mono ?_
  rintro e v1 ⟨rfl, hC⟩
  have HB1 : Hid (Below w.heap.size w v1) := HB0.out.trans (hC.mono HB0.out.size)
  clear hC pa p0 p1 p2 HB0
  go_wp2_with fail
  go_loopw [5, 6] (fun e i wr => ∃ k : Nat, k ≤ bs.length ∧ i = .int .i64 k ∧ e = .int .i64 (alE c sz dz ((bya bs).take k)) ∧ Below w.heap.size w wr) (fun _ i _ => bs.length - (intOf i).toNat)
  case atStart =>
    refine ⟨0, Nat.zero_le _, rfl, ?_, HB1.out⟩
    rw [List.take_zero]
    by_cases h : flawE c sz dz = 0
    · rw [alE_ok _ h, h]; rfl
    · rw [alE_no _ h]
  case round =>
    obtain ⟨k, hk, rfl, rfl, hB⟩ := hrel
    by_cases hlt : k < bs.length
    · have HT : Hid ((bya bs).take (k + 1) = (bya bs).take k ++ [(arz bs k).ar]) := bya_take bs hlt
      have HS : Hid (alE c sz dz ((bya bs).take (k + 1)) = if alE c sz dz ((bya bs).take k) = 0 then flawE (arz bs k).1 (arz bs k).2.1.2 (arz bs k).2.2.2 else alE c sz dz ((bya bs).take k)) := by show _ = _; rw [HT.out, alE_snoc]; rfl
      have HBw : Hid (Below w.heap.size w wr) := hB
      by_cases he : alE c sz dz ((bya bs).take k) = 0
      · have HN : Hid (alE c sz dz ((bya bs).take (k + 1)) = flawE (arz bs k).1 (arz bs k).2.1.2 (arz bs k).2.2.2) := by show _ = _; rw [HS.out, if_pos he]
        have hav := (HI.out.2.2.below hB).2 k hlt
        obtain ⟨b, off, rfl, hbb, hcell⟩ := (HI.out.2.2.below hB).at hlt
        obtain ⟨c0, c1, c2⟩ := hcell k hlt
        have HAV : Hid (IsAv w.heap.size wr (arz bs k)) := hav
        clear hcell hav HS HT hB
        generalize arz bs k = B at *
        obtain ⟨cb, ⟨⟨sb, scb⟩, szb⟩, ⟨⟨db, dcb⟩, dzb⟩⟩ := B
        unfold ArV.s at c1
        unfold ArV.d at c2
        dsimp only at c0 c1 c2 HAV HN
        rw [he]
        go_wp2_with fail
        refine (flaw_any cb sb scb szb db dcb dzb HAV.out.1 HAV.out.2.1 wr (HAV.out.2.2.1.1.mono HBw.out.size) (HAV.out.2.2.2.1.1.mono HBw.out.size)).mono ?_
        rintro e v2 ⟨rfl, hC⟩
        go_wp2_with fail
        exact ⟨⟨k + 1, by omega, by go_num, int_eq HN.out.symm, HBw.out.trans (hC.mono HBw.out.size)⟩, by simp [intOf]; omega⟩
      · have HN : Hid (alE c sz dz ((bya bs).take (k + 1)) = alE c sz dz ((bya bs).take k)) := by show _ = _; rw [HS.out, if_neg he]
        have t1 : (alE c sz dz ((bya bs).take k) == 0) = false := by simpa using he
        clear hB
        generalize alE c sz dz ((bya bs).take k) = E0 at *
        go_wp2_with fail
        exact ⟨⟨k + 1, by omega, by go_num, int_eq HN.out.symm, HBw.out⟩, by simp [intOf]; omega⟩
    · obtain rfl : k = bs.length := by omega
      have hfin : Hid ((bya bs).take bs.length = bya bs) := List.take_of_length_le (by rw [bya_length]; exact Nat.le_refl _)
      rw [hfin.out]
      go_wp2_with fail
      go_ret
      exact ⟨rfl, hB⟩
end Go.Proofs.YtlflacoiidhgoaaDoor
