/-
  Alm Pck1 Equal Pck2, together.
-/
import Derived.Test.YteddkfeiikdekaaPikq
import Derived.Test.YteddkfeiikdekaaBase
import Derived.Deep.QuietTactic
import Derived.BigQuiet
import Derived.Test.YteddkfeiikdekaaPapp
/-! Alm: What is wrong with an array and with some: plain mathematics. -/
namespace Go.Proofs.Yteddkfeiikdekaa
open Go.RowKit
set_option linter.unusedVariables false

def alE (c : Bool) (s dz : List Int) (bys : List Ar) : Int := if flawE c s dz ≠ 0 then flawE c s dz else flL bys
theorem flL_ok {x : Ar} (r : List Ar) (h : flawE x.1 x.2.1 x.2.2 = 0) : flL (x :: r) = flL r := if_neg (not_not_intro h)
theorem flL_no {x : Ar} (r : List Ar) (h : flawE x.1 x.2.1 x.2.2 ≠ 0) : flL (x :: r) = flawE x.1 x.2.1 x.2.2 := if_pos h
theorem alE_ok {c : Bool} {s dz : List Int} (l : List Ar) (h : flawE c s dz = 0) : alE c s dz l = flL l := if_neg (not_not_intro h)
theorem alE_no {c : Bool} {s dz : List Int} (l : List Ar) (h : flawE c s dz ≠ 0) : alE c s dz l = flawE c s dz := if_pos h
theorem flL_snoc (l : List Ar) (b : Ar) : flL (l ++ [b]) = if flL l = 0 then flawE b.1 b.2.1 b.2.2 else flL l := by
  induction l with
  | nil =>
    show flL [b] = if (0 : Int) = 0 then _ else _
    rw [if_pos rfl]
    by_cases h : flawE b.1 b.2.1 b.2.2 = 0
    · rw [flL_ok _ h, h]; rfl
    · rw [flL_no _ h]
  | cons x r ih =>
    rw [List.cons_append]
    by_cases h : flawE x.1 x.2.1 x.2.2 = 0
    · rw [flL_ok _ h, flL_ok _ h, ih]
    · rw [flL_no _ h, flL_no _ h, if_neg h]
theorem alE_snoc (c : Bool) (s dz : List Int) (l : List Ar) (b : Ar) : alE c s dz (l ++ [b]) = if alE c s dz l = 0 then flawE b.1 b.2.1 b.2.2 else alE c s dz l := by
  by_cases h : flawE c s dz = 0
  · rw [alE_ok _ h, alE_ok _ h, flL_snoc]
  · rw [alE_no _ h, alE_no _ h, if_neg h]
theorem alE_zero {c : Bool} {s dz : List Int} {bys : List Ar} (h : alE c s dz bys = 0) : flawE c s dz = 0 ∧ flL bys = 0 := by
  by_cases e : flawE c s dz = 0
  · rw [alE_ok _ e] at h; exact ⟨e, h⟩
  · rw [alE_no _ e] at h; exact absurd h e
theorem pkE_al {c : Bool} {s dz : List Int} {bys : List Ar} (h : alE c s dz bys ≠ 0) : pkE c s dz bys = alE c s dz bys := by
  unfold pkE
  by_cases e : flawE c s dz = 0
  · rw [alE_ok _ e] at h ⊢
    rw [if_neg (not_not_intro e), if_pos h]
  · rw [alE_no _ e, if_pos e]
theorem pkE_nm {c : Bool} {s dz : List Int} {bys : List Ar} (h : alE c s dz bys = 0) : pkE c s dz bys = nmE s bys := by
  unfold pkE
  rw [if_neg (not_not_intro (alE_zero h).1), if_neg (not_not_intro (alE_zero h).2)]
theorem flL_append (l r : List Ar) (h : flL l = 0) : flL (l ++ r) = flL r := by
  induction l with
  | nil => rfl
  | cons x l ih =>
    obtain ⟨h1, h2⟩ := flL_cons h
    rw [List.cons_append, flL_ok _ h1, ih h2]
theorem fl_next (bs : List ArV) {k : Nat} (h : k < bs.length) (h0 : flL ((bya bs).take k) = 0) (hf : flawE (arz bs k).1 (arz bs k).2.1.2 (arz bs k).2.2.2 = 0) : flL ((bya bs).take (k + 1)) = 0 := by
  rw [bya_take bs h, flL_append _ _ h0, flL_ok _ hf]; rfl
theorem fl_bad (bs : List ArV) {k : Nat} (h : k < bs.length) (h0 : flL ((bya bs).take k) = 0) (hf : flawE (arz bs k).1 (arz bs k).2.1.2 (arz bs k).2.2.2 ≠ 0) : flL (bya bs) = flawE (arz bs k).1 (arz bs k).2.1.2 (arz bs k).2.2.2 := by
  rw [bya_cut bs h, flL_append _ _ h0]
  exact flL_no _ hf
/-- Why arrays are no indices of the axes, whatever their numbers are. -/
def ciE (s : List Int) (bys : List Ar) : Int := if bys.length ≠ s.length then 3 else if chL bys = true then 6 else 0
theorem ciE_zero {s : List Int} {bys : List Ar} : ciE s bys = 0 ↔ bys.length = s.length ∧ chL bys = false := by
  unfold ciE
  by_cases h : bys.length = s.length
  · rw [if_neg (not_not_intro h)]
    cases hc : chL bys <;> simp [h]
  · rw [if_pos h]; exact ⟨fun e => absurd e (by decide), fun e => absurd e.1 h⟩
theorem nmE_ci {s : List Int} {bys : List Ar} (h : ciE s bys ≠ 0) : nmE s bys = ciE s bys := by
  unfold ciE at h ⊢
  unfold nmE
  by_cases h1 : bys.length = s.length
  · rw [if_neg (not_not_intro h1)] at h ⊢
    rw [if_neg (not_not_intro h1)]
    by_cases h2 : chL bys = true
    · rw [if_pos h2, if_pos h2]
    · rw [if_neg h2] at h; exact absurd rfl h
  · rw [if_pos h1, if_pos h1]
theorem nmE_err {s : List Int} {bys : List Ar} (h : ciE s bys = 0) (he : errOf (pkS bys) ≠ 0) : nmE s bys = errOf (pkS bys) := by
  obtain ⟨h1, h2⟩ := ciE_zero.1 h
  unfold nmE
  rw [if_neg (not_not_intro h1), if_neg (by rw [h2]; decide), if_pos he]
theorem nmE_ix {s : List Int} {bys : List Ar} (h : ciE s bys = 0) (he : errOf (pkS bys) = 0) (hi : ixB bys s = false) : nmE s bys = 5 := by
  obtain ⟨h1, h2⟩ := ciE_zero.1 h
  unfold nmE
  rw [if_neg (not_not_intro h1), if_neg (by rw [h2]; decide), if_neg (not_not_intro he), if_pos hi]
theorem nmE_ok {s : List Int} {bys : List Ar} (h : ciE s bys = 0) (he : errOf (pkS bys) = 0) (hi : ixB bys s = true) : nmE s bys = 0 := by
  obtain ⟨h1, h2⟩ := ciE_zero.1 h
  exact nmE_zero.2 ⟨h1, h2, he, hi⟩
end Go.Proofs.Yteddkfeiikdekaa
/-! Pck1: What the program says is wrong with arrays, and with arrays as indices. -/
namespace Go.Proofs.Yteddkfeiikdekaa
open Go.RowKit
set_option linter.unusedVariables false

theorem ret_err7 {e e' : Int} (h0 : e' ≠ 0) (h : e = e') : Ending.returned (.iface 57 (.int .i64 e')) = .returned (errV e) := by rw [h, errV_pos h0]
theorem ret_nil7 {e : Int} (h : e = 0) : Ending.returned .nilIface = .returned (errV e) := by rw [h]; rfl
set_option maxRecDepth 100000 in
set_option maxHeartbeats 2000000 in
theorem chkall_any (c : Bool) (sa : Option Addr) (sc : Nat) (sz : List Int) (da : Option Addr) (dc : Nat) (dz : List Int) (ba : Option Addr) (bc : Nat) (bs : List ArV) (h1 : sz.length ≤ 9223372036854775807) (h2 : dz.length ≤ 9223372036854775807) (h3 : bs.length ≤ 9223372036854775807) (w : World) (hs : IsInts w.heap.size w sa sz) (hd : IsInts w.heap.size w da dz) (hb : IsAs w.heap.size w ba bs) :
    Calls Try.prog 41 #[.agg #[.bool c, .slice sa sz.length sc, .slice da dz.length dc], .slice ba bs.length bc] w fun e w' => e = .returned (errV (alE c sz dz (bya bs))) ∧ Below w.heap.size w w' := by
  have HB0 : Hid (Below w.heap.size w (w.alloc (.cells #[.bool c, .slice sa sz.length sc, .slice da dz.length dc] 24))) := (Below.refl _ w).alloc (Nat.le_refl _) _
  have pa := Abx.new w (.bool c) (.slice sa sz.length sc) (.slice da dz.length dc)
  have p0 := pa.c0
  have p1 := pa.c1
  have p2 := pa.c2
  have HI : Hid (IsInts w.heap.size w sa sz ∧ IsInts w.heap.size w da dz ∧ IsAs w.heap.size w ba bs) := ⟨hs, hd, hb⟩
  clear hs hd hb
  by_cases h0 : flawE c sz dz = 0
  · have HF : Hid (flawE c sz dz = 0) := h0
    have HE : Hid (alE c sz dz (bya bs) = flL (bya bs)) := alE_ok _ h0
    clear h0
    go_enter Try.func41, Try.ntmps41
    go_wp2_with fail
    refine (check_ok c sa sc sz da dc dz h1 h2 _ ((HI.out.1.below HB0.out).mono HB0.out.size) ((HI.out.2.1.below HB0.out).mono HB0.out.size) HF.out).mono ?_
    rintro e v1 ⟨rfl, hC⟩
    have HB1 : Hid (Below w.heap.size w v1) := HB0.out.trans (hC.mono HB0.out.size)
    clear hC pa p0 p1 p2 HB0
    go_wp2_with fail
    go_loopw [16] (fun i wr => ∃ k : Nat, k ≤ bs.length ∧ i = .int .i64 k ∧ Hid (flL ((bya bs).take k) = 0) ∧ Below w.heap.size w wr) (fun i _ => bs.length - (intOf i).toNat)
    case atStart => exact ⟨0, Nat.zero_le _, rfl, rfl, HB1.out⟩
    case round =>
      obtain ⟨k, hk, rfl, HT, hB⟩ := hrel
      by_cases hlt : k < bs.length
      · have hav := (HI.out.2.2.below hB).2 k hlt
        obtain ⟨b, off, rfl, hbb, hcell⟩ := (HI.out.2.2.below hB).at hlt
        obtain ⟨c0, c1, c2⟩ := hcell k hlt
        have HAV : Hid (IsAv w.heap.size wr (arz bs k)) := hav
        have HBw : Hid (Below w.heap.size w wr) := hB
        have HZ : Hid (flawE (arz bs k).1 (arz bs k).2.1.2 (arz bs k).2.2.2 = 0 → flL ((bya bs).take (k + 1)) = 0) := fun q => fl_next bs hlt HT.out q
        have HY : Hid (flawE (arz bs k).1 (arz bs k).2.1.2 (arz bs k).2.2.2 ≠ 0 → flL (bya bs) = flawE (arz bs k).1 (arz bs k).2.1.2 (arz bs k).2.2.2) := fun q => fl_bad bs hlt HT.out q
        clear hcell hav hB HT
        generalize arz bs k = B at *
        obtain ⟨cb, ⟨⟨sb, scb⟩, szb⟩, ⟨⟨db, dcb⟩, dzb⟩⟩ := B
        unfold ArV.s at c1
        unfold ArV.d at c2
        dsimp only at c0 c1 c2 HAV HZ HY
        have HBx : Hid (Below w.heap.size wr (wr.alloc (.cells #[.bool cb, .slice sb szb.length scb, .slice db dzb.length dcb] 24))) := (Below.refl _ wr).alloc HBw.out.size _
        have pb := Abx.new wr (.bool cb) (.slice sb szb.length scb) (.slice db dzb.length dcb)
        have q0 := pb.c0
        have q1 := pb.c1
        have q2 := pb.c2
        by_cases hf : flawE cb szb dzb = 0
        · have HN : Hid (flawE cb szb dzb = 0 ∧ flL ((bya bs).take (k + 1)) = 0) := ⟨hf, HZ.out hf⟩
          clear hf HZ HY
          go_wp2_with fail
          refine (check_ok cb sb scb szb db dcb dzb HAV.out.1 HAV.out.2.1 _ ((HAV.out.2.2.1.1.below HBx.out).mono (HBw.out.trans HBx.out).size) ((HAV.out.2.2.2.1.1.below HBx.out).mono (HBw.out.trans HBx.out).size) HN.out.1).mono ?_
          rintro e v2 ⟨rfl, hC⟩
          clear pb q0 q1 q2 c0 c1 c2
          go_wp2_with fail
          exact ⟨⟨k + 1, by omega, by go_num, HN.out.2, (HBw.out.trans HBx.out).trans (hC.mono (HBw.out.trans HBx.out).size)⟩, by simp [intOf]; omega⟩
        · have HN : Hid (flawE cb szb dzb ≠ 0 ∧ flL (bya bs) = flawE cb szb dzb) := ⟨hf, HY.out hf⟩
          clear hf HZ HY
          go_wp2_with fail
          refine (check_no cb sb scb szb db dcb dzb HAV.out.1 HAV.out.2.1 _ ((HAV.out.2.2.1.1.below HBx.out).mono (HBw.out.trans HBx.out).size) ((HAV.out.2.2.2.1.1.below HBx.out).mono (HBw.out.trans HBx.out).size) HN.out.1).mono ?_
          rintro e v2 ⟨rfl, hC⟩
          clear pb q0 q1 q2 c0 c1 c2
          go_wp2_with fail
          go_ret
          exact ⟨ret_err7 HN.out.1 (by rw [HE.out, HN.out.2]), (HBw.out.trans HBx.out).trans (hC.mono (HBw.out.trans HBx.out).size)⟩
      · obtain rfl : k = bs.length := by omega
        have hfin : Hid (flL (bya bs) = 0) := by
          have := HT.out
          rwa [List.take_of_length_le (by rw [bya_length]; exact Nat.le_refl _)] at this
        clear HT
        go_wp2_with fail
        go_ret
        exact ⟨ret_nil7 (by rw [HE.out, hfin.out]), hB⟩
  · have HF : Hid (flawE c sz dz ≠ 0) := h0
    have HE : Hid (alE c sz dz (bya bs) = flawE c sz dz) := alE_no _ h0
    clear h0
    go_enter Try.func41, Try.ntmps41
    go_wp2_with fail
    refine (check_no c sa sc sz da dc dz h1 h2 _ ((HI.out.1.below HB0.out).mono HB0.out.size) ((HI.out.2.1.below HB0.out).mono HB0.out.size) HF.out).mono ?_
    rintro e v1 ⟨rfl, hC⟩
    have HB1 : Hid (Below w.heap.size w v1) := HB0.out.trans (hC.mono HB0.out.size)
    clear hC pa p0 p1 p2 HB0
    go_wp2_with fail
    go_ret
    exact ⟨ret_err7 HF.out HE.out, HB1.out⟩
set_option maxRecDepth 100000 in
set_option maxHeartbeats 2000000 in
theorem chkidx_any (sa : Option Addr) (sc : Nat) (sz : List Int) (ba : Option Addr) (bc : Nat) (bs : List ArV) (h1 : sz.length ≤ 9223372036854775807) (h3 : bs.length ≤ 9223372036854775807) (w : World) (hb : IsAs w.heap.size w ba bs) :
    Calls Try.prog 59 #[.slice sa sz.length sc, .slice ba bs.length bc] w fun e w' => e = .returned (errV (ciE sz (bya bs))) ∧ Below w.heap.size w w' := by
  have HI : Hid (IsAs w.heap.size w ba bs) := hb
  clear hb
  by_cases hl : bs.length = sz.length
  · have HL : Hid ((bya bs).length = sz.length) := by show _ = _; rw [bya_length]; exact hl
    have tl : ((bs.length : Int) != (sz.length : Int)) = false := by simp [hl]
    clear hl
    go_enter Try.func59, Try.ntmps59
    go_wp2_with fail
    clear tl
    go_loopw [15] (fun i wr => ∃ k : Nat, k ≤ bs.length ∧ i = .int .i64 k ∧ Hid (chL ((bya bs).take k) = false) ∧ Below w.heap.size w wr) (fun i _ => bs.length - (intOf i).toNat)
    case atStart => exact ⟨0, Nat.zero_le _, rfl, rfl, Below.refl _ _⟩
    case round =>
      obtain ⟨k, hk, rfl, HT, hB⟩ := hrel
      by_cases hlt : k < bs.length
      · obtain ⟨b, off, rfl, hbb, hcell⟩ := (HI.out.below hB).at hlt
        obtain ⟨c0, c1, c2⟩ := hcell k hlt
        have HBw : Hid (Below w.heap.size w wr) := hB
        have HZ : Hid ((arz bs k).1 = false → chL ((bya bs).take (k + 1)) = false) := fun q => by rw [chL_take bs hlt, HT.out, q]; rfl
        have HY : Hid ((arz bs k).1 = true → chL (bya bs) = true) := fun q => chL_bad bs hlt q
        clear hcell hB HT
        generalize arz bs k = B at *
        obtain ⟨cb, ⟨⟨sb, scb⟩, szb⟩, ⟨⟨db, dcb⟩, dzb⟩⟩ := B
        unfold ArV.s at c1
        unfold ArV.d at c2
        dsimp only at c0 c1 c2 HZ HY
        have HBx : Hid (Below w.heap.size wr (wr.alloc (.cells #[.bool cb, .slice sb szb.length scb, .slice db dzb.length dcb] 24))) := (Below.refl _ wr).alloc HBw.out.size _
        have pb := Abx.new wr (.bool cb) (.slice sb szb.length scb) (.slice db dzb.length dcb)
        have q0 := pb.c0
        have q1 := pb.c1
        have q2 := pb.c2
        cases cb
        · have HN : Hid (chL ((bya bs).take (k + 1)) = false) := HZ.out rfl
          clear HZ HY
          go_wp2_with fail
          exact ⟨⟨k + 1, by omega, by go_num, HN.out, HBw.out.trans HBx.out⟩, by simp [intOf]; omega⟩
        · have HN : Hid (chL (bya bs) = true) := HY.out rfl
          clear HZ HY
          go_wp2_with fail
          go_ret
          exact ⟨ret_err7 (by decide) (by unfold ciE; rw [if_neg (not_not_intro HL.out), if_pos HN.out]), HBw.out.trans HBx.out⟩
      · obtain rfl : k = bs.length := by omega
        have hfin : Hid (chL (bya bs) = false) := by
          have := HT.out
          rwa [List.take_of_length_le (by rw [bya_length]; exact Nat.le_refl _)] at this
        clear HT
        go_wp2_with fail
        go_ret
        exact ⟨ret_nil7 (ciE_zero.2 ⟨HL.out, hfin.out⟩), hB⟩
  · have HE : Hid (ciE sz (bya bs) = 3) := by show ciE _ _ = _; unfold ciE; rw [if_pos (by rw [bya_length]; exact hl)]
    have tl : ((bs.length : Int) != (sz.length : Int)) = true := by simp; omega
    clear hl
    go_enter Try.func59, Try.ntmps59
    go_wp2_with fail
    go_ret
    exact ⟨ret_err7 (by decide) HE.out, Below.refl _ _⟩
end Go.Proofs.Yteddkfeiikdekaa
/-! Equal: Are two lists the same? What the library's slices.Equal tells. -/
namespace Go.Proofs.Yteddkfeiikdekaa
open Go.RowKit
set_option linter.unusedVariables false

set_option maxRecDepth 100000 in
set_option maxHeartbeats 1000000 in
theorem equal_any (a : Option Addr) (cap : Nat) (zs : List Int) (a' : Option Addr) (cap' : Nat) (us : List Int) (hreach : zs.length ≤ 9223372036854775807) (n₀ : Nat) (w : World) (hI : IsInts n₀ w a zs) (hI' : IsInts n₀ w a' us) :
    Calls Try.prog 54 #[.slice a zs.length cap, .slice a' us.length cap'] w fun e w' => e = .returned (.bool (eqB zs us)) ∧ ∃ m, w' = w.drewN m := by
  by_cases hlen : zs.length = us.length
  · have hl : ((zs.length : Int) != (us.length : Int)) = false := by simp [hlen]
    have H : Hid (zs.length = us.length) := hlen
    clear hlen
    go_enter Try.func54, Try.ntmps54
    go_wp2_with fail
    go_loopw [13] (fun i wr => ∃ k : Nat, k ≤ zs.length ∧ i = .int .i64 k ∧ (∀ j, j < k → nth zs j = nth us j) ∧ ∃ m, wr = w.drewN m) (fun i _ => zs.length - (intOf i).toNat)
    case atStart => exact ⟨0, Nat.zero_le _, rfl, fun j hj => by omega, 0, rfl⟩
    case round =>
      obtain ⟨k, hk, rfl, hsame, m, rfl⟩ := hrel
      have HS : Hid (∀ j, j < k → nth zs j = nth us j) := hsame
      clear hsame
      by_cases hlt : k < zs.length
      · obtain ⟨b, off, rfl, hb, hcell⟩ := hI.at hlt
        obtain ⟨b', off', rfl, hb', hcell'⟩ := hI'.at (q := k) (by rw [← H.out]; exact hlt)
        have hlt' : k < us.length := by rw [← H.out]; exact hlt
        have hc := hcell k hlt
        have hc' := hcell' k hlt'
        clear hcell hcell'
        by_cases he : nth zs k = nth us k
        · have hne : (nth zs k != nth us k) = false := by simp [he]
          have HE : Hid (nth zs k = nth us k) := he
          clear he
          go_wp2_with fail
          go_quiet (fail)
          go_wp2
          go_roundw
          case rel => exact ⟨k + 1, by omega, by go_num, fun j hj => by by_cases e : j = k; · rw [e]; exact HE.out
                                                                        · exact HS.out j (by omega), _, rfl⟩
          case measure => simp [intOf]; omega
        · have hne : (nth zs k != nth us k) = true := by simp [he]
          have hfin : Hid (eqB zs us = false) := eqB_false (fun e => he (by rw [e]))
          go_wp2_with fail
          go_quiet (fail)
          go_wp2
          go_ret
          exact ⟨ret_bool hfin.out.symm, _, World.drewN_drewN ..⟩
      · obtain rfl : k = zs.length := by omega
        have hfin : Hid (eqB zs us = true) := eqB_true (nth_ext H.out HS.out)
        go_wp2_with fail
        go_ret
        exact ⟨ret_bool hfin.out.symm, m, rfl⟩
  · have hl : ((zs.length : Int) != (us.length : Int)) = true := by simp; omega
    have hfin : Hid (eqB zs us = false) := eqB_false (fun e => hlen (by rw [e]))
    go_enter Try.func54, Try.ntmps54
    go_wp2_with fail
    go_ret
    exact ⟨ret_bool hfin.out.symm, 0, rfl⟩
end Go.Proofs.Yteddkfeiikdekaa
/-! Pck2: The shapes of arrays one behind the other; are all numbers below a length; does an array fit: what the program tells. -/
namespace Go.Proofs.Yteddkfeiikdekaa
open Go.RowKit
set_option linter.unusedVariables false

set_option maxRecDepth 100000 in
set_option maxHeartbeats 2000000 in
theorem joined_new (ba : Option Addr) (bc : Nat) (bs : List ArV) (h3 : bs.length ≤ 6) (hf : flL (bya bs) = 0) (w : World) (hb : IsAs w.heap.size w ba bs) :
    Calls Try.prog 60 #[.slice ba bs.length bc] w fun e w' => ∃ g gc, e = .returned (.slice g (pkS (bya bs)).length gc) ∧ NewC w.heap.size w' g (pkS (bya bs)) gc ∧ Below w.heap.size w w' := by
  have HI : Hid (IsAs w.heap.size w ba bs) := hb
  have HF : Hid (∀ k, k < bs.length → (arz bs k).2.1.2.length ≤ 6 ∧ offs bs k ≤ 36) := fun k hk => by
    have h1 := (flawE_short (fl_at bs hf hk)).1
    have h2 := pkS_short (bya bs) hf
    have h4 := offs_le bs hk
    rw [bya_length] at h2
    omega
  clear hb hf
  obtain ⟨S, hS⟩ : ∃ S, S = pkS (bya bs) := ⟨_, rfl⟩
  rw [← hS]
  have HS0 : Hid (S = pkS (bya bs)) := hS
  clear hS
  go_enter Try.func60, Try.ntmps60
  go_wp2_with fail
  go_loopw [3, 8] (fun v i wr => ∃ k : Nat, k ≤ bs.length ∧ i = .int .i64 k ∧ wr.ownsRow w.heap.size 3 1 v (offs bs k) ((pkS ((bya bs).take k)).map (Value.int .i64)) ∧ Below w.heap.size w wr) (fun _ i _ => bs.length - (intOf i).toNat)
  case atStart => exact ⟨0, Nat.zero_le _, rfl, World.ownsRow_nil _ _ _ _, Below.refl _ _⟩
  case round =>
    obtain ⟨k, hk, rfl, hown, hB⟩ := hrel
    by_cases hlt : k < bs.length
    · have hav := (HI.out.below hB).2 k hlt
      obtain ⟨b, off, rfl, hbb, hcell⟩ := (HI.out.below hB).at hlt
      obtain ⟨c0, c1, c2⟩ := hcell k hlt
      obtain ⟨hl6, ho6⟩ := HF.out k hlt
      have HO : Hid (offs bs (k + 1) = offs bs k + (arz bs k).2.1.2.length ∧ pkS ((bya bs).take (k + 1)) = pkS ((bya bs).take k) ++ (arz bs k).2.1.2) := ⟨offs_succ bs hlt, by rw [bya_take bs hlt, pkS_append]; simp [pkS, ArV.ar]⟩
      have HAV : Hid (IsAv w.heap.size wr (arz bs k)) := hav
      have HBw : Hid (Below w.heap.size w wr) := hB
      have hLo : (pkS ((bya bs).take k)).length = offs bs k := rfl
      clear hcell hav hB
      generalize arz bs k = B at *
      obtain ⟨cb, ⟨⟨sb, scb⟩, szb⟩, ⟨⟨db, dcb⟩, dzb⟩⟩ := B
      unfold ArV.s at c1
      unfold ArV.d at c2
      dsimp only at c0 c1 c2 HAV HO hl6
      have HBx : Hid (Below w.heap.size wr (wr.alloc (.cells #[.bool cb, .slice sb szb.length scb, .slice db dzb.length dcb] 24))) := (Below.refl _ wr).alloc HBw.out.size _
      have pb := Abx.new wr (.bool cb) (.slice sb szb.length scb) (.slice db dzb.length dcb)
      have q0 := pb.c0
      have q1 := pb.c1
      have q2 := pb.c2
      have HW : Hid ((wr.alloc (.cells #[.bool cb, .slice sb szb.length scb, .slice db dzb.length dcb] 24)).ownsRow w.heap.size 3 1 u3 (offs bs k) ((pkS ((bya bs).take k)).map (Value.int .i64))) := hown.alloc _
      have HS : Hid (IsInts (wr.alloc (.cells #[.bool cb, .slice sb szb.length scb, .slice db dzb.length dcb] 24)).heap.size (wr.alloc (.cells #[.bool cb, .slice sb szb.length scb, .slice db dzb.length dcb] 24)) sb szb) := (HAV.out.2.2.1.1.below HBx.out).mono (HBw.out.trans HBx.out).size
      have HL : Hid ((pkS ((bya bs).take k)).length = offs bs k) := hLo
      clear hown hLo
      generalize pkS ((bya bs).take k) = L at *
      generalize offs bs k = m at *
      go_wp2_with (at_builtin; refine app_all rfl _ _ rfl _ w.heap.size u3 L m HL.out sb szb szb.length scb rfl rfl rfl HW.out HS.out (by omega) (HBw.out.trans HBx.out).size ?_; intro g gc w1 hown1 hN1 hB1)
      refine ⟨⟨k + 1, by omega, by go_num, ?_, (HBw.out.trans HBx.out).trans hB1⟩, by simp [intOf]; omega⟩
      rw [HO.out.1, HO.out.2]
      exact hown1
    · obtain rfl : k = bs.length := by omega
      rw [offs_all, List.take_of_length_le (by rw [bya_length]; exact Nat.le_refl _), ← HS0.out] at hown
      obtain ⟨g, gc, rfl, hN⟩ := own_cap hown
      clear hown
      go_wp2_with fail
      go_ret
      exact ⟨g, gc, rfl, hN, hB⟩
theorem bel_drewN7 {B : Nat} {A W : World} (h : Below B A W) : ∀ m, Below B A (W.drewN m)
  | 0 => h
  | m + 1 => (bel_drewN7 h m).drew
theorem ret_bool7 {b b' : Bool} (h : b' = b) : Ending.returned (.bool b) = .returned (.bool b') := by rw [h]
def lowB (zs : List Int) (l : Int) : Bool := zs.all fun i => decide (0 ≤ i ∧ i < l)
theorem lowB_ok {zs : List Int} {l : Int} (h : ∀ j, j < zs.length → 0 ≤ nth zs j ∧ nth zs j < l) : lowB zs l = true := by
  unfold lowB
  rw [List.all_eq_true]
  intro y hy
  obtain ⟨i, hi, e⟩ := List.mem_iff_getElem.1 hy
  have := h i hi
  rw [nth_get _ _ hi, e] at this
  exact decide_eq_true this
theorem lowB_at {zs : List Int} {l : Int} (h : lowB zs l = true) {j : Nat} (hj : j < zs.length) : 0 ≤ nth zs j ∧ nth zs j < l := by
  unfold lowB at h
  exact of_decide_eq_true (List.all_eq_true.1 h _ (nth_mem zs j hj))
theorem lowB_no {zs : List Int} {l : Int} {j : Nat} (hj : j < zs.length) (h : ¬ (0 ≤ nth zs j ∧ nth zs j < l)) : lowB zs l = false := by
  cases e : lowB zs l
  · rfl
  · exact absurd (lowB_at e hj) h
set_option maxRecDepth 100000 in
set_option maxHeartbeats 1000000 in
theorem below_any (a : Option Addr) (cap : Nat) (zs : List Int) (l : Int) (h1 : zs.length ≤ 9223372036854775807) (n₀ : Nat) (w : World) (hI : IsInts n₀ w a zs) :
    Calls Try.prog 61 #[.slice a zs.length cap, .int .i64 l] w fun e w' => e = .returned (.bool (lowB zs l)) ∧ w' = w := by
  go_enter Try.func61, Try.ntmps61
  go_wp2_with fail
  go_loopw [9] (fun i wr => ∃ k : Nat, k ≤ zs.length ∧ i = .int .i64 k ∧ Hid (∀ j, j < k → 0 ≤ nth zs j ∧ nth zs j < l) ∧ wr = w) (fun i _ => zs.length - (intOf i).toNat)
  case atStart => exact ⟨0, Nat.zero_le _, rfl, fun j hj => absurd hj (Nat.not_lt_zero j), rfl⟩
  case round =>
    obtain ⟨k, hk, rfl, HA, hv⟩ := hrel
    obtain rfl := hv.symm
    by_cases hlt : k < zs.length
    · obtain ⟨b, off, rfl, hb, hc⟩ := hI.at hlt
      have ck := hc k hlt
      clear hc
      by_cases hn : nth zs k < 0
      · have HN : Hid (lowB zs l = false) := lowB_no hlt (by omega)
        go_wp2_with fail
        go_ret
        exact ⟨ret_bool7 HN.out, rfl⟩
      · by_cases hm : l ≤ nth zs k
        · have HN : Hid (lowB zs l = false) := lowB_no hlt (by omega)
          go_wp2_with fail
          go_ret
          exact ⟨ret_bool7 HN.out, rfl⟩
        · have HA2 : Hid (∀ j, j < k + 1 → 0 ≤ nth zs j ∧ nth zs j < l) := fun j hj => by
            by_cases e : j = k
            · subst e; exact ⟨by omega, by omega⟩
            · exact HA.out j (by omega)
          go_wp2_with fail
          exact ⟨⟨k + 1, by omega, by go_num, HA2, by first | rfl | trivial⟩, by simp [intOf]; omega⟩
    · obtain rfl : k = zs.length := by omega
      have HN : Hid (lowB zs l = true) := lowB_ok HA.out
      go_wp2_with fail
      go_ret
      exact ⟨ret_bool7 HN.out, rfl⟩
end Go.Proofs.Yteddkfeiikdekaa
