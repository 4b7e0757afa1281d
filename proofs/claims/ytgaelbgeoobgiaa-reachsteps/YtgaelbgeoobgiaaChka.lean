/-
  What the program says is wrong with arrays one behind the other.
-/
import Derived.Test.YtgaelbgeoobgiaaEachm
import Derived.Test.YtgaelbgeoobgiaaBase
namespace Go.Proofs.Ytgaelbgeoobgiaa
open Go.RowKit
set_option linter.unusedVariables false

/-- An array in memory: its kind; its shape and its cells, each with the slice that leads to it. -/
abbrev BrV : Type := Bool × ((Option Addr × Nat) × List Int) × ((Option Addr × Nat) × List Int)
def BrV.s (b : BrV) : Value := .slice b.2.1.1.1 b.2.1.2.length b.2.1.1.2
def BrV.d (b : BrV) : Value := .slice b.2.2.1.1 b.2.2.2.length b.2.2.1.2
def brz (bs : List BrV) (j : Nat) : BrV := bs.getD j (false, (((none, 0), []), ((none, 0), [])))
def IsBv (n : Nat) (W : World) (b : BrV) : Prop :=
  b.2.1.2.length ≤ 9223372036854775807 ∧ b.2.2.2.length ≤ 9223372036854775807 ∧ IsInts n W b.2.1.1.1 b.2.1.2 ∧ IsInts n W b.2.2.1.1 b.2.2.2
def IsBs (n : Nat) (W : World) (a : Option Addr) (bs : List BrV) : Prop :=
  (bs = [] ∨ ∃ b off, a = some ⟨b, off, none⟩ ∧ b < n ∧ ∀ j, j < bs.length → W.cell? ⟨b, off + j * 3, none⟩ = some (.bool (brz bs j).1) ∧ W.cell? ⟨b, off + j * 3 + 1, none⟩ = some (brz bs j).s ∧ W.cell? ⟨b, off + j * 3 + 2, none⟩ = some (brz bs j).d) ∧ ∀ j, j < bs.length → IsBv n W (brz bs j)
section
variable {n n' : Nat} {W W' : World} {a : Option Addr} {bs : List BrV}
theorem IsBv.below {b : BrV} (hB : Below n W W') (h : IsBv n W b) : IsBv n W' b := ⟨h.1, h.2.1, h.2.2.1.below hB, h.2.2.2.below hB⟩
theorem IsBv.mono {b : BrV} (hn : n ≤ n') (h : IsBv n W b) : IsBv n' W b := ⟨h.1, h.2.1, h.2.2.1.mono hn, h.2.2.2.mono hn⟩
theorem IsBs.below (hB : Below n W W') (h : IsBs n W a bs) : IsBs n W' a bs := by
  refine ⟨?_, fun j hj => (h.2 j hj).below hB⟩
  rcases h.1 with e | ⟨b, off, e, hb, hc⟩
  · exact .inl e
  · exact .inr ⟨b, off, e, hb, fun j hj => ⟨(hB.cell (p := ⟨b, off + j * 3, none⟩) hb).trans (hc j hj).1, (hB.cell (p := ⟨b, off + j * 3 + 1, none⟩) hb).trans (hc j hj).2.1, (hB.cell (p := ⟨b, off + j * 3 + 2, none⟩) hb).trans (hc j hj).2.2⟩⟩
theorem IsBs.mono (hn : n ≤ n') (h : IsBs n W a bs) : IsBs n' W a bs := by
  refine ⟨?_, fun j hj => (h.2 j hj).mono hn⟩
  rcases h.1 with e | ⟨b, off, e, hb, hc⟩
  · exact .inl e
  · exact .inr ⟨b, off, e, by omega, hc⟩
theorem IsBs.at (h : IsBs n W a bs) {j : Nat} (hj : j < bs.length) : ∃ b off, a = some ⟨b, off, none⟩ ∧ b < n ∧ ∀ j, j < bs.length → W.cell? ⟨b, off + j * 3, none⟩ = some (.bool (brz bs j).1) ∧ W.cell? ⟨b, off + j * 3 + 1, none⟩ = some (brz bs j).s ∧ W.cell? ⟨b, off + j * 3 + 2, none⟩ = some (brz bs j).d := by
  rcases h.1 with e | h
  · subst e; simp at hj
  · exact h
end
theorem isBs_nil (n : Nat) (W : World) (a : Option Addr) : IsBs n W a [] := ⟨.inl rfl, fun j hj => by simp at hj⟩
/-- A slice of one array is a box. -/
theorem isBs_one {W : World} {b : Nat} {c : Bool} {sa : Option Addr} {sc : Nat} {sz : List Int} {da : Option Addr} {dc : Nat} {dz : List Int} (h : Abx W b (.bool c) (.slice sa sz.length sc) (.slice da dz.length dc)) (h1 : sz.length ≤ 9223372036854775807) (h2 : dz.length ≤ 9223372036854775807) (hs : IsInts W.heap.size W sa sz) (hd : IsInts W.heap.size W da dz) :
    IsBs W.heap.size W (some ⟨b, 0, none⟩) [(c, (((sa, sc), sz), ((da, dc), dz)))] := by
  refine ⟨.inr ⟨b, 0, rfl, h.lt, fun j hj => ?_⟩, fun j hj => ?_⟩
  · obtain rfl : j = 0 := by simp at hj; exact hj
    exact ⟨h.c0, h.c1, h.c2⟩
  · obtain rfl : j = 0 := by simp at hj; exact hj
    exact ⟨h1, h2, hs, hd⟩
/-- The first flaw. -/
def flB : List BrV → Int
  | [] => 0
  | b :: r => if flawE b.1 b.2.1.2 b.2.2.2 ≠ 0 then flawE b.1 b.2.1.2 b.2.2.2 else flB r
def bsE (c : Bool) (sz dz : List Int) (bs : List BrV) : Int := if flawE c sz dz ≠ 0 then flawE c sz dz else flB bs
theorem flB_append : ∀ (l r : List BrV), flB l = 0 → flB (l ++ r) = flB r
  | [], _, _ => rfl
  | b :: l, r, h => by
    unfold flB at h
    by_cases e : flawE b.1 b.2.1.2 b.2.2.2 = 0
    · rw [if_neg (not_not_intro e)] at h
      rw [List.cons_append, flB, if_neg (not_not_intro e)]
      exact flB_append l r h
    · rw [if_pos e] at h; exact absurd h e
theorem brz_get {bs : List BrV} {k : Nat} (h : k < bs.length) : brz bs k = bs[k] := by unfold brz; rw [List.getD_eq_getElem?_getD, List.getElem?_eq_getElem h]; rfl
theorem flB_next {bs : List BrV} {k : Nat} (hk : k < bs.length) (h : flB (bs.take k) = 0) (e : flawE (brz bs k).1 (brz bs k).2.1.2 (brz bs k).2.2.2 = 0) : flB (bs.take (k + 1)) = 0 := by
  rw [brz_get hk] at e
  rw [List.take_succ_eq_append_getElem hk, flB_append _ _ h, flB, if_neg (not_not_intro e)]; rfl
theorem flB_bad {bs : List BrV} {k : Nat} (hk : k < bs.length) (h : flB (bs.take k) = 0) (e : flawE (brz bs k).1 (brz bs k).2.1.2 (brz bs k).2.2.2 ≠ 0) : flB bs = flawE (brz bs k).1 (brz bs k).2.1.2 (brz bs k).2.2.2 := by
  rw [brz_get hk] at e ⊢
  obtain ⟨b, hb⟩ : ∃ b, b = bs[k] := ⟨_, rfl⟩
  rw [← hb] at e ⊢
  have : bs = bs.take k ++ (b :: bs.drop (k + 1)) := by rw [hb, ← List.drop_eq_getElem_cons hk, List.take_append_drop]
  rw [this, flB_append _ _ h, flB, if_pos e]
theorem bsE_nil {c : Bool} {sz dz : List Int} : bsE c sz dz [] = flawE c sz dz := by
  unfold bsE flB
  by_cases h : flawE c sz dz = 0
  · rw [if_neg (not_not_intro h), h]
  · rw [if_pos h]
theorem bsE_one {c : Bool} {sz dz : List Int} {c' : Bool} {p : Option Addr × Nat} {sz' : List Int} {q : Option Addr × Nat} {dz' : List Int} : bsE c sz dz [(c', ((p, sz'), (q, dz')))] = flawsE c sz dz c' sz' dz' := by
  unfold bsE flawsE flB flB
  by_cases h : flawE c sz dz = 0
  · rw [if_neg (not_not_intro h), if_pos h]
    by_cases h' : flawE c' sz' dz' = 0
    · rw [if_neg (not_not_intro h'), h']
    · rw [if_pos h']
  · rw [if_pos h, if_neg h]
theorem ret_err8 {e e' : Int} (h0 : e' ≠ 0) (h : e = e') : Ending.returned (.iface 76 (.int .i64 e')) = .returned (errV e) := by rw [h, errV_pos h0]
theorem ret_nil8 {e : Int} (h : e = 0) : Ending.returned .nilIface = .returned (errV e) := by rw [h]; rfl
set_option maxRecDepth 100000 in
set_option maxHeartbeats 2000000 in
theorem chkall8 (c : Bool) (sa : Option Addr) (sc : Nat) (sz : List Int) (da : Option Addr) (dc : Nat) (dz : List Int) (ba : Option Addr) (bc : Nat) (bs : List BrV) (h1 : sz.length ≤ 9223372036854775807) (h2 : dz.length ≤ 9223372036854775807) (h3 : bs.length ≤ 9223372036854775807) (w : World) (hs : IsInts w.heap.size w sa sz) (hd : IsInts w.heap.size w da dz) (hb : IsBs w.heap.size w ba bs) :
    Calls Try.prog 43 #[.agg #[.bool c, .slice sa sz.length sc, .slice da dz.length dc], .slice ba bs.length bc] w fun e w' => e = .returned (errV (bsE c sz dz bs)) ∧ Below w.heap.size w w' := by
  have HB0 : Hid (Below w.heap.size w (w.alloc (.cells #[.bool c, .slice sa sz.length sc, .slice da dz.length dc] 24))) := (Below.refl _ w).alloc (Nat.le_refl _) _
  have pa := Abx.new w (.bool c) (.slice sa sz.length sc) (.slice da dz.length dc)
  have p0 := pa.c0
  have p1 := pa.c1
  have p2 := pa.c2
  have HI : Hid (IsInts w.heap.size w sa sz ∧ IsInts w.heap.size w da dz ∧ IsBs w.heap.size w ba bs) := ⟨hs, hd, hb⟩
  clear hs hd hb
  by_cases h0 : flawE c sz dz = 0
  · have HF : Hid (flawE c sz dz = 0) := h0
    have HE : Hid (bsE c sz dz bs = flB bs) := by show _ = _; unfold bsE; rw [if_neg (not_not_intro h0)]
    clear h0
    go_enter Try.func43, Try.ntmps43
    go_wp2_with fail
    refine (check_ok c sa sc sz da dc dz h1 h2 _ ((HI.out.1.below HB0.out).mono HB0.out.size) ((HI.out.2.1.below HB0.out).mono HB0.out.size) HF.out).mono ?_
    rintro e v1 ⟨rfl, hC⟩
    have HB1 : Hid (Below w.heap.size w v1) := HB0.out.trans (hC.mono HB0.out.size)
    clear hC pa p0 p1 p2 HB0
    go_wp2_with fail
    go_loopw [16] (fun i wr => ∃ k : Nat, k ≤ bs.length ∧ i = .int .i64 k ∧ Hid (flB (bs.take k) = 0) ∧ Below w.heap.size w wr) (fun i _ => bs.length - (intOf i).toNat)
    case atStart => exact ⟨0, Nat.zero_le _, rfl, rfl, HB1.out⟩
    case round =>
      obtain ⟨k, hk, rfl, HT, hB⟩ := hrel
      by_cases hlt : k < bs.length
      · have hav := (HI.out.2.2.below hB).2 k hlt
        obtain ⟨b, off, rfl, hbb, hcell⟩ := (HI.out.2.2.below hB).at hlt
        obtain ⟨c0, c1, c2⟩ := hcell k hlt
        have HAV : Hid (IsBv w.heap.size wr (brz bs k)) := hav
        have HBw : Hid (Below w.heap.size w wr) := hB
        have HZ : Hid (flawE (brz bs k).1 (brz bs k).2.1.2 (brz bs k).2.2.2 = 0 → flB (bs.take (k + 1)) = 0) := fun q => flB_next hlt HT.out q
        have HY : Hid (flawE (brz bs k).1 (brz bs k).2.1.2 (brz bs k).2.2.2 ≠ 0 → flB bs = flawE (brz bs k).1 (brz bs k).2.1.2 (brz bs k).2.2.2) := fun q => flB_bad hlt HT.out q
        clear hcell hav hB HT
        generalize brz bs k = B at *
        obtain ⟨cb, ⟨⟨sb, scb⟩, szb⟩, ⟨⟨db, dcb⟩, dzb⟩⟩ := B
        unfold BrV.s at c1
        unfold BrV.d at c2
        dsimp only at c0 c1 c2 HAV HZ HY
        have HBx : Hid (Below w.heap.size wr (wr.alloc (.cells #[.bool cb, .slice sb szb.length scb, .slice db dzb.length dcb] 24))) := (Below.refl _ wr).alloc HBw.out.size _
        have pb := Abx.new wr (.bool cb) (.slice sb szb.length scb) (.slice db dzb.length dcb)
        have q0 := pb.c0
        have q1 := pb.c1
        have q2 := pb.c2
        by_cases hf : flawE cb szb dzb = 0
        · have HN : Hid (flawE cb szb dzb = 0 ∧ flB (bs.take (k + 1)) = 0) := ⟨hf, HZ.out hf⟩
          clear hf HZ HY
          go_wp2_with fail
          refine (check_ok cb sb scb szb db dcb dzb HAV.out.1 HAV.out.2.1 _ ((HAV.out.2.2.1.below HBx.out).mono (HBw.out.trans HBx.out).size) ((HAV.out.2.2.2.below HBx.out).mono (HBw.out.trans HBx.out).size) HN.out.1).mono ?_
          rintro e v2 ⟨rfl, hC⟩
          clear pb q0 q1 q2 c0 c1 c2
          go_wp2_with fail
          exact ⟨⟨k + 1, by omega, by go_num, HN.out.2, (HBw.out.trans HBx.out).trans (hC.mono (HBw.out.trans HBx.out).size)⟩, by simp [intOf]; omega⟩
        · have HN : Hid (flawE cb szb dzb ≠ 0 ∧ flB bs = flawE cb szb dzb) := ⟨hf, HY.out hf⟩
          clear hf HZ HY
          go_wp2_with fail
          refine (check_no cb sb scb szb db dcb dzb HAV.out.1 HAV.out.2.1 _ ((HAV.out.2.2.1.below HBx.out).mono (HBw.out.trans HBx.out).size) ((HAV.out.2.2.2.below HBx.out).mono (HBw.out.trans HBx.out).size) HN.out.1).mono ?_
          rintro e v2 ⟨rfl, hC⟩
          clear pb q0 q1 q2 c0 c1 c2
          go_wp2_with fail
          go_ret
          exact ⟨ret_err8 HN.out.1 (by rw [HE.out, HN.out.2]), (HBw.out.trans HBx.out).trans (hC.mono (HBw.out.trans HBx.out).size)⟩
      · obtain rfl : k = bs.length := by omega
        have hfin : Hid (flB bs = 0) := by
          have := HT.out
          rwa [List.take_of_length_le (Nat.le_refl _)] at this
        clear HT
        go_wp2_with fail
        go_ret
        exact ⟨ret_nil8 (by rw [HE.out, hfin.out]), hB⟩
  · have HF : Hid (flawE c sz dz ≠ 0) := h0
    have HE : Hid (bsE c sz dz bs = flawE c sz dz) := by show _ = _; unfold bsE; rw [if_pos h0]
    clear h0
    go_enter Try.func43, Try.ntmps43
    go_wp2_with fail
    refine (check_no c sa sc sz da dc dz h1 h2 _ ((HI.out.1.below HB0.out).mono HB0.out.size) ((HI.out.2.1.below HB0.out).mono HB0.out.size) HF.out).mono ?_
    rintro e v1 ⟨rfl, hC⟩
    have HB1 : Hid (Below w.heap.size w v1) := HB0.out.trans (hC.mono HB0.out.size)
    clear hC pa p0 p1 p2 HB0
    go_wp2_with fail
    go_ret
    exact ⟨ret_err8 HF.out HE.out, HB1.out⟩
end Go.Proofs.Ytgaelbgeoobgiaa
