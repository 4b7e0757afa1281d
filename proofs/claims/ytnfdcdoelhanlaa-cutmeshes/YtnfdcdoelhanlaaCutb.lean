/-
  The ends of all axes, and one axis by a list of indices, as package cut gathers them.
-/
import Derived.Test.YtnfdcdoelhanlaaCuta
namespace Go.Proofs.Ytnfdcdoelhanlaa
open Go.RowKit
set_option linter.unusedVariables false

theorem Try.infoSl : (Try.prog.info? 23).map (fun i => (i.zero, i.size, i.bytes)) = some (some (.slice none 0 0), 1, 24) := by kernel_rfl
theorem onl_congr {e : Int} {D D' : List Int} (h : e = 0 → D = D') : onl e D = onl e D' := by
  unfold onl
  split
  · rename_i q; exact h q
  · rfl
theorem take_rl {L : List (List Int)} {k : Nat} (h : k < L.length) : L.take (k + 1) = L.take k ++ [rl L k] := by
  rw [List.take_succ_eq_append_getElem h]
  simp [rl, h]
theorem gather_n (fa : Option Addr) (fc : Nat) (rs : List Rw) (l : Nat) (c : Bool) (sa : Option Addr) (sc : Nat) (sz : List Int) (da : Option Addr) (dc : Nat) (dz : List Int) (S D : List Int) (hrl : rs.length = l) (hS : gaS (rwl rs) = S) (hD : errOf S = 0 → gaD c sz dz (rwl rs) = D) (hf : flawE c sz dz = 0) (hl : l = sz.length) (w : World) (hR : IsR w.heap.size w fa rs) (hs : IsC w.heap.size w sa sz sc) (hd : IsC w.heap.size w da dz dc) :
    Calls Try.prog 52 #[.slice fa l fc, .agg #[.bool c, .slice sa sz.length sc, .slice da dz.length dc]] w (UB (errOf S) (onc (errOf S) c) (onl (errOf S) S) (onl (errOf S) D) w) := by
  subst hrl hS
  rw [← onl_congr hD]
  exact gather_any fa fc rs c sa sc sz da dc dz hf hl w hR hs hd
/-- A list that grows by one list: the row that holds it, and what was there. -/
structure Grow (L : List (List Int)) (B n : Nat) (c : Bool) (sa : Option Addr) (sc : Nat) (sz : List Int) (da : Option Addr) (dc : Nat) (dz : List Int) (w wr : World) (k : Nat) (rs : List Rw) : Prop where
  len : rs.length = k
  rows : rwl rs = L.take k
  row : wr.rowIs B 23 n (fun j => rv (rwa rs j))
  new : NewR (B + 1) wr rs
  arr : Abx wr w.heap.size (.bool c) (.slice sa sz.length sc) (.slice da dz.length dc)
  res : Abx wr (w.heap.size + 1) (.bool false) (.slice none 0 0) (.slice none 0 0)
  bel : Below w.heap.size w wr
theorem Grow.next {L : List (List Int)} {B n : Nat} {c : Bool} {sa : Option Addr} {sc : Nat} {sz : List Int} {da : Option Addr} {dc : Nat} {dz : List Int} {w wr : World} {k : Nat} {rs : List Rw} (h : Grow L B n c sa sc sz da dc dz w wr k rs) (hB : B = w.heap.size + 1 + 1) (hk : k < L.length) {w2 : World} {g : Option Addr} {gc : Nat} {z : List Int} (hz : rl L k = z) (hN : NewC wr.heap.size w2 g z gc) (hb : Below wr.heap.size wr w2) :
    Grow L B n c sa sc sz da dc dz w (w2.setCell ⟨B, k, none⟩ (.slice g z.length gc)) (k + 1) (rs ++ [((g, gc), z)]) := by
  have hlt : B < wr.heap.size := h.row.lt
  have hrow2 : w2.rowIs B 23 n (fun j => rv (rwa rs j)) := h.row.of_block (hb.block B hlt)
  refine ⟨by simp [h.len], by rw [rwl_snoc, h.rows, take_rl hk, hz], ?_, ?_, ?_, ?_, ?_⟩
  · have := row_snoc g gc z hrow2
    rw [h.len] at this
    exact this
  · exact ((h.new.go hb).snoc (hN.low (by omega))).set (p := ⟨B, k, none⟩) (by show B < B + 1; omega) _
  · exact (h.arr.go hb).ot (a := ⟨B, k, none⟩) (by show w.heap.size ≠ B; omega) _
  · exact (h.res.go hb).ot (a := ⟨B, k, none⟩) (by show w.heap.size + 1 ≠ B; omega) _
  · exact (h.bel.trans (hb.mono h.bel.size)).setCell (p := ⟨B, k, none⟩) (by show w.heap.size ≤ B; omega) _
theorem Grow.start (L : List (List Int)) (n : Nat) (c : Bool) (sa : Option Addr) (sc : Nat) (sz : List Int) (da : Option Addr) (dc : Nat) (dz : List Int) (w : World) :
    Grow L (w.heap.size + 1 + 1) n c sa sc sz da dc dz w (((w.alloc (.cells #[.bool c, .slice sa sz.length sc, .slice da dz.length dc] 25)).alloc (.cells #[.bool false, .slice none 0 0, .slice none 0 0] 25)).alloc (.cells (madeCells #[.slice none 0 0] n) 23)) 0 [] := by
  have HB0 : Below w.heap.size w ((w.alloc (.cells #[.bool c, .slice sa sz.length sc, .slice da dz.length dc] 25)).alloc (.cells #[.bool false, .slice none 0 0, .slice none 0 0] 25)) := ((Below.refl _ w).alloc (Nat.le_refl _) _).alloc (by simp) _
  have pa := (Abx.new w (.bool c) (.slice sa sz.length sc) (.slice da dz.length dc)).al (.cells #[.bool false, .slice none 0 0, .slice none 0 0] 25)
  have pr := Abx.new1 w (.cells #[.bool c, .slice sa sz.length sc, .slice da dz.length dc] 25) (.bool false) (.slice none 0 0) (.slice none 0 0)
  have r0 := World.rowIs_made ((w.alloc (.cells #[.bool c, .slice sa sz.length sc, .slice da dz.length dc] 25)).alloc (.cells #[.bool false, .slice none 0 0, .slice none 0 0] 25)) (.slice none 0 0) n 23
  simp only [World.size_alloc] at r0
  exact ⟨rfl, rfl, r0.congr (fun j _ => rfl), NewR.nil _ _, pa.al _, pr.al _, HB0.alloc HB0.size _⟩
set_option maxRecDepth 100000 in
set_option maxHeartbeats 4000000 in
theorem alongc_any (x : Nat) (ia : Option Addr) (ic : Nat) (L : List Int) (l : Nat) (hLl : L.length = l) (c : Bool) (sa : Option Addr) (sc : Nat) (sz : List Int) (da : Option Addr) (dc : Nat) (dz : List Int) (S D : List Int) (hf : flawE c sz dz = 0) (hx : x < sz.length) (hS : gaS (alR sz x L) = S) (hD : errOf S = 0 → gaD c sz dz (alR sz x L) = D) (w : World) (hI : IsC w.heap.size w ia L ic) (hs : IsC w.heap.size w sa sz sc) (hd : IsC w.heap.size w da dz dc) :
    Calls Try.prog 32 #[.int .i64 (x : Nat), .slice ia l ic, .agg #[.bool c, .slice sa sz.length sc, .slice da dz.length dc]] w (UB (errOf S) (onc (errOf S) c) (onl (errOf S) S) (onl (errOf S) D) w) := by
  subst hLl
  have HI : Hid (IsC w.heap.size w sa sz sc ∧ IsC w.heap.size w da dz dc ∧ IsC w.heap.size w ia L ic) := ⟨hs, hd, hI⟩
  have HF : Hid (flawE c sz dz = 0 ∧ gaS (alR sz x L) = S ∧ (errOf S = 0 → gaD c sz dz (alR sz x L) = D)) := ⟨hf, hS, hD⟩
  have HA : Hid (AllIn sz) := (errOf_zero.1 (flawE_zero hf).1).2.1
  have hl6 : sz.length ≤ 6 := (flawE_short hf).1
  clear hs hd hI hf hS hD
  have HG : Hid (Grow (idR sz) (w.heap.size + 1 + 1) sz.length c sa sc sz da dc dz w (((w.alloc (.cells #[.bool c, .slice sa sz.length sc, .slice da dz.length dc] 25)).alloc (.cells #[.bool false, .slice none 0 0, .slice none 0 0] 25)).alloc (.cells (madeCells #[.slice none 0 0] sz.length) 23)) 0 []) := Grow.start _ _ _ _ _ _ _ _ _ _
  have e1 := HG.out.arr.c1
  have e1' := ((Abx.new w (.bool c) (.slice sa sz.length sc) (.slice da dz.length dc)).al (.cells #[.bool false, .slice none 0 0, .slice none 0 0] 25)).c1
  have hmk := run_make_row' (P := Try.prog) 72 23 (.slice none 0 0) 24 Try.underlying72 Try.infoSl rfl .i64 .i64 sz.length (by omega) (by omega)
  go_enter Try.func32, Try.ntmps32
  go_wp2_with fail
  clear hmk e1 e1'
  go_loopw [18] (fun i wr => ∃ (k : Nat) (rs : List Rw), k ≤ sz.length ∧ i = .int .i64 k ∧ Grow (idR sz) (w.heap.size + 1 + 1) sz.length c sa sc sz da dc dz w wr k rs) (fun i _ => sz.length - (intOf i).toNat)
  case atStart => exact ⟨0, [], Nat.zero_le _, rfl, HG.out⟩
  case round =>
    obtain ⟨k, rs, hk, rfl, hG⟩ := hrel
    clear HG
    have HG : Hid (Grow (idR sz) (w.heap.size + 1 + 1) sz.length c sa sc sz da dc dz w wr k rs) := hG
    clear hG
    by_cases hlt : k < sz.length
    · obtain ⟨bs, os, rfl, hbs, hcS⟩ := (HI.out.1.1.below HG.out.bel).at hlt
      have cs := hcS k hlt
      have hz := HA.out.nth k
      have HZ : Hid (rl (idR sz) k = runL 0 (nth sz k).toNat) := idR_at sz hlt
      clear hcS
      generalize nth sz k = Z0 at *
      go_wp2_with fail
      refine (run_n 0 Z0 Z0.toNat (by omega) (by omega) (by omega) (by omega) wr).mono ?_
      rintro e w2 ⟨g, gc, rfl, hE, hB⟩
      have HE : Hid (NewC wr.heap.size w2 g (runL 0 Z0.toNat) gc ∧ Below wr.heap.size wr w2) := ⟨hE, hB⟩
      have hrow2 : w2.rowIs (w.heap.size + 1 + 1) 23 sz.length (fun j => rv (rwa rs j)) := HG.out.row.of_block (hB.block (w.heap.size + 1 + 1) HG.out.row.lt)
      have c2 := hrow2.cell hlt
      have f2 := hrow2.frozen k
      clear hE hB hrow2
      go_wp2_with fail
      have hG := HG.out.next rfl (by rw [idR_length]; exact hlt) HZ.out HE.out.1 HE.out.2
      rw [runL_length] at hG
      exact ⟨⟨k + 1, _, by omega, by go_num, hG⟩, by simp [intOf]; omega⟩
    · obtain rfl : k = sz.length := by omega
      obtain ⟨y, hy⟩ : ∃ y, y = wr.setCell ⟨w.heap.size + 1 + 1, x, none⟩ (.slice ia L.length ic) := ⟨_, rfl⟩
      have hxr : x < rs.length := by rw [HG.out.len]; exact hx
      have hBy : Below w.heap.size w y := by rw [hy]; exact HG.out.bel.setCell (p := ⟨w.heap.size + 1 + 1, x, none⟩) (by show w.heap.size ≤ w.heap.size + 1 + 1; omega) _
      have hAy : Abx y w.heap.size (.bool c) (.slice sa sz.length sc) (.slice da dz.length dc) := by rw [hy]; exact HG.out.arr.ot (a := ⟨w.heap.size + 1 + 1, x, none⟩) (by show w.heap.size ≠ w.heap.size + 1 + 1; omega) _
      have hRy : Abx y (w.heap.size + 1) (.bool false) (.slice none 0 0) (.slice none 0 0) := by rw [hy]; exact HG.out.res.ot (a := ⟨w.heap.size + 1 + 1, x, none⟩) (by show w.heap.size + 1 ≠ w.heap.size + 1 + 1; omega) _
      have hWy : y.rowIs (w.heap.size + 1 + 1) 23 sz.length (fun j => rv (rwa (rs.set x ((ia, ic), L)) j)) := by rw [hy]; exact row_setR ia ic L hxr HG.out.row
      have hNy : NewR (w.heap.size + 1 + 1 + 1) y rs := by rw [hy]; exact HG.out.new.set (p := ⟨w.heap.size + 1 + 1, x, none⟩) (by show w.heap.size + 1 + 1 < w.heap.size + 1 + 1 + 1; omega) _
      have hIL : IsC y.heap.size y ia L ic := (HI.out.2.2.below hBy).mono hBy.size
      have HY : Hid (IsR y.heap.size y (some ⟨w.heap.size + 1 + 1, 0, none⟩) (rs.set x ((ia, ic), L)) ∧ (rs.set x ((ia, ic), L)).length = sz.length ∧ rwl (rs.set x ((ia, ic), L)) = alR sz x L) := by
        refine ⟨⟨.inr ⟨w.heap.size + 1 + 1, 0, rfl, hWy.lt, fun j hj => ?_⟩, fun j hj => ?_⟩, by rw [List.length_set]; exact HG.out.len, ?_⟩
        · rw [Nat.zero_add]
          rw [List.length_set, HG.out.len] at hj
          exact hWy.cell hj
        · rw [List.length_set] at hj
          rw [rwa_set _ _ _ hxr]
          split
          · exact hIL
          · exact (hNy j hj).ints
        · rw [rwl_set, HG.out.rows, List.take_of_length_le (by rw [idR_length]; exact Nat.le_refl _)]
          rfl
      have HYB : Hid (Below w.heap.size w y ∧ Abx y (w.heap.size + 1) (.bool false) (.slice none 0 0) (.slice none 0 0)) := ⟨hBy, hRy⟩
      have c2 := HG.out.row.cell hx
      have f2 := HG.out.row.frozen x
      have a0 := hAy.c0
      have a1 := hAy.c1
      have a2 := hAy.c2
      rw [hy] at a0 a1 a2
      have HHY : Hid (y = wr.setCell ⟨w.heap.size + 1 + 1, x, none⟩ (.slice ia L.length ic)) := hy
      clear hy hBy hAy hRy hWy hNy hIL hxr
      go_wp2_with fail
      rw [← HHY.out]
      clear a0 a1 a2 c2 f2 HHY HG
      refine (gather_n (some ⟨w.heap.size + 1 + 1, 0, none⟩) sz.length (rs.set x ((ia, ic), L)) sz.length c sa sc sz da dc dz S D HY.out.2.1 (by rw [HY.out.2.2]; exact HF.out.2.1) (by rw [HY.out.2.2]; exact HF.out.2.2) HF.out.1 rfl y HY.out.1 ((HI.out.1.below HYB.out.1).mono HYB.out.1.size) ((HI.out.2.1.below HYB.out.1).mono HYB.out.1.size)).mono ?_
      rintro e w3 ⟨xa, xc, ya, yc, rfl, hX, hY, hB⟩
      have HX : Hid (NewC y.heap.size w3 xa (onl (errOf S) S) xc ∧ NewC y.heap.size w3 ya (onl (errOf S) D) yc ∧ Below y.heap.size y w3) := ⟨hX, hY, hB⟩
      have R3 := HYB.out.2.go hB
      have hwr : w.heap.size + 1 < y.heap.size := HYB.out.2.lt
      clear hX hY hB
      generalize onl (errOf S) S = S' at *
      generalize onl (errOf S) D = D' at *
      generalize onc (errOf S) c = C at *
      generalize errOf S = E at *
      have r0 := R3.c0
      have r1 := R3.c1
      have r2 := R3.c2
      have f0 := R3.fr 0
      have f1 := R3.fr 1
      have f2 := R3.fr 2
      go_wp2_with fail
      have F := R3.set3 (.bool C) (.slice xa S'.length xc) (.slice ya D'.length yc)
      have q0 := F.c0
      have q1 := F.c1
      have q2 := F.c2
      exact bodyPost_ret (v := .tuple #[.agg #[.bool C, .slice xa S'.length xc, .slice ya D'.length yc], errV E]) (by simp [results, Try.results32, go_sem, q0, q1, q2]) rfl ⟨xa, xc, ya, yc, rfl, (HX.out.1.set3 (b := w.heap.size + 1) (by omega) _ _ _).low (by omega), (HX.out.2.1.set3 (b := w.heap.size + 1) (by omega) _ _ _).low (by omega), bel_set3 (HYB.out.1.trans (HX.out.2.2.mono HYB.out.1.size)) (by omega) _ _ _⟩
end Go.Proofs.Ytnfdcdoelhanlaa
