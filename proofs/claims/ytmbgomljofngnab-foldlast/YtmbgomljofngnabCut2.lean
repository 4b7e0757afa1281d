/-
  What package cut's Drop tells.
-/
import Derived.Test.YtmbgomljofngnabCutb
import Derived.Test.YtmbgomljofngnabApps
import Derived.Deep.QuietTactic
import Derived.BigQuiet
import Derived.WalkSmall
namespace Go.Proofs.Ytmbgomljofngnab
open Go.RowKit
set_option linter.unusedVariables false

theorem heap_newDrop (w : World) (o : Obj) : (w.alloc o).heap[w.heap.size]? = some o := World.alloc_heap_new w o
theorem rst_bd {n l : Int} (h0 : 0 ≤ l) (h1 : l ≤ 4096) : -4096 ≤ rst n l ∧ rst n l ≤ 4096 := by
  unfold rst
  split <;> omega
set_option maxRecDepth 100000 in
set_option maxHeartbeats 4000000 in
theorem dr_holds : CDr := by
  intro na nc n c sa sc sz da dc dz w h0 T0 h1 h2 hn hs hd T
  have HI : Hid (IsC w.heap.size w sa sz sc ∧ IsC w.heap.size w da dz dc ∧ IsC w.heap.size w na n nc) := ⟨hs, hd, hn⟩
  clear hs hd hn T
  have HB0 : Hid (Below w.heap.size w ((w.alloc (.cells #[.bool c, .slice sa sz.length sc, .slice da dz.length dc] 24)).alloc (.cells #[.bool false, .slice none 0 0, .slice none 0 0] 24))) := ((Below.refl _ w).alloc (Nat.le_refl _) _).alloc (by simp) _
  have pa := (Abx.new w (.bool c) (.slice sa sz.length sc) (.slice da dz.length dc)).al (.cells #[.bool false, .slice none 0 0, .slice none 0 0] 24)
  have pr := Abx.new1 w (.cells #[.bool c, .slice sa sz.length sc, .slice da dz.length dc] 24) (.bool false) (.slice none 0 0) (.slice none 0 0)
  have p0 := pa.c0
  have p1 := pa.c1
  have p2 := pa.c2
  by_cases h3 : drE n c sz dz = 0
  · have H3 : Hid (drE n c sz dz = 0) := h3
    have HD : Hid (flawE c sz dz = 0 ∧ n.length = sz.length) := drE_zero.1 h3
    have HA : Hid (AllIn sz) := (errOf_zero.1 (flawE_zero HD.out.1).1).2.1
    have hl6 : sz.length ≤ 6 := (flawE_short HD.out.1).1
    have hn6 : n.length ≤ 6 := by have := HD.out.2; omega
    clear h3
    go_enter Try.func18, Try.ntmps18
    go_wp2_with fail
    refine (num_ok na nc n c sa sc sz da dc dz h1 h2 _ ((HI.out.1.1.below HB0.out).mono HB0.out.size) ((HI.out.2.1.1.below HB0.out).mono HB0.out.size) H3.out).mono ?_
    rintro e v1 ⟨rfl, hC⟩
    have HB1 : Hid (Below w.heap.size w v1) := HB0.out.trans (hC.mono HB0.out.size)
    have HP : Hid (Abx v1 w.heap.size (.bool c) (.slice sa sz.length sc) (.slice da dz.length dc)) := pa.go hC
    have HR : Hid (Abx v1 (w.heap.size + 1) (.bool false) (.slice none 0 0) (.slice none 0 0)) := pr.go hC
    clear hC pa pr p0 p1 p2 HB0
    have hmk := run_make_row' (P := Try.prog) 22 3 (.int .i64 0) 8 Try.underlying22 Try.infoInt rfl .i64 .i64 n.length (by omega) (by omega)
    have e1 := (HP.out.al (.cells (madeCells #[.int .i64 0] n.length) 3)).c1
    go_wp2_with fail
    clear hmk e1
    go_loopw [23] (fun i wr => ∃ k : Nat, k ≤ sz.length ∧ i = .int .i64 k ∧ wr.rowIs v1.heap.size 3 n.length (upTo (nth (lft sz n)) k) ∧ Below v1.heap.size v1 wr) (fun i _ => sz.length - (intOf i).toNat)
    case atStart =>
      exact ⟨0, Nat.zero_le _, rfl, (World.rowIs_made v1 (.int .i64 0) n.length 3).congr (fun j _ => by simp [upTo]), (Below.refl _ v1).alloc (Nat.le_refl _) _⟩
    case round =>
      obtain ⟨k, hk, rfl, hrow, hBv⟩ := hrel
      have hB : Below w.heap.size w wr := HB1.out.trans (hBv.mono HB1.out.size)
      by_cases hlt : k < sz.length
      · have hkn : k < n.length := by rw [HD.out.2]; exact hlt
        obtain ⟨bs, os, rfl, hbs, hcS⟩ := (HI.out.1.1.below hB).at hlt
        have cs := hcS k hlt
        obtain ⟨bn, on, rfl, hbn, hcN⟩ := (HI.out.2.2.1.below hB).at hkn
        have cn := hcN k hkn
        have hz := HA.out.nth k
        have HT : Hid (In64 (nth n k)) := T0 k
        have HV : Hid (rst (nth n k) (nth sz k) = nth (lft sz n) k) := (lft_nth sz n hkn).symm
        have c2 := hrow.cell hkn
        have f2 := hrow.frozen k
        have HQ : Hid (wr.rowIs v1.heap.size 3 n.length (upTo (nth (lft sz n)) k) ∧ Below v1.heap.size v1 wr) := ⟨hrow, hBv⟩
        clear hrow hBv hB hcS hcN
        generalize nth n k = N0 at *
        generalize nth sz k = Z0 at *
        go_wp2_with fail
        refine (rest_any N0 Z0 HT.out hz.1 hz.2 wr).mono ?_
        rintro e w2 ⟨rfl, rfl⟩
        go_wp2_with fail
        refine ⟨⟨k + 1, by omega, by go_num, upTo_set HQ.out.1 _ HV.out, HQ.out.2.setCell (p := ⟨v1.heap.size, k, none⟩) (Nat.le_refl _) _⟩, by simp [intOf]; omega⟩
      · obtain rfl : k = sz.length := by omega
        rw [← HD.out.2] at hrow
        have HY : Hid (NewInts v1.heap.size wr (some ⟨v1.heap.size, 0, none⟩) (lft sz n)) := upTo_new hrow (Nat.le_refl _) _ (lft_length sz n) (fun j hj => rfl)
        have HBw : Hid (Below w.heap.size w wr) := hB
        have HRw : Hid (Abx wr (w.heap.size + 1) (.bool false) (.slice none 0 0) (.slice none 0 0)) := HR.out.go hBv
        have hPw := HP.out.go hBv
        have a0 := hPw.c0
        have a1 := hPw.c1
        have a2 := hPw.c2
        have HE : Hid (drE n c sz dz = errOf (tkS (lft sz n)) ∧ drS6 n c sz dz = onl (errOf (tkS (lft sz n))) (tkS (lft sz n)) ∧ drD6 n c sz dz = onl (errOf (tkS (lft sz n))) (tkD (lft sz n) c sz dz)) := by
          have e1 := lft_S HA.out HD.out.2
          have e2 := lft_U HA.out HD.out.2
          have e3 := dr_err H3.out
          unfold drS6 drD6 tkD drD
          rw [e1, e2, e3, H3.out]
          exact ⟨rfl, rfl, rfl⟩
        clear hrow hBv hB hPw
        go_wp2_with fail
        refine (ends_n (some ⟨v1.heap.size, 0, none⟩) n.length (lft sz n) sz n.length HD.out.2 c sa sc da dc dz HD.out.1 (by rw [lft_length]; exact HD.out.2) (fun k hk => by rw [lft_length] at hk; rw [lft_nth sz n hk]; exact rst_bd (HA.out.nth k).1 (HA.out.nth k).2) wr HY.out.ints ((HI.out.1.below HBw.out).mono HBw.out.size) ((HI.out.2.1.below HBw.out).mono HBw.out.size)).mono ?_
        clear a0 a1 a2
        rintro e w3 ⟨xa, xc, ya, yc, rfl, hX, hY, hB⟩
        have HX : Hid (NewC wr.heap.size w3 xa (onl (errOf (tkS (lft sz n))) (tkS (lft sz n))) xc ∧ NewC wr.heap.size w3 ya (onl (errOf (tkS (lft sz n))) (tkD (lft sz n) c sz dz)) yc ∧ Below wr.heap.size wr w3) := ⟨hX, hY, hB⟩
        have HG6 : Hid (drE n c sz dz = errOf (tkS (lft sz n)) ∧ onc (drE n c sz dz) c = onc (errOf (tkS (lft sz n))) c ∧ drS6 n c sz dz = onl (errOf (tkS (lft sz n))) (tkS (lft sz n)) ∧ drD6 n c sz dz = onl (errOf (tkS (lft sz n))) (tkD (lft sz n) c sz dz)) := ⟨HE.out.1, by rw [HE.out.1], HE.out.2.1, HE.out.2.2⟩
        have R3 := HRw.out.go hB
        have hwr : w.heap.size + 1 < wr.heap.size := HRw.out.lt
        clear hX hY hB HE
        generalize onl (errOf (tkS (lft sz n))) (tkS (lft sz n)) = S' at *
        generalize onl (errOf (tkS (lft sz n))) (tkD (lft sz n) c sz dz) = D' at *
        generalize onc (errOf (tkS (lft sz n))) c = C' at *
        generalize errOf (tkS (lft sz n)) = E' at *
        have r0 := R3.c0
        have r1 := R3.c1
        have r2 := R3.c2
        have f0 := R3.fr 0
        have f1 := R3.fr 1
        have f2 := R3.fr 2
        go_wp2_with fail
        have F := R3.set3 (.bool C') (.slice xa S'.length xc) (.slice ya D'.length yc)
        have q0 := F.c0
        have q1 := F.c1
        have q2 := F.c2
        have k1 := HX.out.1
        have k2 := HX.out.2.1
        have k3 := HX.out.2.2
        have hX1 := (k1.set3 (b := w.heap.size + 1) (by omega) (.bool C') (.slice xa S'.length xc) (.slice ya D'.length yc)).low (lo' := w.heap.size) (by omega)
        have hX2 := (k2.set3 (b := w.heap.size + 1) (by omega) (.bool C') (.slice xa S'.length xc) (.slice ya D'.length yc)).low (lo' := w.heap.size) (by omega)
        have hX3 := bel_set3 (HBw.out.trans (k3.mono HBw.out.size)) (b := w.heap.size + 1) (by omega) (.bool C') (.slice xa S'.length xc) (.slice ya D'.length yc)
        exact bodyPost_ret (v := .tuple #[.agg #[.bool C', .slice xa S'.length xc, .slice ya D'.length yc], errV E']) (by simp [results, Try.results18, go_sem, q0, q1, q2]) rfl (by rw [HG6.out.2.2.1, HG6.out.2.2.2, HG6.out.2.1, HG6.out.1]; exact ⟨xa, xc, ya, yc, rfl, hX1, hX2, hX3⟩)
  · have H3 : Hid (drE n c sz dz ≠ 0) := h3
    clear h3
    go_enter Try.func18, Try.ntmps18
    go_wp2_with fail
    refine (num_no na nc n c sa sc sz da dc dz h0 h1 h2 _ ((HI.out.1.1.below HB0.out).mono HB0.out.size) ((HI.out.2.1.1.below HB0.out).mono HB0.out.size) H3.out).mono ?_
    rintro e v1 ⟨rfl, hC⟩
    have HB1 : Hid (Below w.heap.size w v1) := HB0.out.trans (hC.mono HB0.out.size)
    have HP : Hid (Abx v1 w.heap.size (.bool c) (.slice sa sz.length sc) (.slice da dz.length dc)) := pa.go hC
    have HR : Hid (Abx v1 (w.heap.size + 1) (.bool false) (.slice none 0 0) (.slice none 0 0)) := pr.go hC
    clear hC pa pr p0 p1 p2 HB0
    have r0 := HR.out.c0
    have r1 := HR.out.c1
    have r2 := HR.out.c2
    have f0 := HR.out.fr 0
    have f1 := HR.out.fr 1
    have f2 := HR.out.fr 2
    go_wp2_with fail
    have F := HR.out.set3 (.bool false) (.slice none 0 0) (.slice none 0 0)
    have q0 := F.c0
    have q1 := F.c1
    have q2 := F.c2
    exact bodyPost_ret (v := .tuple #[.agg #[.bool false, .slice none 0 0, .slice none 0 0], .iface 43 (.int .i64 (drE n c sz dz))]) (by simp [results, Try.results18, go_sem, q0, q1, q2]) rfl (UB.mkno rfl H3.out (bel_set3 HB1.out (by omega) _ _ _))
end Go.Proofs.Ytmbgomljofngnab
