/-
  What the program tells of an array that is a relation: its order.
-/
import Derived.BigQuiet
import Derived.Deep.DeepCutAuto
import Derived.Test.YtgaelbgeoobgiabDoorRgi
namespace Go.Proofs.YtgaelbgeoobgiabDoor
open Go.RowKit
set_option linter.unusedVariables false

set_option maxRecDepth 100000 in
set_option maxHeartbeats 2000000 in
theorem ord_no (c : Bool) (sa : Option Addr) (sc : Nat) (sz : List Int) (da : Option Addr) (dc : Nat) (dz : List Int) (w : World) (h1 : sz.length ≤ 9223372036854775807) (h2 : dz.length ≤ 9223372036854775807) (hs : IsInts w.heap.size w sa sz) (hd : IsInts w.heap.size w da dz) (h : rlE c sz dz ≠ 0) :
    Calls Tryd.prog 5 #[.agg #[.bool c, .slice sa sz.length sc, .slice da dz.length dc]] w fun e w' => e = .returned (.tuple #[.slice none 0 0, .iface 33 (.int .i64 (rlE c sz dz))]) ∧ Below w.heap.size w w' := by
  obtain ⟨w0, HW⟩ : ∃ w0, Hid (w0 = (w.alloc (.cells #[.bool c, .slice sa sz.length sc, .slice da dz.length dc] 24))) := ⟨_, rfl⟩
  have HB0 : Hid (Below w.heap.size w w0) := by rw [HW.out]; exact (Below.refl _ w).alloc (Nat.le_refl _) _
  have HA : Abx w0 w.heap.size (.bool c) (.slice sa sz.length sc) (.slice da dz.length dc) := by rw [HW.out]; exact Abx.new w _ _ _
  have hC := rread_no c sa sc sz da dc dz w0 h1 h2 ((hs.below HB0.out).mono HB0.out.size) ((hd.below HB0.out).mono HB0.out.size) h
  have p0 := HA.c0
  have p1 := HA.c1
  have p2 := HA.c2
  have hzR := zeroR
  clear hs hd HA h
  go_enter Tryd.func5, Tryd.ntmps5
  go_upto_region 1 with fail
  rw [← HW.out]
  go_wp2_with fail
  refine hC.mono ?_
  rintro e y1 ⟨rfl, hB⟩
  have HB1 : Hid (Below w.heap.size w y1) := HB0.out.trans (hB.mono HB0.out.size)
  clear p0 p1 p2 HW HB0 hC hB
  go_wp2_with (refine wpl_str y1.heap.size _ (fun _ _ => false) _ _ (Rb.new y1 _) rfl rfl rfl rfl rfl ?_)
  go_ret2
  exact ⟨rfl, bel_rw (HB1.out.alloc HB1.out.size _) HB1.out.size⟩
set_option maxRecDepth 100000 in
set_option maxHeartbeats 2000000 in
theorem ord_ok (n : Nat) (hn : n ≤ 24) (sa : Option Addr) (sc : Nat) (da : Option Addr) (dc : Nat) (dz : List Int) (m : Nat) (hm : dz.length = m) (hl : dz.length = n * n) (hk : mskB dz = true) (w : World) (hs : IsInts w.heap.size w sa [(n : Int), (n : Int)]) (hd : IsInts w.heap.size w da dz) :
    Calls Tryd.prog 5 #[.agg #[.bool false, .slice sa 2 sc, .slice da m dc]] w (OrdP n (tp (rdR n dz) n n []) w) := by
  obtain ⟨O, hO⟩ : ∃ O, O = tp (rdR n dz) n n [] := ⟨_, rfl⟩
  rw [← hO]
  obtain ⟨A, hA⟩ : ∃ A, A = rdR n dz := ⟨_, rfl⟩
  have HO : Hid (O = tp A n n []) := by rw [hA]; exact hO
  clear hO
  have hmk := run_make_row' (P := Tryd.prog) 22 3 (.int .i64 0) 8 Tryd.underlying22 Tryd.infoInt rfl .i64 .i64 n (by omega) (by omega)
  obtain ⟨w0, HW⟩ : ∃ w0, Hid (w0 = (w.alloc (.cells #[.bool false, .slice sa 2 sc, .slice da m dc] 24))) := ⟨_, rfl⟩
  have HB0 : Hid (Below w.heap.size w w0) := by rw [HW.out]; exact (Below.refl _ w).alloc (Nat.le_refl _) _
  have HA : Abx w0 w.heap.size (.bool false) (.slice sa 2 sc) (.slice da m dc) := by rw [HW.out]; exact Abx.new w _ _ _
  have hC := rread_ok n hn sa sc da dc dz hl hk w0 ((hs.below HB0.out).mono HB0.out.size) ((hd.below HB0.out).mono HB0.out.size)
  rw [hm] at hC
  have HL : Hid (dz.length = n * n) := hl
  have p0 := HA.c0
  have p1 := HA.c1
  have p2 := HA.c2
  have hzR := zeroR
  clear hs hd HA hl hm hk
  go_enter Tryd.func5, Tryd.ntmps5
  go_upto_region 1 with fail
  rw [← HW.out]
  go_wp2_with fail
  refine hC.mono ?_
  rintro e y1 ⟨rfl, hB⟩
  have HB1 : Hid (Below w.heap.size w y1) := HB0.out.trans (hB.mono HB0.out.size)
  clear p0 p1 p2 HW HB0 hC hB
  rw [← hA]
  clear hA
  obtain ⟨bg, hbg⟩ : ∃ b, b = y1.heap.size := ⟨_, rfl⟩
  go_upto_region 4 with (refine wpl_str y1.heap.size _ A _ _ (Rb.new y1 _) rfl rfl rfl rfl rfl ?_)
  obtain ⟨w2, HW2⟩ : ∃ x, Hid (x = World.setRow (y1.alloc (.cells (ofr fun _ _ => false) 41)) y1.heap.size (ofr A)) := ⟨_, rfl⟩
  rw [← HW2.out]
  have hz : w2.heap.size = y1.heap.size + 1 := by rw [HW2.out]; simp [World.setRow]
  have HR2 : Hid (Rb w2 bg A ∧ Below w.heap.size w w2 ∧ w.heap.size ≤ bg ∧ bg < w2.heap.size) := by
    show _ ∧ _
    rw [hbg]
    refine ⟨?_, ?_, HB1.out.size, by omega⟩
    · rw [HW2.out]; exact (Rb.new y1 _).row
    · rw [HW2.out]; exact bel_rw (HB1.out.alloc HB1.out.size _) HB1.out.size
  rw [← hbg]
  clear HW2 hz HB1 hbg
  go_upto_region 6 with fail
  rw [oft_zero]
  obtain ⟨w3, HW3⟩ : ∃ w3, Hid (w3 = (w2.alloc (.cells (madeCells #[.int .i64 0] n) 3)).alloc (.cells (oft fun _ => false) 39)) := ⟨_, rfl⟩
  rw [← HW3.out]
  obtain ⟨bT, hbT⟩ : ∃ b, b = w2.heap.size := ⟨_, rfl⟩
  rw [← hbT]
  have hgT : bg < bT := by rw [hbT]; exact HR2.out.2.2.2
  have hwg : w.heap.size ≤ bg := HR2.out.2.2.1
  have HQ0 : Hid (Rb w3 bg A ∧ MidC bT (bT + 1) w3 (some ⟨bT, 0, none⟩) (orL n ([] : List Nat)) n ∧ Tb w3 (bT + 1) (fun _ => false) ∧ Below w.heap.size w w3 ∧ bT + 1 + 1 ≤ w3.heap.size) := by
    show _ ∧ _
    have h3 := zer_mid w2 3 n
    have h4 := Tb.new (w2.alloc (.cells (madeCells #[.int .i64 0] n) 3)) fun _ => false
    rw [World.size_alloc] at h4
    rw [HW3.out, orL_nil, hbT]
    exact ⟨(HR2.out.1.al _).al _, h3.al (by simp) _, h4, (HR2.out.2.1.alloc HR2.out.2.1.size _).alloc (by simp; have := HR2.out.2.1.size; omega) _, by simp⟩
  clear HW3 hbT HR2 hmk hzR
  go_wp2_with fail
  go_loopw [25] (fun i wr => ∃ (l : List Nat) (T : Nat → Bool), l.length ≤ n ∧ Hid (T = fun a => l.contains a) ∧ i = .int .i64 (l.length : Nat) ∧ Hid (tp A n (n - l.length) l = O) ∧ Rb wr bg A ∧ MidC bT (bT + 1) wr (some ⟨bT, 0, none⟩) (orL n l) n ∧ Tb wr (bT + 1) T ∧ Below w.heap.size w wr ∧ bT + 1 + 1 ≤ wr.heap.size) (fun i _ => n - (intOf i).toNat)
  case atStart => exact ⟨[], fun _ => false, Nat.zero_le _, rfl, rfl, HO.out.symm, HQ0.out⟩
  case round =>
    clear HQ0
    obtain ⟨l, T, hl, HC, rfl, HT, hQ⟩ := hrel
    have HQ : Hid (Rb wr bg A ∧ MidC bT (bT + 1) wr (some ⟨bT, 0, none⟩) (orL n l) n ∧ Tb wr (bT + 1) T ∧ Below w.heap.size w wr ∧ bT + 1 + 1 ≤ wr.heap.size) := hQ
    clear hQ
    by_cases hlt : l.length < n
    · obtain ⟨k, hk⟩ : ∃ k, k = l.length := ⟨_, rfl⟩
      have HE : Hid (O = if nxi A n l < n then tp A n (n - l.length - 1) (l ++ [nxi A n l]) else none) := by show _ = _; rw [← HT.out]; exact tp_step (by omega)
      have HLN : Hid (l.length < n) := hlt
      have HK : Hid (k = l.length) := hk
      rw [← hk] at hlt ⊢
      clear hk HT
      go_wp2_with (first | refine wpl_ldr bg A _ HQ.out.1 rfl rfl rfl ?_ | refine wpl_ldt (bT + 1) T _ HQ.out.2.2.1 rfl rfl rfl ?_)
      refine (next_any A n hn T _).mono ?_
      rintro e y3 ⟨rfl, hB3⟩
      have HQ2 : Hid (Rb y3 bg A ∧ MidC bT (bT + 1) y3 (some ⟨bT, 0, none⟩) (orL n l) n ∧ Tb y3 (bT + 1) T ∧ Below w.heap.size w y3 ∧ bT + 1 + 1 ≤ y3.heap.size) := ⟨HQ.out.1.go hB3, HQ.out.2.1.go (by have := HQ.out.2.2.2.2; omega) hB3, HQ.out.2.2.1.go hB3, HQ.out.2.2.2.1.trans (hB3.mono HQ.out.2.2.2.1.size), by have := HQ.out.2.2.2.2; have := hB3.size; omega⟩
      clear HQ hB3
      obtain ⟨x, hx⟩ : ∃ x, x = nxi A n l := ⟨_, rfl⟩
      have hx2 : lea (rdyT A n T) n = x := by rw [HC.out]; exact hx.symm
      rw [← hx] at HE
      by_cases hxn : x < n
      · rw [nxV_yes (by rw [hx2]; exact hxn), hx2]
        have HE2 : Hid (tp A n (n - (l ++ [x]).length) (l ++ [x]) = O) := by show _ = _; rw [HE.out, if_pos hxn, List.length_append]; rfl
        have ix : (x : Int) < 24 := by omega
        have x24 : x < 24 := by omega
        have hfl : k < (orL n l).length := by rw [orL_len (by have := HLN.out; omega)]; exact hlt
        have HFL : Hid (k < (orL n l).length) := hfl
        obtain ⟨b', o', hbo, _, _, c3, f3⟩ := HQ2.out.2.1.at hfl
        cases hbo
        rw [Nat.zero_add] at c3 f3
        have c4 := HQ2.out.2.2.1.cell x24
        have f4 := HQ2.out.2.2.1.fr x
        have HQ6 : Hid (Rb ((y3.setCell ⟨bT, k, none⟩ (.int .i64 (x : Int))).setCell ⟨bT + 1, x, none⟩ (.bool true)) bg A ∧ MidC bT (bT + 1) ((y3.setCell ⟨bT, k, none⟩ (.int .i64 (x : Int))).setCell ⟨bT + 1, x, none⟩ (.bool true)) (some ⟨bT, 0, none⟩) (orL n (l ++ [x])) n ∧ Tb ((y3.setCell ⟨bT, k, none⟩ (.int .i64 (x : Int))).setCell ⟨bT + 1, x, none⟩ (.bool true)) (bT + 1) (ptt T x true) ∧ Below w.heap.size w ((y3.setCell ⟨bT, k, none⟩ (.int .i64 (x : Int))).setCell ⟨bT + 1, x, none⟩ (.bool true)) ∧ bT + 1 + 1 ≤ ((y3.setCell ⟨bT, k, none⟩ (.int .i64 (x : Int))).setCell ⟨bT + 1, x, none⟩ (.bool true)).heap.size) := by
          show _ ∧ _
          rw [← orL_put HLN.out, ← HK.out]
          exact ⟨(HQ2.out.1.ot (a := ⟨bT, k, none⟩) (by show bg ≠ bT; omega) _).ot (a := ⟨bT + 1, x, none⟩) (by show bg ≠ bT + 1; omega) _, (put0 HQ2.out.2.1 HFL.out _).s1 (p := ⟨bT + 1, x, none⟩) (by show bT + 1 < bT ∨ bT + 1 ≤ bT + 1; omega) _, (HQ2.out.2.2.1.ot (a := ⟨bT, k, none⟩) (by show bT + 1 ≠ bT; omega) _).put x24 true, (HQ2.out.2.2.2.1.setCell (p := ⟨bT, k, none⟩) (by show w.heap.size ≤ bT; omega) _).setCell (p := ⟨bT + 1, x, none⟩) (by show w.heap.size ≤ bT + 1; omega) _, by have := HQ2.out.2.2.2.2; simp [World.setCell]; omega⟩
        clear hfl HQ2 HE hx hx2
        go_wp2_with fail
        exact ⟨⟨l ++ [x], ptt T x true, by rw [List.length_append]; have := HLN.out; simp; omega, by show _ = _; rw [HC.out, con_put], by rw [List.length_append, ← HK.out]; go_num, HE2.out, HQ6.out⟩, by simp [intOf]; omega⟩
      · rw [nxV_no (by rw [hx2]; exact hxn)]
        have HE2 : Hid (O = none) := by show _ = _; rw [HE.out, if_neg hxn]
        clear HE hx hx2
        go_wp2_with fail
        go_ret2
        rw [HE2.out]
        exact ⟨rfl, HQ2.out.2.2.2.1⟩
    · have hln : l.length = n := by omega
      have HE2 : Hid (O = some l) := by show _ = _; rw [← HT.out, hln, Nat.sub_self]; rfl
      have hm := HQ.out.2.1
      rw [orL_all hln] at hm
      have HM : Hid (MidC bT (bT + 1) wr (some ⟨bT, 0, none⟩) (inL l) n) := hm
      clear hm HT
      rw [hln]
      go_wp2_with fail
      go_ret2
      rw [HE2.out]
      exact ⟨some ⟨bT, 0, none⟩, rfl, HM.out.newc (lo' := w.heap.size) (by have := HQ.out.2.2.2.2; omega) (by omega), HQ.out.2.2.2.1⟩
end Go.Proofs.YtgaelbgeoobgiabDoor
