/-
  What the reference drops of an array.
-/
import Derived.Test.YtldjgacnjogbnaaDoorRpart
import Derived.Test.YtldjgacnjogbnaaDoorApp2
namespace Go.Proofs.YtldjgacnjogbnaaDoor
open Go.RowKit
set_option linter.unusedVariables false

set_option maxRecDepth 100000 in
set_option maxHeartbeats 8000000 in
theorem dropped_any (na : Option Addr) (nc : Nat) (n : List Int) (c : Bool) (sa : Option Addr) (sc : Nat) (sz : List Int) (da : Option Addr) (dc : Nat) (dz : List Int) (hl0 : n.length ≤ 9223372036854775807) (h1 : sz.length ≤ 9223372036854775807) (h2 : dz.length ≤ 9223372036854775807) (Tn : ∀ j, In64 (nth n j)) (w : World) (hn : IsInts w.heap.size w na n) (hs : IsInts w.heap.size w sa sz) (hd : IsInts w.heap.size w da dz) :
    Calls Tryd.prog 11 #[.slice na n.length nc, .agg #[.bool c, .slice sa sz.length sc, .slice da dz.length dc]] w (UR (drE n c sz dz) (onc (drE n c sz dz) c) (onl (drE n c sz dz) (drS sz n)) (onl (drE n c sz dz) (drD n c sz dz)) w) := by
  have HI : Hid (IsInts w.heap.size w sa sz ∧ IsInts w.heap.size w da dz ∧ IsInts w.heap.size w na n) := ⟨hs, hd, hn⟩
  have HTn : Hid (∀ j, In64 (nth n j)) := Tn
  clear hs hd hn Tn
  obtain ⟨m, hm⟩ : ∃ m, m = n.length := ⟨_, rfl⟩
  rw [← hm]
  have HM : Hid (m = n.length) := hm
  have hm0 : m ≤ 9223372036854775807 := by rw [hm]; exact hl0
  clear hm hl0
  have hb : Hid (Below w.heap.size w ((w.alloc (.cells #[.bool c, .slice sa sz.length sc, .slice da dz.length dc] 24)).alloc (.cells #[.bool false, .slice none 0 0, .slice none 0 0] 24))) := ((Below.refl _ w).alloc (Nat.le_refl _) _).alloc (by simp) _
  have pa := (Abx.new w (.bool c) (.slice sa sz.length sc) (.slice da dz.length dc)).al (.cells #[.bool false, .slice none 0 0, .slice none 0 0] 24)
  have pr := Abx.new1 w (.cells #[.bool c, .slice sa sz.length sc, .slice da dz.length dc] 24) (.bool false) (.slice none 0 0) (.slice none 0 0)
  have p0 := pa.c0
  have p1 := pa.c1
  have p2 := pa.c2
  go_enter Tryd.func11, Tryd.ntmps11
  go_wp2_with fail
  refine (flaw_any c sa sc sz da dc dz h1 h2 _ ((HI.out.1.below hb.out).mono hb.out.size) ((HI.out.2.1.below hb.out).mono hb.out.size)).mono ?_
  rintro e v1 ⟨rfl, hB⟩
  replace hb : Hid (Below w.heap.size w v1) := hb.out.trans (hB.mono hb.out.size)
  have HP : Hid (Abx v1 w.heap.size (.bool c) (.slice sa sz.length sc) (.slice da dz.length dc)) := pa.go hB
  have HR : Hid (Abx v1 (w.heap.size + 1) (.bool false) (.slice none 0 0) (.slice none 0 0)) := pr.go hB
  have hR1 : w.heap.size + 1 < v1.heap.size := HR.out.lt
  clear hB pa pr p0 p1 p2
  by_cases hf : flawE c sz dz = 0
  · rw [hf]
    have HF : Hid (flawE c sz dz = 0 ∧ errOf sz = 0 ∧ sz.length ≤ 6) := ⟨hf, (flawE_zero hf).1, (flawE_short hf).1⟩
    clear hf
    have p1 := HP.out.c1
    by_cases hl : m = sz.length
    · have tl : ((m : Int) != (sz.length : Int)) = false := by simp [hl]
      have HL : Hid (m = sz.length) := hl
      have hm6 : m ≤ 6 := by have := HF.out.2.2; omega
      clear hl
      obtain ⟨S, hS⟩ : ∃ S, S = drS sz n := ⟨_, rfl⟩
      obtain ⟨U, hU⟩ : ∃ U, U = drU sz n := ⟨_, rfl⟩
      have hSm : S.length = m := by rw [hS, drS_length, HM.out]
      have hUm : U.length = m := by rw [hU, drU_length, HM.out]
      have HSU : Hid ((S = drS sz n ∧ U = drU sz n) ∧ S.length = m ∧ U.length = m) := ⟨⟨hS, hU⟩, hSm, hUm⟩
      have hSm1 : S.length ≤ m := by omega
      have hSm2 : m ≤ S.length := by omega
      have hUm1 : U.length ≤ m := by omega
      have hUm2 : m ≤ U.length := by omega
      clear hS hU hSm hUm
      go_wp2_with fail
      go_loopw [7, 8, 9] (fun s f i wx => ∃ k : Nat, k ≤ m ∧ i = .int .i64 k ∧ True ∧ Two2 wx v1.heap.size s (S.take k) f (U.take k) ∧ Below v1.heap.size v1 wx) (fun _ _ i _ => m - (intOf i).toNat)
      case atStart => exact ⟨0, Nat.zero_le _, rfl, trivial, Two2.nil _ _, Below.refl _ _⟩
      case round =>
        obtain ⟨k, hk, rfl, HJ, hT, hBx⟩ := hrel
        have HBw : Hid (Below w.heap.size w wr) := hb.out.trans (hBx.mono hb.out.size)
        have hvx := hBx.size
        have A1 := HP.out.go hBx
        have R1 : Hid (Abx wr (w.heap.size + 1) (.bool false) (.slice none 0 0) (.slice none 0 0)) := HR.out.go hBx
        have HBx : Hid (Below v1.heap.size v1 wr) := hBx
        by_cases hlt : k < m
        · obtain ⟨b, off, rfl, hbb, hcell⟩ := (HI.out.2.2.below HBw.out).at (q := k) (by rw [← HM.out]; exact hlt)
          have hc := hcell k (by rw [← HM.out]; exact hlt)
          clear hcell
          have hbv0 : b < v1.heap.size := by have := hb.out.size; omega
          have hbw0 : b < wr.heap.size := by have := HBw.out.size; omega
          have hTk1 : (S.take k).length = k := by rw [List.length_take]; omega
          have hTk2 : (U.take k).length = k := by rw [List.length_take]; omega
          have HSk : Hid (S.take (k + 1) = S.take k ++ [nth S k] ∧ U.take (k + 1) = U.take k ++ [nth U k]) := ⟨take_snoc S k (by omega), take_snoc U k (by omega)⟩
          have hx64 := HTn.out k
          obtain ⟨x, hx⟩ : ∃ x, x = nth n k := ⟨_, rfl⟩
          rw [← hx] at hc hx64
          have HX : Hid (x = nth n k) := hx
          clear hx
          have hsz := (errOf_zero.1 HF.out.2.1).2.1.nth k
          obtain ⟨bs, os, rfl, hbs, hcS⟩ := (HI.out.1.below HBw.out).at (q := k) (by rw [← HL.out]; exact hlt)
          have cs := hcS k (by rw [← HL.out]; exact hlt)
          have a1 := A1.c1
          obtain ⟨y, hy⟩ : ∃ y, y = nth sz k := ⟨_, rfl⟩
          rw [← hy] at cs hsz
          have HY : Hid (y = nth sz k) := hy
          have hkz : k < sz.length := by rw [← HL.out]; exact hlt
          obtain ⟨hy0, hy1⟩ := hsz
          clear hcS hy
          by_cases hx0 : x = 0
          · have tx : (x == 0) = true := by simp [hx0]
            by_cases hx1 : y ≤ x
            · have HV : Hid (nth S k = y ∧ nth U k = 0) := by
                rw [HSU.out.1.1, HSU.out.1.2]
                rw [drS_nth _ _ (by rw [← HM.out]; exact hlt), drU_nth _ _ (by rw [← HM.out]; exact hlt), ← HX.out, ← HY.out]
                unfold drs dru
                rw [if_pos (by omega), if_pos hx0, if_pos (by omega)]; exact ⟨rfl, rfl⟩
              clear hx0
              go_wp2_with (first | (at_builtin; refine app2_list rfl _ _ rfl _ v1.heap.size wr.heap.size u7 (S.take k) u8 (U.take k) y k hTk1 rfl rfl (hT.al _) (heap_alloc_new wr _) (by omega) (by simp; omega) ?_; intro g1 gc1 w1 hT1 hB1; have hc1 : w1.cell? ⟨b, off + k, none⟩ = some (.int .i64 x) := (hB1.cell (p := ⟨b, off + k, none⟩) hbv0).trans ((World.cell?_alloc_lt wr _ ⟨b, off + k, none⟩ hbw0).trans hc)) | (at_builtin; refine app2_list rfl _ _ rfl _ v1.heap.size w1.heap.size u8 (U.take k) (.slice (some ⟨g1, 0, none⟩) (k + 1) gc1) (S.take k ++ [y]) 0 k hTk2 rfl rfl (hT1.symm.al _) (heap_alloc_new w1 _) (by omega) (by have := hB1.size; simp at this ⊢; omega) ?_; intro g2 gc2 w2 hT2 hB2))
              refine ⟨⟨k + 1, by omega, by go_num, trivial, ?_, ?_⟩, by simp [intOf]; omega⟩
              · rw [HSk.out.1, HSk.out.2, HV.out.1, HV.out.2]
                exact hT2.symm
              · exact (((HBx.out.alloc hvx _).trans hB1).alloc (by have := hB1.size; simp at this; omega) _).trans hB2
            · have HV : Hid (nth S k = y - x ∧ nth U k = x) := by
                rw [HSU.out.1.1, HSU.out.1.2]
                rw [drS_nth _ _ (by rw [← HM.out]; exact hlt), drU_nth _ _ (by rw [← HM.out]; exact hlt), ← HX.out, ← HY.out]
                unfold drs dru
                rw [if_neg (by omega), if_pos (by omega), if_neg (by omega), if_pos (by omega)]; exact ⟨rfl, rfl⟩
              have hx2 : ¬ x ≤ -y := by omega
              have hx3 : 0 ≤ x := by omega
              clear hx0
              go_wp2_with (first | (at_builtin; refine app2_list rfl _ _ rfl _ v1.heap.size wr.heap.size u7 (S.take k) u8 (U.take k) (y - x) k hTk1 rfl rfl (hT.al _) (heap_alloc_new wr _) (by omega) (by simp; omega) ?_; intro g1 gc1 w1 hT1 hB1; have hc1 : w1.cell? ⟨b, off + k, none⟩ = some (.int .i64 x) := (hB1.cell (p := ⟨b, off + k, none⟩) hbv0).trans ((World.cell?_alloc_lt wr _ ⟨b, off + k, none⟩ hbw0).trans hc)) | (at_builtin; refine app2_list rfl _ _ rfl _ v1.heap.size w1.heap.size u8 (U.take k) (.slice (some ⟨g1, 0, none⟩) (k + 1) gc1) (S.take k ++ [(y - x)]) x k hTk2 rfl rfl (hT1.symm.al _) (heap_alloc_new w1 _) (by omega) (by have := hB1.size; simp at this ⊢; omega) ?_; intro g2 gc2 w2 hT2 hB2))
              refine ⟨⟨k + 1, by omega, by go_num, trivial, ?_, ?_⟩, by simp [intOf]; omega⟩
              · rw [HSk.out.1, HSk.out.2, HV.out.1, HV.out.2]
                exact hT2.symm
              · exact (((HBx.out.alloc hvx _).trans hB1).alloc (by have := hB1.size; simp at this; omega) _).trans hB2
          · have tx : (x == 0) = false := by simp [hx0]
            by_cases hx1 : y ≤ x
            · have HV : Hid (nth S k = 0 ∧ nth U k = 0) := by
                rw [HSU.out.1.1, HSU.out.1.2]
                rw [drS_nth _ _ (by rw [← HM.out]; exact hlt), drU_nth _ _ (by rw [← HM.out]; exact hlt), ← HX.out, ← HY.out]
                unfold drs dru
                rw [if_pos (by omega), if_neg hx0, if_pos (by omega)]; exact ⟨rfl, rfl⟩
              clear hx0
              go_wp2_with (first | (at_builtin; refine app2_list rfl _ _ rfl _ v1.heap.size wr.heap.size u7 (S.take k) u8 (U.take k) 0 k hTk1 rfl rfl (hT.al _) (heap_alloc_new wr _) (by omega) (by simp; omega) ?_; intro g1 gc1 w1 hT1 hB1; have hc1 : w1.cell? ⟨b, off + k, none⟩ = some (.int .i64 x) := (hB1.cell (p := ⟨b, off + k, none⟩) hbv0).trans ((World.cell?_alloc_lt wr _ ⟨b, off + k, none⟩ hbw0).trans hc)) | (at_builtin; refine app2_list rfl _ _ rfl _ v1.heap.size w1.heap.size u8 (U.take k) (.slice (some ⟨g1, 0, none⟩) (k + 1) gc1) (S.take k ++ [0]) 0 k hTk2 rfl rfl (hT1.symm.al _) (heap_alloc_new w1 _) (by omega) (by have := hB1.size; simp at this ⊢; omega) ?_; intro g2 gc2 w2 hT2 hB2))
              refine ⟨⟨k + 1, by omega, by go_num, trivial, ?_, ?_⟩, by simp [intOf]; omega⟩
              · rw [HSk.out.1, HSk.out.2, HV.out.1, HV.out.2]
                exact hT2.symm
              · exact (((HBx.out.alloc hvx _).trans hB1).alloc (by have := hB1.size; simp at this; omega) _).trans hB2
            · by_cases hx2 : x ≤ -y
              · have HV : Hid (nth S k = 0 ∧ nth U k = 0) := by
                  rw [HSU.out.1.1, HSU.out.1.2]
                  rw [drS_nth _ _ (by rw [← HM.out]; exact hlt), drU_nth _ _ (by rw [← HM.out]; exact hlt), ← HX.out, ← HY.out]
                  unfold drs dru
                  rw [if_pos (by omega), if_neg hx0, if_pos (by omega)]; exact ⟨rfl, rfl⟩
                clear hx0
                go_wp2_with (first | (at_builtin; refine app2_list rfl _ _ rfl _ v1.heap.size wr.heap.size u7 (S.take k) u8 (U.take k) 0 k hTk1 rfl rfl (hT.al _) (heap_alloc_new wr _) (by omega) (by simp; omega) ?_; intro g1 gc1 w1 hT1 hB1; have hc1 : w1.cell? ⟨b, off + k, none⟩ = some (.int .i64 x) := (hB1.cell (p := ⟨b, off + k, none⟩) hbv0).trans ((World.cell?_alloc_lt wr _ ⟨b, off + k, none⟩ hbw0).trans hc)) | (at_builtin; refine app2_list rfl _ _ rfl _ v1.heap.size w1.heap.size u8 (U.take k) (.slice (some ⟨g1, 0, none⟩) (k + 1) gc1) (S.take k ++ [0]) 0 k hTk2 rfl rfl (hT1.symm.al _) (heap_alloc_new w1 _) (by omega) (by have := hB1.size; simp at this ⊢; omega) ?_; intro g2 gc2 w2 hT2 hB2))
                refine ⟨⟨k + 1, by omega, by go_num, trivial, ?_, ?_⟩, by simp [intOf]; omega⟩
                · rw [HSk.out.1, HSk.out.2, HV.out.1, HV.out.2]
                  exact hT2.symm
                · exact (((HBx.out.alloc hvx _).trans hB1).alloc (by have := hB1.size; simp at this; omega) _).trans hB2
              · by_cases hx3 : 0 ≤ x
                · have HV : Hid (nth S k = y - x ∧ nth U k = x) := by
                    rw [HSU.out.1.1, HSU.out.1.2]
                    rw [drS_nth _ _ (by rw [← HM.out]; exact hlt), drU_nth _ _ (by rw [← HM.out]; exact hlt), ← HX.out, ← HY.out]
                    unfold drs dru
                    rw [if_neg (by omega), if_pos hx3, if_neg (by omega), if_pos hx3]; exact ⟨rfl, rfl⟩
                  go_wp2_with (first | (at_builtin; refine app2_list rfl _ _ rfl _ v1.heap.size wr.heap.size u7 (S.take k) u8 (U.take k) (y - x) k hTk1 rfl rfl (hT.al _) (heap_alloc_new wr _) (by omega) (by simp; omega) ?_; intro g1 gc1 w1 hT1 hB1; have hc1 : w1.cell? ⟨b, off + k, none⟩ = some (.int .i64 x) := (hB1.cell (p := ⟨b, off + k, none⟩) hbv0).trans ((World.cell?_alloc_lt wr _ ⟨b, off + k, none⟩ hbw0).trans hc)) | (at_builtin; refine app2_list rfl _ _ rfl _ v1.heap.size w1.heap.size u8 (U.take k) (.slice (some ⟨g1, 0, none⟩) (k + 1) gc1) (S.take k ++ [(y - x)]) x k hTk2 rfl rfl (hT1.symm.al _) (heap_alloc_new w1 _) (by omega) (by have := hB1.size; simp at this ⊢; omega) ?_; intro g2 gc2 w2 hT2 hB2))
                  refine ⟨⟨k + 1, by omega, by go_num, trivial, ?_, ?_⟩, by simp [intOf]; omega⟩
                  · rw [HSk.out.1, HSk.out.2, HV.out.1, HV.out.2]
                    exact hT2.symm
                  · exact (((HBx.out.alloc hvx _).trans hB1).alloc (by have := hB1.size; simp at this; omega) _).trans hB2
                · have HV : Hid (nth S k = y + x ∧ nth U k = 0) := by
                    rw [HSU.out.1.1, HSU.out.1.2]
                    rw [drS_nth _ _ (by rw [← HM.out]; exact hlt), drU_nth _ _ (by rw [← HM.out]; exact hlt), ← HX.out, ← HY.out]
                    unfold drs dru
                    rw [if_neg (by omega), if_neg hx3, if_neg (by omega), if_neg hx3]; exact ⟨rfl, rfl⟩
                  go_wp2_with (first | (at_builtin; refine app2_list rfl _ _ rfl _ v1.heap.size wr.heap.size u7 (S.take k) u8 (U.take k) (y + x) k hTk1 rfl rfl (hT.al _) (heap_alloc_new wr _) (by omega) (by simp; omega) ?_; intro g1 gc1 w1 hT1 hB1; have hc1 : w1.cell? ⟨b, off + k, none⟩ = some (.int .i64 x) := (hB1.cell (p := ⟨b, off + k, none⟩) hbv0).trans ((World.cell?_alloc_lt wr _ ⟨b, off + k, none⟩ hbw0).trans hc)) | (at_builtin; refine app2_list rfl _ _ rfl _ v1.heap.size w1.heap.size u8 (U.take k) (.slice (some ⟨g1, 0, none⟩) (k + 1) gc1) (S.take k ++ [(y + x)]) 0 k hTk2 rfl rfl (hT1.symm.al _) (heap_alloc_new w1 _) (by omega) (by have := hB1.size; simp at this ⊢; omega) ?_; intro g2 gc2 w2 hT2 hB2))
                  refine ⟨⟨k + 1, by omega, by go_num, trivial, ?_, ?_⟩, by simp [intOf]; omega⟩
                  · rw [HSk.out.1, HSk.out.2, HV.out.1, HV.out.2]
                    exact hT2.symm
                  · exact (((HBx.out.alloc hvx _).trans hB1).alloc (by have := hB1.size; simp at this; omega) _).trans hB2
        · obtain rfl : k = m := by omega
          rw [List.take_of_length_le (by omega), List.take_of_length_le (by omega)] at hT
          obtain ⟨g, gc, f1, fc, rfl, rfl, hG, hF⟩ := hT.out HSU.out.2.1 HSU.out.2.2
          have HGF : Hid (NewInts v1.heap.size wr g S ∧ NewInts v1.heap.size wr f1 U) := ⟨hG, hF⟩
          have a0 := A1.c0
          have a1 := A1.c1
          have a2 := A1.c2
          clear hT hG hF hlt
          have HE : Hid (drE n c sz dz = 0) := drE_zero.2 ⟨HF.out.1, by rw [← HM.out]; exact HL.out⟩
          have HES : Hid (errOf S = 0) := by show _ = _; rw [HSU.out.1.1]; exact dr_err HE.out
          have HUb : Hid (∀ j, -8192 ≤ nth U j ∧ nth U j ≤ 8192) := fun j => by
            rw [HSU.out.1.2]
            by_cases hj : j < n.length
            · rw [drU_nth _ _ hj]
              have h8 := (errOf_zero.1 HF.out.2.1).2.1.nth j
              unfold dru
              repeat' split
              all_goals omega
            · have : nth (drU sz n) j = 0 := by simp [nth, List.getElem?_eq_none (show (drU sz n).length ≤ j by rw [drU_length]; omega)]
              rw [this]; omega
          go_wp2_with fail
          refine (part_n c sa sc sz da dc dz g gc S f1 fc U k (prod S).toNat HSU.out.2.1 HSU.out.2.2 (by have := prod_nonneg (errOf_zero.1 HES.out).2.1; omega) HF.out.1 HES.out HL.out HUb.out wr ((HI.out.1.below HBw.out).mono HBw.out.size) ((HI.out.2.1.below HBw.out).mono HBw.out.size) HGF.out.1.ints HGF.out.2.ints _ rfl).mono ?_
          rintro e z ⟨xa, xc, ya, yc, rfl, hX, hY, hB⟩
          have HZ : Hid (NewInts wr.heap.size z xa S ∧ NewInts wr.heap.size z ya (ptD c sz dz S U) ∧ Below w.heap.size w z) := ⟨hX, hY, HBw.out.trans (hB.mono HBw.out.size)⟩
          have R2 : Hid (Abx z (w.heap.size + 1) (.bool false) (.slice none 0 0) (.slice none 0 0)) := R1.out.go hB
          have hz2 := R1.out.lt
          clear hX hY hB a0 a1 a2
          have r_0 := R2.out.c0
          have r_1 := R2.out.c1
          have r_2 := R2.out.c2
          have f_0 := R2.out.fr 0
          have f_1 := R2.out.fr 1
          have f_2 := R2.out.fr 2
          go_wp2_with fail
          have FF := R2.out.set3 (.bool c) (.slice xa k xc) (.slice ya (ptD c sz dz S U).length yc)
          have q0 := FF.c0
          have q1 := FF.c1
          have q2 := FF.c2
          refine bodyPost_ret (v := .tuple #[.agg #[.bool c, .slice xa k xc, .slice ya (ptD c sz dz S U).length yc], .int .i64 0]) (by simp [results, Tryd.results11, go_sem, q0, q1, q2]) rfl ?_
          have hX := (HZ.out.1.set3 (b := w.heap.size + 1) (by omega) (.bool c) (.slice xa k xc) (.slice ya (ptD c sz dz S U).length yc)).low (lo' := w.heap.size) (by omega)
          have hY := (HZ.out.2.1.set3 (b := w.heap.size + 1) (by omega) (.bool c) (.slice xa k xc) (.slice ya (ptD c sz dz S U).length yc)).low (lo' := w.heap.size) (by omega)
          have hZ := bel_set3 HZ.out.2.2 (b := w.heap.size + 1) (by omega) (.bool c) (.slice xa k xc) (.slice ya (ptD c sz dz S U).length yc)
          have hUR := UR.ok (c := c) (xc := xc) (yc := yc) HE.out hX hY hZ
          have hE2 := HSU.out
          obtain ⟨⟨rfl, rfl⟩, hS2, _⟩ := hE2
          rw [hS2] at hUR
          exact hUR
    · have tl : ((m : Int) != (sz.length : Int)) = true := by simp; omega
      have HE : Hid (drE n c sz dz = 4) := by show _ = _; unfold drE; rw [if_neg (by simpa using HF.out.1), if_pos (by rw [← HM.out]; exact hl)]
      clear hl
      have r_0 := HR.out.c0
      have r_1 := HR.out.c1
      have r_2 := HR.out.c2
      have f_0 := HR.out.fr 0
      have f_1 := HR.out.fr 1
      have f_2 := HR.out.fr 2
      go_wp2_with fail
      have FF := HR.out.set3 (.bool false) (.slice none 0 0) (.slice none 0 0)
      have q0 := FF.c0
      have q1 := FF.c1
      have q2 := FF.c2
      exact bodyPost_ret (v := .tuple #[.agg #[.bool false, .slice none 0 0, .slice none 0 0], .int .i64 4]) (by simp [results, Tryd.results11, go_sem, q0, q1, q2]) rfl (UR.no HE.out (by decide) (bel_set3 hb.out (by omega) _ _ _))
  · have t0 : (flawE c sz dz != 0) = true := by simpa using hf
    have HE : Hid (drE n c sz dz = flawE c sz dz) := by show _ = _; unfold drE; rw [if_pos hf]
    have HF : Hid (flawE c sz dz ≠ 0) := hf
    clear hf
    have r_0 := HR.out.c0
    have r_1 := HR.out.c1
    have r_2 := HR.out.c2
    have f_0 := HR.out.fr 0
    have f_1 := HR.out.fr 1
    have f_2 := HR.out.fr 2
    go_wp2_with fail
    have FF := HR.out.set3 (.bool false) (.slice none 0 0) (.slice none 0 0)
    have q0 := FF.c0
    have q1 := FF.c1
    have q2 := FF.c2
    exact bodyPost_ret (v := .tuple #[.agg #[.bool false, .slice none 0 0, .slice none 0 0], .int .i64 (flawE c sz dz)]) (by simp [results, Tryd.results11, go_sem, q0, q1, q2]) rfl (UR.no HE.out HF.out (bel_set3 hb.out (by omega) _ _ _))
end Go.Proofs.YtldjgacnjogbnaaDoor
