/-
  What package cut's Keep tells.
-/
import Derived.Test.YtnfdcdoelhanlaaCutb
import Derived.Test.YtnfdcdoelhanlaaApps
import Derived.Deep.QuietTactic
import Derived.BigQuiet
import Derived.WalkSmall
namespace Go.Proofs.Ytnfdcdoelhanlaa
open Go.RowKit
set_option linter.unusedVariables false

theorem heap_newKeep (w : World) (o : Obj) : (w.alloc o).heap[w.heap.size]? = some o := World.alloc_heap_new w o
theorem kpE_ax {m : List Int} {x : Int} {c : Bool} {s dz : List Int} (h : axE x c s dz ≠ 0) : kpE m x c s dz = axE x c s dz := by unfold kpE; rw [if_pos h]
theorem kpE_len {m : List Int} {x : Int} {c : Bool} {s dz : List Int} (h : axE x c s dz = 0) (k : (m.length : Int) ≠ nth s x.toNat) : kpE m x c s dz = 4 := by unfold kpE; rw [if_neg (by simpa using h), if_pos k]
theorem kpE_msk {m : List Int} {x : Int} {c : Bool} {s dz : List Int} (h : axE x c s dz = 0) (k : (m.length : Int) = nth s x.toNat) (q : mskB m = false) : kpE m x c s dz = 6 := by unfold kpE; rw [if_neg (by simpa using h), if_neg (by simpa using k), if_pos q]
set_option maxRecDepth 100000 in
set_option maxHeartbeats 4000000 in
theorem kp_holds : CKp := by
  intro ma mc m x c sa sc sz da dc dz w h0 T0 hx h1 h2 hm hs hd T
  have HI : Hid (IsC w.heap.size w sa sz sc ∧ IsC w.heap.size w da dz dc ∧ IsC w.heap.size w ma m mc) := ⟨hs, hd, hm⟩
  have HX : Hid (In64 x) := hx
  clear hs hd hm T T0 hx
  have HB0 : Hid (Below w.heap.size w ((w.alloc (.cells #[.bool c, .slice sa sz.length sc, .slice da dz.length dc] 25)).alloc (.cells #[.bool false, .slice none 0 0, .slice none 0 0] 25))) := ((Below.refl _ w).alloc (Nat.le_refl _) _).alloc (by simp) _
  have pa := (Abx.new w (.bool c) (.slice sa sz.length sc) (.slice da dz.length dc)).al (.cells #[.bool false, .slice none 0 0, .slice none 0 0] 25)
  have pr := Abx.new1 w (.cells #[.bool c, .slice sa sz.length sc, .slice da dz.length dc] 25) (.bool false) (.slice none 0 0) (.slice none 0 0)
  have p0 := pa.c0
  have p1 := pa.c1
  have p2 := pa.c2
  by_cases h3 : axE x c sz dz = 0
  · have H3 : Hid (axE x c sz dz = 0) := h3
    obtain ⟨hf, hx0, hx1⟩ := axE_zero.1 h3
    obtain ⟨xn, rfl⟩ : ∃ xn : Nat, x = (xn : Int) := ⟨x.toNat, by omega⟩
    rw [Int.toNat_natCast] at hx1
    have HF : Hid (flawE c sz dz = 0) := hf
    clear h3 hf hx0
    go_enter Try.func12, Try.ntmps12
    go_wp2_with fail
    refine (axis_ok (xn : Int) c sa sc sz da dc dz h1 h2 _ ((HI.out.1.1.below HB0.out).mono HB0.out.size) ((HI.out.2.1.1.below HB0.out).mono HB0.out.size) H3.out).mono ?_
    rintro e v1 ⟨rfl, hC⟩
    have HB1 : Hid (Below w.heap.size w v1) := HB0.out.trans (hC.mono HB0.out.size)
    have HP : Hid (Abx v1 w.heap.size (.bool c) (.slice sa sz.length sc) (.slice da dz.length dc)) := pa.go hC
    have HR : Hid (Abx v1 (w.heap.size + 1) (.bool false) (.slice none 0 0) (.slice none 0 0)) := pr.go hC
    clear hC pa pr p0 p1 p2 HB0
    have a1 := HP.out.c1
    obtain ⟨bs, os, rfl, hbs, hcS⟩ := (HI.out.1.1.below HB1.out).at hx1
    have cs := hcS xn hx1
    clear hcS
    by_cases hlen : (m.length : Int) = nth sz xn
    · have HLN : Hid ((m.length : Int) = nth sz xn) := hlen
      rw [← hlen] at cs
      clear hlen
      go_wp2_with fail
      refine (mask6_any ma mc m h0 v1.heap.size v1 ((HI.out.2.2.1.below HB1.out).mono HB1.out.size)).mono ?_
      rintro e v2 ⟨rfl, hv2⟩
      obtain rfl := hv2.symm
      clear hv2
      by_cases hmk : mskB m = true
      · have HK : Hid (kpE m (xn : Int) c sz dz = 0 ∧ mskB m = true) := ⟨kpZ.2 ⟨HF.out, hx1, HLN.out, hmk⟩, hmk⟩
        have hm4 : m.length ≤ 4096 := by have := ((errOf_zero.1 (flawE_zero HF.out).1).2.1.nth xn).2; have := HLN.out; omega
        rw [hmk]
        clear hmk
        go_wp2_with fail
        go_loopw [9, 36] (fun v i wr => ∃ k : Nat, k ≤ m.length ∧ i = .int .i64 k ∧ wr.ownsRow v1.heap.size 3 1 v (kpl m k).length ((kpl m k).map (Value.int .i64)) ∧ Below v1.heap.size v1 wr) (fun v i _ => m.length - (intOf i).toNat)
        case atStart => exact ⟨0, Nat.zero_le _, rfl, World.ownsRow_nil _ _ _ _, Below.refl _ _⟩
        case round =>
          obtain ⟨k, hk, rfl, hown, hBv⟩ := hrel
          have hB : Below w.heap.size w wr := HB1.out.trans (hBv.mono HB1.out.size)
          have hsz2 : v1.heap.size ≤ wr.heap.size := hBv.size
          by_cases hlt : k < m.length
          · obtain ⟨bm, om, rfl, hbm, hcM⟩ := (HI.out.2.2.1.below hB).at hlt
            have cm := hcM k hlt
            clear hcM
            by_cases hbit : nth m k = 1
            · have HS : Hid (kpl m (k + 1) = kpl m k ++ [(k : Int)]) := by show _ = _; simp only [kpl]; rw [if_pos hbit]
              have hll : (kpl m k).length ≤ 1000000 := by have := kpl_le m k; omega
              rw [hbit] at cm
              have HQ : Hid (Below v1.heap.size v1 wr) := hBv
              clear hbit hBv hB
              go_wp2_with (at_builtin; refine app_list rfl _ _ rfl _ v1.heap.size wr.heap.size _ (kpl m k) (k : Int) rfl rfl (hown.alloc _) (heap_newKeep wr _) hll (by simp; omega) ?_; intro g1 gc1 w9 hown9 hB9)
              refine ⟨⟨k + 1, by omega, by go_num, ?_, (HQ.out.alloc hsz2 _).trans hB9⟩, by simp [intOf]; omega⟩
              rw [HS.out, List.length_append]
              exact hown9
            · have HS : Hid (kpl m (k + 1) = kpl m k) := by show _ = _; simp only [kpl]; rw [if_neg hbit]
              have t1 : (nth m k == 1) = false := by simpa using hbit
              go_wp2_with fail
              refine ⟨⟨k + 1, by omega, by go_num, ?_, hBv⟩, by simp [intOf]; omega⟩
              rw [HS.out]
              exact hown
          · obtain rfl : k = m.length := by omega
            obtain ⟨g, gc, rfl, hN⟩ := own_cap hown
            have HN : Hid (NewC v1.heap.size wr g (kpl m m.length) gc) := hN
            have HBw : Hid (Below w.heap.size w wr) := hB
            have HRw : Hid (Abx wr (w.heap.size + 1) (.bool false) (.slice none 0 0) (.slice none 0 0)) := HR.out.go hBv
            have hPw := HP.out.go hBv
            have b0 := hPw.c0
            have b1 := hPw.c1
            have b2 := hPw.c2
            have HE : Hid (kpE m (xn : Int) c sz dz = errOf (kpS m xn sz) ∧ kpS6 m (xn : Int) c sz dz = onl (errOf (kpS m xn sz)) (kpS m xn sz) ∧ kpD6 m (xn : Int) c sz dz = onl (errOf (kpS m xn sz)) (kpD m xn sz dz)) := by
              have e1 := kp_err HK.out.1
              have e2 := HK.out.1
              unfold kpS6 kpD6
              rw [e1, e2, Int.toNat_natCast]
              exact ⟨rfl, rfl, rfl⟩
            clear hown hBv hB hPw hN
            go_wp2_with fail
            refine (alongc_any xn g gc (kpl m m.length) (kpl m m.length).length rfl c (some ⟨bs, os, none⟩) sc sz da dc dz (kpS m xn sz) (kpD m xn sz dz) HF.out hx1 (kp_ga HK.out.1).1 (fun _ => (kp_ga HK.out.1).2) wr HN.out.ints ((HI.out.1.below HBw.out).mono HBw.out.size) ((HI.out.2.1.below HBw.out).mono HBw.out.size)).mono ?_
            clear b0 b1 b2
            rintro e w3 ⟨xa, xc, ya, yc, rfl, hX, hY, hB⟩
            have HX : Hid (NewC wr.heap.size w3 xa (onl (errOf (kpS m xn sz)) (kpS m xn sz)) xc ∧ NewC wr.heap.size w3 ya (onl (errOf (kpS m xn sz)) (kpD m xn sz dz)) yc ∧ Below wr.heap.size wr w3) := ⟨hX, hY, hB⟩
            have HG6 : Hid (kpE m (xn : Int) c sz dz = errOf (kpS m xn sz) ∧ onc (kpE m (xn : Int) c sz dz) c = onc (errOf (kpS m xn sz)) c ∧ kpS6 m (xn : Int) c sz dz = onl (errOf (kpS m xn sz)) (kpS m xn sz) ∧ kpD6 m (xn : Int) c sz dz = onl (errOf (kpS m xn sz)) (kpD m xn sz dz)) := ⟨HE.out.1, by rw [HE.out.1], HE.out.2.1, HE.out.2.2⟩
            have R3 := HRw.out.go hB
            have hwr : w.heap.size + 1 < wr.heap.size := HRw.out.lt
            clear hX hY hB HE
            generalize onl (errOf (kpS m xn sz)) (kpS m xn sz) = S' at *
            generalize onl (errOf (kpS m xn sz)) (kpD m xn sz dz) = D' at *
            generalize onc (errOf (kpS m xn sz)) c = C' at *
            generalize errOf (kpS m xn sz) = E' at *
            have r0 := R3.c0
            have r1 := R3.c1
            have r2 := R3.c2
            have f0 := R3.fr 0
            have f1 := R3.fr 1
            have f2 := R3.fr 2
            go_wp2_with fail
            have F := R3.set3 (.bool C') (.slice xa S'.length xc) (.slice ya D'.length yc)
            have q0 := F.c0
            have q1 := F.c1
            have q2 := F.c2
            have k1 := HX.out.1
            have k2 := HX.out.2.1
            have k3 := HX.out.2.2
            have hX1 := (k1.set3 (b := w.heap.size + 1) (by omega) (.bool C') (.slice xa S'.length xc) (.slice ya D'.length yc)).low (lo' := w.heap.size) (by omega)
            have hX2 := (k2.set3 (b := w.heap.size + 1) (by omega) (.bool C') (.slice xa S'.length xc) (.slice ya D'.length yc)).low (lo' := w.heap.size) (by omega)
            have hX3 := bel_set3 (HBw.out.trans (k3.mono HBw.out.size)) (b := w.heap.size + 1) (by omega) (.bool C') (.slice xa S'.length xc) (.slice ya D'.length yc)
            exact bodyPost_ret (v := .tuple #[.agg #[.bool C', .slice xa S'.length xc, .slice ya D'.length yc], errV E']) (by simp [results, Try.results12, go_sem, q0, q1, q2]) rfl (by rw [HG6.out.2.2.1, HG6.out.2.2.2, HG6.out.2.1, HG6.out.1]; exact ⟨xa, xc, ya, yc, rfl, hX1, hX2, hX3⟩)
      · have hmf : mskB m = false := by simpa using hmk
        have HE : Hid (kpE m (xn : Int) c sz dz = 6) := kpE_msk H3.out HLN.out hmf
        rw [hmf]
        clear hmk hmf
        have r0 := HR.out.c0
        have r1 := HR.out.c1
        have r2 := HR.out.c2
        have f0 := HR.out.fr 0
        have f1 := HR.out.fr 1
        have f2 := HR.out.fr 2
        go_wp2_with fail
        have F := HR.out.set3 (.bool false) (.slice none 0 0) (.slice none 0 0)
        have q0 := F.c0
        have q1 := F.c1
        have q2 := F.c2
        exact bodyPost_ret (v := .tuple #[.agg #[.bool false, .slice none 0 0, .slice none 0 0], .iface 60 (.int .i64 6)]) (by simp [results, Try.results12, go_sem, q0, q1, q2]) rfl (UB.mkno HE.out (by decide) (bel_set3 HB1.out (by omega) _ _ _))
    · have HE : Hid (kpE m (xn : Int) c sz dz = 4) := kpE_len H3.out hlen
      have t1 : ((m.length : Int) != nth sz xn) = true := by simpa using hlen
      have r0 := HR.out.c0
      have r1 := HR.out.c1
      have r2 := HR.out.c2
      have f0 := HR.out.fr 0
      have f1 := HR.out.fr 1
      have f2 := HR.out.fr 2
      go_wp2_with fail
      have F := HR.out.set3 (.bool false) (.slice none 0 0) (.slice none 0 0)
      have q0 := F.c0
      have q1 := F.c1
      have q2 := F.c2
      exact bodyPost_ret (v := .tuple #[.agg #[.bool false, .slice none 0 0, .slice none 0 0], .iface 60 (.int .i64 4)]) (by simp [results, Try.results12, go_sem, q0, q1, q2]) rfl (UB.mkno HE.out (by decide) (bel_set3 HB1.out (by omega) _ _ _))
  · have H3 : Hid (axE x c sz dz ≠ 0) := h3
    have HE : Hid (kpE m x c sz dz = axE x c sz dz) := kpE_ax h3
    clear h3
    go_enter Try.func12, Try.ntmps12
    go_wp2_with fail
    refine (axis_no x HX.out c sa sc sz da dc dz h1 h2 _ ((HI.out.1.1.below HB0.out).mono HB0.out.size) ((HI.out.2.1.1.below HB0.out).mono HB0.out.size) H3.out).mono ?_
    rintro e v1 ⟨rfl, hC⟩
    have HB1 : Hid (Below w.heap.size w v1) := HB0.out.trans (hC.mono HB0.out.size)
    have HP : Hid (Abx v1 w.heap.size (.bool c) (.slice sa sz.length sc) (.slice da dz.length dc)) := pa.go hC
    have HR : Hid (Abx v1 (w.heap.size + 1) (.bool false) (.slice none 0 0) (.slice none 0 0)) := pr.go hC
    clear hC pa pr p0 p1 p2 HB0
    have r0 := HR.out.c0
    have r1 := HR.out.c1
    have r2 := HR.out.c2
    have f0 := HR.out.fr 0
    have f1 := HR.out.fr 1
    have f2 := HR.out.fr 2
    go_wp2_with fail
    have F := HR.out.set3 (.bool false) (.slice none 0 0) (.slice none 0 0)
    have q0 := F.c0
    have q1 := F.c1
    have q2 := F.c2
    exact bodyPost_ret (v := .tuple #[.agg #[.bool false, .slice none 0 0, .slice none 0 0], .iface 60 (.int .i64 (axE x c sz dz))]) (by simp [results, Try.results12, go_sem, q0, q1, q2]) rfl (UB.mkno HE.out H3.out (bel_set3 HB1.out (by omega) _ _ _))
end Go.Proofs.Ytnfdcdoelhanlaa
