/-
  What package cut gathers by lists of indices.
-/
import Derived.Test.YtnfdcdoelhanlaaCutv
import Derived.Test.YtnfdcdoelhanlaaCutk
import Derived.Test.YtnfdcdoelhanlaaCutq
namespace Go.Proofs.Ytnfdcdoelhanlaa
open Go.RowKit
set_option linter.unusedVariables false

theorem UB.mkno {e : Int} {c : Bool} {S D : List Int} {w w' : World} {e' : Int} (h : e = e') (h0 : e' ≠ 0) (hB : Below w.heap.size w w') : UB e (onc e c) (onl e S) (onl e D) w (.returned (.tuple #[.agg #[.bool false, .slice none 0 0, .slice none 0 0], .iface 60 (.int .i64 e')])) w' := by
  subst h
  unfold UB
  rw [onc_no h0, onl_no h0, onl_no h0, errV_pos h0]
  exact ⟨none, 0, none, 0, rfl, ⟨.inl rfl, Nat.le_refl _⟩, ⟨.inl rfl, Nat.le_refl _⟩, hB⟩
theorem UB.mkok {e : Int} {c : Bool} {S D : List Int} {w w' : World} {xa : Option Addr} {xc : Nat} {ya : Option Addr} {yc : Nat} (h : e = 0) (hX : NewC w.heap.size w' xa S xc) (hY : NewC w.heap.size w' ya D yc) (hB : Below w.heap.size w w') :
    UB e (onc e c) (onl e S) (onl e D) w (.returned (.tuple #[.agg #[.bool c, .slice xa S.length xc, .slice ya D.length yc], .nilIface])) w' := by
  subst h
  exact ⟨xa, xc, ya, yc, rfl, hX, hY, hB⟩
theorem count_l (a : Option Addr) (cap : Nat) (zs : List Int) (l : Nat) (hl : zs.length = l) (N : Nat) (hreach : l ≤ 9223372036854775807) (w : World) (hI : IsInts w.heap.size w a zs) (he : errOf zs = 0) (hN : (N : Int) = prod zs) :
    Calls Try.prog 39 #[.slice a l cap] w fun e w' => e = .returned (.tuple #[.int .i64 (N : Int), .nilIface]) ∧ Below w.heap.size w w' := by
  subst hl
  rw [hN]
  exact count_ok a cap zs hreach w hI he
theorem count_lno (a : Option Addr) (cap : Nat) (zs : List Int) (l : Nat) (hl : zs.length = l) (hreach : l ≤ 9223372036854775807) (w : World) (hI : IsInts w.heap.size w a zs) (he : errOf zs ≠ 0) :
    Calls Try.prog 39 #[.slice a l cap] w fun e w' => e = .returned (.tuple #[.int .i64 0, .iface 60 (.int .i64 (errOf zs))]) ∧ Below w.heap.size w w' := by
  subst hl
  exact count_no a cap zs hreach w hI he
/-- A row, one cell of which was stored over. -/
def upF (f : Nat → Int) (k : Nat) (v : Int) (j : Nat) : Value := if j = k then .int .i64 v else upTo f k j
theorem upF_done {wr : World} {B : Nat} {t : TypeId} {n : Nat} {f : Nat → Int} {k : Nat} {v : Int} (h : wr.rowIs B t n (upF f k v)) (hv : v = f k) : wr.rowIs B t n (upTo f (k + 1)) := by
  refine h.congr fun j hj => ?_
  unfold upF upTo
  by_cases e : j = k
  · subst e; rw [if_pos rfl, if_pos (by omega), hv]
  · rw [if_neg e]
    by_cases e2 : j < k
    · rw [if_pos e2, if_pos (by omega)]
    · rw [if_neg e2, if_neg (by omega)]
theorem upF_set {wr : World} {B : Nat} {t : TypeId} {n : Nat} {f : Nat → Int} {k : Nat} {v : Int} (h : wr.rowIs B t n (upF f k v)) (u : Int) : (wr.setCell ⟨B, k, none⟩ (.int .i64 u)).rowIs B t n (upF f k u) := by
  refine (h.set k _).congr fun j hj => ?_
  unfold upF
  by_cases e : j = k
  · rw [if_pos e, if_pos e]
  · rw [if_neg e, if_neg e, if_neg e]
theorem upF_first {wr : World} {B : Nat} {t : TypeId} {n : Nat} {f : Nat → Int} {k : Nat} (h : wr.rowIs B t n (upTo f k)) (u : Int) : (wr.setCell ⟨B, k, none⟩ (.int .i64 u)).rowIs B t n (upF f k u) := by
  refine (h.set k _).congr fun j hj => ?_
  unfold upF
  rfl
set_option maxRecDepth 100000 in
set_option maxHeartbeats 4000000 in
theorem gather_any (fa : Option Addr) (fc : Nat) (rs : List Rw) (c : Bool) (sa : Option Addr) (sc : Nat) (sz : List Int) (da : Option Addr) (dc : Nat) (dz : List Int) (hf : flawE c sz dz = 0) (hl : rs.length = sz.length) (w : World) (hR : IsR w.heap.size w fa rs) (hs : IsC w.heap.size w sa sz sc) (hd : IsC w.heap.size w da dz dc) :
    Calls Try.prog 52 #[.slice fa rs.length fc, .agg #[.bool c, .slice sa sz.length sc, .slice da dz.length dc]] w (UB (errOf (gaS (rwl rs))) (onc (errOf (gaS (rwl rs))) c) (onl (errOf (gaS (rwl rs))) (gaS (rwl rs))) (onl (errOf (gaS (rwl rs))) (gaD c sz dz (rwl rs))) w) := by
  have HI : Hid (IsC w.heap.size w sa sz sc ∧ IsC w.heap.size w da dz dc ∧ IsR w.heap.size w fa rs) := ⟨hs, hd, hR⟩
  have HF : Hid (errOf sz = 0 ∧ (dz.length : Int) = prod sz) := ⟨(flawE_zero hf).1, (flawE_zero hf).2.1⟩
  have HL : Hid (rs.length = sz.length) := hl
  have hn6 : rs.length ≤ 6 := by have := (flawE_short hf).1; omega
  have hd4 : dz.length ≤ 4096 := (flawE_short hf).2
  clear hs hd hR hf hl
  have HB0 : Hid (Below w.heap.size w ((w.alloc (.cells #[.bool c, .slice sa sz.length sc, .slice da dz.length dc] 25)).alloc (.cells #[.bool false, .slice none 0 0, .slice none 0 0] 25))) := ((Below.refl _ w).alloc (Nat.le_refl _) _).alloc (by simp) _
  have pa := (Abx.new w (.bool c) (.slice sa sz.length sc) (.slice da dz.length dc)).al (.cells #[.bool false, .slice none 0 0, .slice none 0 0] 25)
  have pr := Abx.new1 w (.cells #[.bool c, .slice sa sz.length sc, .slice da dz.length dc] 25) (.bool false) (.slice none 0 0) (.slice none 0 0)
  obtain ⟨S, hS⟩ : ∃ S, S = gaS (rwl rs) := ⟨_, rfl⟩
  obtain ⟨D, hD⟩ : ∃ D, D = gaD c sz dz (rwl rs) := ⟨_, rfl⟩
  rw [← hS, ← hD]
  have HS : Hid (S = gaS (rwl rs) ∧ S.length = rs.length ∧ ∀ k, k < rs.length → nth S k = (rwa rs k).2.length) := ⟨hS, by rw [hS, gaS_length, rwl_length], fun k hk => by rw [hS, gaS_nth (by rw [rwl_length]; exact hk), rwl_at]⟩
  have HD : Hid (D = gaD c sz dz (rwl rs)) := hD
  clear hS hD
  obtain ⟨n, hn⟩ : ∃ n, n = rs.length := ⟨_, rfl⟩
  have HN : Hid (n = rs.length ∧ S.length = n) := ⟨hn, by rw [hn]; exact HS.out.2.1⟩
  rw [← hn]
  rw [← hn] at hn6
  clear hn
  have r0 := World.rowIs_made ((w.alloc (.cells #[.bool c, .slice sa sz.length sc, .slice da dz.length dc] 25)).alloc (.cells #[.bool false, .slice none 0 0, .slice none 0 0] 25)) (.int .i64 0) n 3
  simp only [World.size_alloc] at r0
  have HR0 : Hid (((((w.alloc (.cells #[.bool c, .slice sa sz.length sc, .slice da dz.length dc] 25)).alloc (.cells #[.bool false, .slice none 0 0, .slice none 0 0] 25)).alloc (.cells (madeCells #[.int .i64 0] n) 3)).rowIs (w.heap.size + 1 + 1) 3 n (upTo (nth S) 0)) ∧ Abx (((w.alloc (.cells #[.bool c, .slice sa sz.length sc, .slice da dz.length dc] 25)).alloc (.cells #[.bool false, .slice none 0 0, .slice none 0 0] 25)).alloc (.cells (madeCells #[.int .i64 0] n) 3)) w.heap.size (.bool c) (.slice sa sz.length sc) (.slice da dz.length dc) ∧ Abx (((w.alloc (.cells #[.bool c, .slice sa sz.length sc, .slice da dz.length dc] 25)).alloc (.cells #[.bool false, .slice none 0 0, .slice none 0 0] 25)).alloc (.cells (madeCells #[.int .i64 0] n) 3)) (w.heap.size + 1) (.bool false) (.slice none 0 0) (.slice none 0 0) ∧ Below w.heap.size w (((w.alloc (.cells #[.bool c, .slice sa sz.length sc, .slice da dz.length dc] 25)).alloc (.cells #[.bool false, .slice none 0 0, .slice none 0 0] 25)).alloc (.cells (madeCells #[.int .i64 0] n) 3))) :=
    ⟨r0.congr (fun j _ => by simp [upTo]), pa.al _, pr.al _, HB0.out.alloc HB0.out.size _⟩
  have hmk := run_make_row' (P := Try.prog) 23 3 (.int .i64 0) 8 Try.underlying23 Try.infoInt rfl .i64 .i64 n (by omega) (by omega)
  clear r0 pa pr HB0
  go_enter Try.func52, Try.ntmps52
  go_wp2_with fail
  clear hmk
  go_loopw [20] (fun i wr => ∃ k : Nat, k ≤ n ∧ i = .int .i64 k ∧ wr.rowIs (w.heap.size + 1 + 1) 3 n (upTo (nth S) k) ∧ Abx wr w.heap.size (.bool c) (.slice sa sz.length sc) (.slice da dz.length dc) ∧ Abx wr (w.heap.size + 1) (.bool false) (.slice none 0 0) (.slice none 0 0) ∧ Below w.heap.size w wr) (fun i _ => n - (intOf i).toNat)
  case atStart => exact ⟨0, Nat.zero_le _, rfl, HR0.out⟩
  case round =>
    obtain ⟨k, hk, rfl, hrow, hA, hR, hB⟩ := hrel
    clear HR0
    by_cases hlt : k < n
    · have hkr : k < rs.length := by rw [← HN.out.1]; exact hlt
      obtain ⟨bf, of, rfl, hbf, hcF⟩ := (HI.out.2.2.below hB).at hkr
      have cf := hcF k hkr
      unfold rv at cf
      have HV : Hid (((rwa rs k).2.length : Int) = nth S k) := (HS.out.2.2 k hkr).symm
      have c2 := hrow.cell hlt
      have f2 := hrow.frozen k
      have HQ : Hid (wr.rowIs (w.heap.size + 1 + 1) 3 n (upTo (nth S) k) ∧ Abx wr w.heap.size (.bool c) (.slice sa sz.length sc) (.slice da dz.length dc) ∧ Abx wr (w.heap.size + 1) (.bool false) (.slice none 0 0) (.slice none 0 0) ∧ Below w.heap.size w wr) := ⟨hrow, hA, hR, hB⟩
      clear hrow hA hR hB hcF
      go_wp2_with fail
      refine ⟨⟨k + 1, by omega, by go_num, upTo_set HQ.out.1 _ HV.out, HQ.out.2.1.ot (a := ⟨w.heap.size + 1 + 1, k, none⟩) (by show w.heap.size ≠ w.heap.size + 1 + 1; omega) _, HQ.out.2.2.1.ot (a := ⟨w.heap.size + 1 + 1, k, none⟩) (by show w.heap.size + 1 ≠ w.heap.size + 1 + 1; omega) _, HQ.out.2.2.2.setCell (p := ⟨w.heap.size + 1 + 1, k, none⟩) (by show w.heap.size ≤ w.heap.size + 1 + 1; omega) _⟩, by simp [intOf]; omega⟩
    · obtain rfl : k = n := by omega
      have HNS : Hid (NewInts (w.heap.size + 1 + 1) wr (some ⟨w.heap.size + 1 + 1, 0, none⟩) S) := upTo_new hrow (Nat.le_refl _) S HN.out.2 (fun j hj => rfl)
      obtain ⟨v, hv⟩ : ∃ v, v = wr := ⟨_, rfl⟩
      subst hv
      have HA : Hid (Abx v w.heap.size (.bool c) (.slice sa sz.length sc) (.slice da dz.length dc)) := hA
      have HR : Hid (Abx v (w.heap.size + 1) (.bool false) (.slice none 0 0) (.slice none 0 0)) := hR
      have HB : Hid (Below w.heap.size w v) := hB
      clear hrow hA hR hB hlt hk
      go_wp2_with fail
      by_cases he : errOf S = 0
      · have HE : Hid (errOf S = 0) := he
        have hpn := prod_nonneg (errOf_zero.1 he).2.1
        have hpm := (errOf_zero.1 he).2.2
        obtain ⟨N, hNe⟩ : ∃ N : Nat, (N : Int) = prod S := ⟨(prod S).toNat, by omega⟩
        have hN4 : N ≤ 4096 := by omega
        have HNe : Hid ((N : Int) = prod S) := hNe
        clear hpn hpm hNe he
        refine (count_l (some ⟨w.heap.size + 1 + 1, 0, none⟩) k S k HN.out.2 N (by omega) v HNS.out.ints HE.out HNe.out).mono ?_
        rintro e u ⟨rfl, hC⟩
        have HA2 : Hid (Abx u w.heap.size (.bool c) (.slice sa sz.length sc) (.slice da dz.length dc)) := HA.out.go hC
        have HR2 : Hid (Abx u (w.heap.size + 1) (.bool false) (.slice none 0 0) (.slice none 0 0)) := HR.out.go hC
        have HB2 : Hid (Below w.heap.size w u) := HB.out.trans (hC.mono HB.out.size)
        have HNS2 : Hid (NewInts (w.heap.size + 1 + 1) u (some ⟨w.heap.size + 1 + 1, 0, none⟩) S) := HNS.out.go hC
        clear hC HA HR HB HNS
        have HDl : Hid (D.length = N ∧ ∀ j, j < N → nth D j = gaC c sz dz (rwl rs) (cr S j)) := by
          refine ⟨?_, fun j hj => ?_⟩
          · rw [HD.out, gaD, TA_length, ← HS.out.1]; have := HNe.out; omega
          · rw [HD.out, gaD, TA_nth (by rw [← HS.out.1]; have := HNe.out; omega), HS.out.1]
        have hmk := run_make_row' (P := Try.prog) 23 3 (.int .i64 0) 8 Try.underlying23 Try.infoInt rfl .i64 .i64 N (by omega) (by omega)
        go_wp2_with fail
        clear hmk
        go_loopw [44] (fun i wr => ∃ j : Nat, j ≤ N ∧ i = .int .i64 j ∧ wr.rowIs u.heap.size 3 N (upTo (nth D) j) ∧ Below u.heap.size u wr) (fun i _ => N - (intOf i).toNat)
        case atStart =>
          exact ⟨0, Nat.zero_le _, rfl, (World.rowIs_made u (.int .i64 0) N 3).congr (fun j _ => by simp [upTo]), (Below.refl _ u).alloc (Nat.le_refl _) _⟩
        case round =>
          obtain ⟨j, hj, rfl, hrow, hBu⟩ := hrel
          have hA := HA2.out.go hBu
          have hB : Below w.heap.size w wr := HB2.out.trans (hBu.mono HB2.out.size)
          have e0 := hA.c0
          by_cases hlt : j < N
          · have c2 := hrow.cell hlt
            have f2 := hrow.frozen j
            have hzu : w.heap.size < u.heap.size := HA2.out.lt
            have HQ : Hid (wr.rowIs u.heap.size 3 N (upTo (nth D) j) ∧ Abx wr w.heap.size (.bool c) (.slice sa sz.length sc) (.slice da dz.length dc) ∧ Below u.heap.size u wr ∧ Below w.heap.size w wr) := ⟨hrow, hA, hBu, hB⟩
            clear hrow hA hBu hB
            go_wp2_with fail
            refine (fll_any c wr).mono ?_
            rintro e w2 ⟨rfl, rfl⟩
            obtain ⟨x, hx⟩ : ∃ x, x = w2.setCell ⟨u.heap.size, j, none⟩ (.int .i64 (fillE c)) := ⟨_, rfl⟩
            have HX : Hid (x.rowIs u.heap.size 3 N (upF (nth D) j (fillE c)) ∧ Abx x w.heap.size (.bool c) (.slice sa sz.length sc) (.slice da dz.length dc) ∧ Below u.heap.size u x ∧ Below w.heap.size w x) := by
              rw [hx]
              exact ⟨upF_first HQ.out.1 _, HQ.out.2.1.ot (a := ⟨u.heap.size, j, none⟩) (by show w.heap.size ≠ u.heap.size; omega) _, HQ.out.2.2.1.setCell (p := ⟨u.heap.size, j, none⟩) (Nat.le_refl _) _, HQ.out.2.2.2.setCell (p := ⟨u.heap.size, j, none⟩) (by show w.heap.size ≤ u.heap.size; omega) _⟩
            have e1 : (w2.setCell ⟨u.heap.size, j, none⟩ (.int .i64 (fillE c))).cell? ⟨w.heap.size, 1, none⟩ = some (.slice sa sz.length sc) := by rw [← hx]; exact HX.out.2.1.c1
            have HHX : Hid (x = w2.setCell ⟨u.heap.size, j, none⟩ (.int .i64 (fillE c))) := hx
            clear hx e0
            go_wp2_with fail
            rw [← HHX.out]
            obtain ⟨T, hT⟩ : ∃ T, T = gaT (rwl rs) (cr S j) := ⟨_, rfl⟩
            have HT : Hid (T = gaT (rwl rs) (cr (gaS (rwl rs)) j)) := by rw [← HS.out.1]; exact hT
            have HDj : Hid (nth D j = if insB sz T = true then cel sz dz T else fillE c) := by rw [hT]; exact HDl.out.2 j hlt
            have hjp : Hid ((j : Int) < prod (gaS (rwl rs))) := by rw [← HS.out.1]; have := HNe.out; show (j : Int) < prod S; omega
            have hxs : HX.out = HX.out := rfl
            clear hT e1 c2 f2 HHX HQ hxs
            by_cases hins : insB sz T = true
            · have hpb := place_bd hins
              have hpd := HF.out.2
              obtain ⟨m, hm⟩ : ∃ m : Nat, (m : Int) = place sz T := ⟨(place sz T).toNat, by omega⟩
              have hmd : m < dz.length := by omega
              have HV : Hid ((m : Int) = if insB sz T = true then place sz T else 0) := by rw [if_pos hins]; exact hm
              have HBo : Hid (true = insB sz T) := hins.symm
              have HDm : Hid (nth dz m = nth D j) := by show _ = _; rw [HDj.out, if_pos hins, cel, ← hm, Int.toNat_natCast]
              clear hpb hpd hm hins
              have h := src_any fa fc rs sa sc sz j HF.out.1 HL.out (by rw [← HS.out.1]; exact HE.out) hjp.out x ((HI.out.2.2.below HX.out.2.2.2).mono HX.out.2.2.2.size) ((HI.out.1.1.below HX.out.2.2.2).mono HX.out.2.2.2.size) T HT.out (m : Int) HV.out true HBo.out
              rw [← HN.out.1] at h
              refine h.mono ?_
              clear h
              rintro e w3 ⟨rfl, hBc⟩
              have hA3 := HX.out.2.1.go hBc
              have hrow3 : w3.rowIs u.heap.size 3 N (upF (nth D) j (fillE c)) := HX.out.1.of_block (hBc.block u.heap.size HX.out.1.lt)
              have hBu3 : Below u.heap.size u w3 := HX.out.2.2.1.trans (hBc.mono HX.out.2.2.1.size)
              have hB3 : Below w.heap.size w w3 := HX.out.2.2.2.trans (hBc.mono HX.out.2.2.2.size)
              obtain ⟨bd, od, rfl, hbd, hcD⟩ := (HI.out.2.1.1.below hB3).at hmd
              have cd := hcD m hmd
              have e2 := hA3.c2
              have c2 := hrow3.cell hlt
              have f2 := hrow3.frozen j
              have HQ : Hid (w3.rowIs u.heap.size 3 N (upF (nth D) j (fillE c)) ∧ Below u.heap.size u w3) := ⟨hrow3, hBu3⟩
              clear hA3 hrow3 hBu3 hB3 hcD hBc HX
              go_wp2_with fail
              refine ⟨⟨j + 1, by omega, by go_num, upF_done (upF_set HQ.out.1 _) HDm.out, HQ.out.2.setCell (p := ⟨u.heap.size, j, none⟩) (Nat.le_refl _) _⟩, by simp [intOf]; omega⟩
            · have HV : Hid ((0 : Int) = if insB sz T = true then place sz T else 0) := by rw [if_neg hins]; rfl
              have HBo : Hid (false = insB sz T) := by show _ = _; cases h : insB sz T; · rfl
                                                       · exact absurd h hins
              have HDm : Hid (fillE c = nth D j) := by show _ = _; rw [HDj.out, if_neg hins]
              clear hins
              have h := src_any fa fc rs sa sc sz j HF.out.1 HL.out (by rw [← HS.out.1]; exact HE.out) hjp.out x ((HI.out.2.2.below HX.out.2.2.2).mono HX.out.2.2.2.size) ((HI.out.1.1.below HX.out.2.2.2).mono HX.out.2.2.2.size) T HT.out 0 HV.out false HBo.out
              rw [← HN.out.1] at h
              refine h.mono ?_
              clear h
              rintro e w3 ⟨rfl, hBc⟩
              have HQ : Hid (w3.rowIs u.heap.size 3 N (upF (nth D) j (fillE c)) ∧ Below u.heap.size u w3) := ⟨HX.out.1.of_block (hBc.block u.heap.size HX.out.1.lt), HX.out.2.2.1.trans (hBc.mono HX.out.2.2.1.size)⟩
              clear hBc HX
              go_wp2_with fail
              refine ⟨⟨j + 1, by omega, by go_num, upF_done HQ.out.1 HDm.out, HQ.out.2⟩, by simp [intOf]; omega⟩
          · obtain rfl : j = N := by omega
            have HY : Hid (NewInts u.heap.size wr (some ⟨u.heap.size, 0, none⟩) D) := upTo_new hrow (Nat.le_refl _) D HDl.out.1 (fun j hj => rfl)
            have HR3 : Hid (Abx wr (w.heap.size + 1) (.bool false) (.slice none 0 0) (.slice none 0 0)) := HR2.out.go hBu
            have HX3 : Hid (NewInts (w.heap.size + 1 + 1) wr (some ⟨w.heap.size + 1 + 1, 0, none⟩) S) := HNS2.out.go hBu
            have HB3 : Hid (Below w.heap.size w wr) := hB
            have hzu : w.heap.size + 1 < u.heap.size := HR2.out.lt
            have r0 := HR3.out.c0
            have r1 := HR3.out.c1
            have r2 := HR3.out.c2
            have f0 := HR3.out.fr 0
            have f1 := HR3.out.fr 1
            have f2 := HR3.out.fr 2
            clear hrow hA hB hBu hlt hj
            go_wp2_with fail
            have F := HR3.out.set3 (.bool c) (.slice (some ⟨w.heap.size + 1 + 1, 0, none⟩) k k) (.slice (some ⟨u.heap.size, 0, none⟩) j j)
            have q0 := F.c0
            have q1 := F.c1
            have q2 := F.c2
            refine bodyPost_ret (v := .tuple #[.agg #[.bool c, .slice (some ⟨w.heap.size + 1 + 1, 0, none⟩) k k, .slice (some ⟨u.heap.size, 0, none⟩) j j], .nilIface]) (by simp [results, Try.results52, go_sem, q0, q1, q2]) rfl ?_
            have hX := (HX3.out.set3 (b := w.heap.size + 1) (by omega) (.bool c) (.slice (some ⟨w.heap.size + 1 + 1, 0, none⟩) k k) (.slice (some ⟨u.heap.size, 0, none⟩) j j)).low (lo' := w.heap.size) (by omega)
            have hY := (HY.out.set3 (b := w.heap.size + 1) (by omega) (.bool c) (.slice (some ⟨w.heap.size + 1 + 1, 0, none⟩) k k) (.slice (some ⟨u.heap.size, 0, none⟩) j j)).low (lo' := w.heap.size) (by omega)
            have hZ := bel_set3 HB3.out (b := w.heap.size + 1) (by omega) (.bool c) (.slice (some ⟨w.heap.size + 1 + 1, 0, none⟩) k k) (.slice (some ⟨u.heap.size, 0, none⟩) j j)
            have hUB := UB.mkok (c := c) (xc := k) (yc := j) HE.out ⟨hX, by rw [HN.out.2]; exact Nat.le_refl _⟩ ⟨hY, by rw [HDl.out.1]; exact Nat.le_refl _⟩ hZ
            rw [HN.out.2, HDl.out.1] at hUB
            exact hUB
      · have HE : Hid (errOf S ≠ 0) := he
        clear he
        refine (count_lno (some ⟨w.heap.size + 1 + 1, 0, none⟩) k S k HN.out.2 (by omega) v HNS.out.ints HE.out).mono ?_
        rintro e u ⟨rfl, hC⟩
        have HR2 : Hid (Abx u (w.heap.size + 1) (.bool false) (.slice none 0 0) (.slice none 0 0)) := HR.out.go hC
        have HB2 : Hid (Below w.heap.size w u) := HB.out.trans (hC.mono HB.out.size)
        clear hC HA HR HB HNS
        have r0 := HR2.out.c0
        have r1 := HR2.out.c1
        have r2 := HR2.out.c2
        have f0 := HR2.out.fr 0
        have f1 := HR2.out.fr 1
        have f2 := HR2.out.fr 2
        go_wp2_with fail
        have F := HR2.out.set3 (.bool false) (.slice none 0 0) (.slice none 0 0)
        have q0 := F.c0
        have q1 := F.c1
        have q2 := F.c2
        exact bodyPost_ret (v := .tuple #[.agg #[.bool false, .slice none 0 0, .slice none 0 0], .iface 60 (.int .i64 (errOf S))]) (by simp [results, Try.results52, go_sem, q0, q1, q2]) rfl (UB.mkno rfl HE.out (bel_set3 HB2.out (by omega) _ _ _))
end Go.Proofs.Ytnfdcdoelhanlaa
