/-
  Cuta Cutb Cut3, together.
-/
import Derived.Test.YteieliajdfbipabCutv
import Derived.Test.YteieliajdfbipabCutk
import Derived.Test.YteieliajdfbipabCycd
import Derived.Test.YteieliajdfbipabApps
import Derived.Deep.QuietTactic
import Derived.BigQuiet
import Derived.WalkSmall
/-! Cuta: What package cut gathers by lists of indices. -/
namespace Go.Proofs.Yteieliajdfbipab
open Go.RowKit
set_option linter.unusedVariables false

theorem UB.mkno {e : Int} {c : Bool} {S D : List Int} {w w' : World} {e' : Int} (h : e = e') (h0 : e' ≠ 0) (hB : Below w.heap.size w w') : UB e (onc e c) (onl e S) (onl e D) w (.returned (.tuple #[.agg #[.bool false, .slice none 0 0, .slice none 0 0], .iface 47 (.int .i64 e')])) w' := by
  subst h
  unfold UB
  rw [onc_no h0, onl_no h0, onl_no h0, errV_pos h0]
  exact ⟨none, 0, none, 0, rfl, ⟨.inl rfl, Nat.le_refl _⟩, ⟨.inl rfl, Nat.le_refl _⟩, hB⟩
theorem UB.mkok {e : Int} {c : Bool} {S D : List Int} {w w' : World} {xa : Option Addr} {xc : Nat} {ya : Option Addr} {yc : Nat} (h : e = 0) (hX : NewC w.heap.size w' xa S xc) (hY : NewC w.heap.size w' ya D yc) (hB : Below w.heap.size w w') :
    UB e (onc e c) (onl e S) (onl e D) w (.returned (.tuple #[.agg #[.bool c, .slice xa S.length xc, .slice ya D.length yc], .nilIface])) w' := by
  subst h
  exact ⟨xa, xc, ya, yc, rfl, hX, hY, hB⟩
theorem count_l (a : Option Addr) (cap : Nat) (zs : List Int) (l : Nat) (hl : zs.length = l) (N : Nat) (hreach : l ≤ 9223372036854775807) (w : World) (hI : IsInts w.heap.size w a zs) (he : errOf zs = 0) (hN : (N : Int) = prod zs) :
    Calls Try.prog 37 #[.slice a l cap] w fun e w' => e = .returned (.tuple #[.int .i64 (N : Int), .nilIface]) ∧ Below w.heap.size w w' := by
  subst hl
  rw [hN]
  exact count_ok a cap zs hreach w hI he
theorem count_lno (a : Option Addr) (cap : Nat) (zs : List Int) (l : Nat) (hl : zs.length = l) (hreach : l ≤ 9223372036854775807) (w : World) (hI : IsInts w.heap.size w a zs) (he : errOf zs ≠ 0) :
    Calls Try.prog 37 #[.slice a l cap] w fun e w' => e = .returned (.tuple #[.int .i64 0, .iface 47 (.int .i64 (errOf zs))]) ∧ Below w.heap.size w w' := by
  subst hl
  exact count_no a cap zs hreach w hI he
/-- A row, one cell of which was stored over. -/
def upF (f : Nat → Int) (k : Nat) (v : Int) (j : Nat) : Value := if j = k then .int .i64 v else upTo f k j
theorem upF_done {wr : World} {B : Nat} {t : TypeId} {n : Nat} {f : Nat → Int} {k : Nat} {v : Int} (h : wr.rowIs B t n (upF f k v)) (hv : v = f k) : wr.rowIs B t n (upTo f (k + 1)) := by
  refine h.congr fun j hj => ?_
  unfold upF upTo
  by_cases e : j = k
  · subst e; rw [if_pos rfl, if_pos (by omega), hv]
  · rw [if_neg e]
    by_cases e2 : j < k
    · rw [if_pos e2, if_pos (by omega)]
    · rw [if_neg e2, if_neg (by omega)]
theorem upF_set {wr : World} {B : Nat} {t : TypeId} {n : Nat} {f : Nat → Int} {k : Nat} {v : Int} (h : wr.rowIs B t n (upF f k v)) (u : Int) : (wr.setCell ⟨B, k, none⟩ (.int .i64 u)).rowIs B t n (upF f k u) := by
  refine (h.set k _).congr fun j hj => ?_
  unfold upF
  by_cases e : j = k
  · rw [if_pos e, if_pos e]
  · rw [if_neg e, if_neg e, if_neg e]
theorem upF_first {wr : World} {B : Nat} {t : TypeId} {n : Nat} {f : Nat → Int} {k : Nat} (h : wr.rowIs B t n (upTo f k)) (u : Int) : (wr.setCell ⟨B, k, none⟩ (.int .i64 u)).rowIs B t n (upF f k u) := by
  refine (h.set k _).congr fun j hj => ?_
  unfold upF
  rfl
set_option maxRecDepth 100000 in
set_option maxHeartbeats 4000000 in
theorem gather_any (fa : Option Addr) (fc : Nat) (rs : List Rw) (c : Bool) (sa : Option Addr) (sc : Nat) (sz : List Int) (da : Option Addr) (dc : Nat) (dz : List Int) (hf : flawE c sz dz = 0) (hl : rs.length = sz.length) (w : World) (hR : IsR w.heap.size w fa rs) (hs : IsC w.heap.size w sa sz sc) (hd : IsC w.heap.size w da dz dc) :
    Calls Try.prog 34 #[.slice fa rs.length fc, .agg #[.bool c, .slice sa sz.length sc, .slice da dz.length dc]] w (UB (errOf (gaS (rwl rs))) (onc (errOf (gaS (rwl rs))) c) (onl (errOf (gaS (rwl rs))) (gaS (rwl rs))) (onl (errOf (gaS (rwl rs))) (gaD c sz dz (rwl rs))) w) := by
  have HI : Hid (IsC w.heap.size w sa sz sc ∧ IsC w.heap.size w da dz dc ∧ IsR w.heap.size w fa rs) := ⟨hs, hd, hR⟩
  have HF : Hid (errOf sz = 0 ∧ (dz.length : Int) = prod sz) := ⟨(flawE_zero hf).1, (flawE_zero hf).2.1⟩
  have HL : Hid (rs.length = sz.length) := hl
  have hn6 : rs.length ≤ 6 := by have := (flawE_short hf).1; omega
  have hd4 : dz.length ≤ 4096 := (flawE_short hf).2
  clear hs hd hR hf hl
  have HB0 : Hid (Below w.heap.size w ((w.alloc (.cells #[.bool c, .slice sa sz.length sc, .slice da dz.length dc] 24)).alloc (.cells #[.bool false, .slice none 0 0, .slice none 0 0] 24))) := ((Below.refl _ w).alloc (Nat.le_refl _) _).alloc (by simp) _
  have pa := (Abx.new w (.bool c) (.slice sa sz.length sc) (.slice da dz.length dc)).al (.cells #[.bool false, .slice none 0 0, .slice none 0 0] 24)
  have pr := Abx.new1 w (.cells #[.bool c, .slice sa sz.length sc, .slice da dz.length dc] 24) (.bool false) (.slice none 0 0) (.slice none 0 0)
  obtain ⟨S, hS⟩ : ∃ S, S = gaS (rwl rs) := ⟨_, rfl⟩
  obtain ⟨D, hD⟩ : ∃ D, D = gaD c sz dz (rwl rs) := ⟨_, rfl⟩
  rw [← hS, ← hD]
  have HS : Hid (S = gaS (rwl rs) ∧ S.length = rs.length ∧ ∀ k, k < rs.length → nth S k = (rwa rs k).2.length) := ⟨hS, by rw [hS, gaS_length, rwl_length], fun k hk => by rw [hS, gaS_nth (by rw [rwl_length]; exact hk), rwl_at]⟩
  have HD : Hid (D = gaD c sz dz (rwl rs)) := hD
  clear hS hD
  obtain ⟨n, hn⟩ : ∃ n, n = rs.length := ⟨_, rfl⟩
  have HN : Hid (n = rs.length ∧ S.length = n) := ⟨hn, by rw [hn]; exact HS.out.2.1⟩
  rw [← hn]
  rw [← hn] at hn6
  clear hn
  have r0 := World.rowIs_made ((w.alloc (.cells #[.bool c, .slice sa sz.length sc, .slice da dz.length dc] 24)).alloc (.cells #[.bool false, .slice none 0 0, .slice none 0 0] 24)) (.int .i64 0) n 3
  simp only [World.size_alloc] at r0
  have HR0 : Hid (((((w.alloc (.cells #[.bool c, .slice sa sz.length sc, .slice da dz.length dc] 24)).alloc (.cells #[.bool false, .slice none 0 0, .slice none 0 0] 24)).alloc (.cells (madeCells #[.int .i64 0] n) 3)).rowIs (w.heap.size + 1 + 1) 3 n (upTo (nth S) 0)) ∧ Abx (((w.alloc (.cells #[.bool c, .slice sa sz.length sc, .slice da dz.length dc] 24)).alloc (.cells #[.bool false, .slice none 0 0, .slice none 0 0] 24)).alloc (.cells (madeCells #[.int .i64 0] n) 3)) w.heap.size (.bool c) (.slice sa sz.length sc) (.slice da dz.length dc) ∧ Abx (((w.alloc (.cells #[.bool c, .slice sa sz.length sc, .slice da dz.length dc] 24)).alloc (.cells #[.bool false, .slice none 0 0, .slice none 0 0] 24)).alloc (.cells (madeCells #[.int .i64 0] n) 3)) (w.heap.size + 1) (.bool false) (.slice none 0 0) (.slice none 0 0) ∧ Below w.heap.size w (((w.alloc (.cells #[.bool c, .slice sa sz.length sc, .slice da dz.length dc] 24)).alloc (.cells #[.bool false, .slice none 0 0, .slice none 0 0] 24)).alloc (.cells (madeCells #[.int .i64 0] n) 3))) :=
    ⟨r0.congr (fun j _ => by simp [upTo]), pa.al _, pr.al _, HB0.out.alloc HB0.out.size _⟩
  have hmk := run_make_row' (P := Try.prog) 22 3 (.int .i64 0) 8 Try.underlying22 Try.infoInt rfl .i64 .i64 n (by omega) (by omega)
  clear r0 pa pr HB0
  go_enter Try.func34, Try.ntmps34
  go_wp2_with fail
  clear hmk
  go_loopw [20] (fun i wr => ∃ k : Nat, k ≤ n ∧ i = .int .i64 k ∧ wr.rowIs (w.heap.size + 1 + 1) 3 n (upTo (nth S) k) ∧ Abx wr w.heap.size (.bool c) (.slice sa sz.length sc) (.slice da dz.length dc) ∧ Abx wr (w.heap.size + 1) (.bool false) (.slice none 0 0) (.slice none 0 0) ∧ Below w.heap.size w wr) (fun i _ => n - (intOf i).toNat)
  case atStart => exact ⟨0, Nat.zero_le _, rfl, HR0.out⟩
  case round =>
    obtain ⟨k, hk, rfl, hrow, hA, hR, hB⟩ := hrel
    clear HR0
    by_cases hlt : k < n
    · have hkr : k < rs.length := by rw [← HN.out.1]; exact hlt
      obtain ⟨bf, of, rfl, hbf, hcF⟩ := (HI.out.2.2.below hB).at hkr
      have cf := hcF k hkr
      unfold rv at cf
      have HV : Hid (((rwa rs k).2.length : Int) = nth S k) := (HS.out.2.2 k hkr).symm
      have c2 := hrow.cell hlt
      have f2 := hrow.frozen k
      have HQ : Hid (wr.rowIs (w.heap.size + 1 + 1) 3 n (upTo (nth S) k) ∧ Abx wr w.heap.size (.bool c) (.slice sa sz.length sc) (.slice da dz.length dc) ∧ Abx wr (w.heap.size + 1) (.bool false) (.slice none 0 0) (.slice none 0 0) ∧ Below w.heap.size w wr) := ⟨hrow, hA, hR, hB⟩
      clear hrow hA hR hB hcF
      go_wp2_with fail
      refine ⟨⟨k + 1, by omega, by go_num, upTo_set HQ.out.1 _ HV.out, HQ.out.2.1.ot (a := ⟨w.heap.size + 1 + 1, k, none⟩) (by show w.heap.size ≠ w.heap.size + 1 + 1; omega) _, HQ.out.2.2.1.ot (a := ⟨w.heap.size + 1 + 1, k, none⟩) (by show w.heap.size + 1 ≠ w.heap.size + 1 + 1; omega) _, HQ.out.2.2.2.setCell (p := ⟨w.heap.size + 1 + 1, k, none⟩) (by show w.heap.size ≤ w.heap.size + 1 + 1; omega) _⟩, by simp [intOf]; omega⟩
    · obtain rfl : k = n := by omega
      have HNS : Hid (NewInts (w.heap.size + 1 + 1) wr (some ⟨w.heap.size + 1 + 1, 0, none⟩) S) := upTo_new hrow (Nat.le_refl _) S HN.out.2 (fun j hj => rfl)
      obtain ⟨v, hv⟩ : ∃ v, v = wr := ⟨_, rfl⟩
      subst hv
      have HA : Hid (Abx v w.heap.size (.bool c) (.slice sa sz.length sc) (.slice da dz.length dc)) := hA
      have HR : Hid (Abx v (w.heap.size + 1) (.bool false) (.slice none 0 0) (.slice none 0 0)) := hR
      have HB : Hid (Below w.heap.size w v) := hB
      clear hrow hA hR hB hlt hk
      go_wp2_with fail
      by_cases he : errOf S = 0
      · have HE : Hid (errOf S = 0) := he
        have hpn := prod_nonneg (errOf_zero.1 he).2.1
        have hpm := (errOf_zero.1 he).2.2
        obtain ⟨N, hNe⟩ : ∃ N : Nat, (N : Int) = prod S := ⟨(prod S).toNat, by omega⟩
        have hN4 : N ≤ 4096 := by omega
        have HNe : Hid ((N : Int) = prod S) := hNe
        clear hpn hpm hNe he
        refine (count_l (some ⟨w.heap.size + 1 + 1, 0, none⟩) k S k HN.out.2 N (by omega) v HNS.out.ints HE.out HNe.out).mono ?_
        rintro e u ⟨rfl, hC⟩
        have HA2 : Hid (Abx u w.heap.size (.bool c) (.slice sa sz.length sc) (.slice da dz.length dc)) := HA.out.go hC
        have HR2 : Hid (Abx u (w.heap.size + 1) (.bool false) (.slice none 0 0) (.slice none 0 0)) := HR.out.go hC
        have HB2 : Hid (Below w.heap.size w u) := HB.out.trans (hC.mono HB.out.size)
        have HNS2 : Hid (NewInts (w.heap.size + 1 + 1) u (some ⟨w.heap.size + 1 + 1, 0, none⟩) S) := HNS.out.go hC
        clear hC HA HR HB HNS
        have HDl : Hid (D.length = N ∧ ∀ j, j < N → nth D j = gaC c sz dz (rwl rs) (cr S j)) := by
          refine ⟨?_, fun j hj => ?_⟩
          · rw [HD.out, gaD, TA_length, ← HS.out.1]; have := HNe.out; omega
          · rw [HD.out, gaD, TA_nth (by rw [← HS.out.1]; have := HNe.out; omega), HS.out.1]
        have hmk := run_make_row' (P := Try.prog) 22 3 (.int .i64 0) 8 Try.underlying22 Try.infoInt rfl .i64 .i64 N (by omega) (by omega)
        go_wp2_with fail
        clear hmk
        go_loopw [44] (fun i wr => ∃ j : Nat, j ≤ N ∧ i = .int .i64 j ∧ wr.rowIs u.heap.size 3 N (upTo (nth D) j) ∧ Below u.heap.size u wr) (fun i _ => N - (intOf i).toNat)
        case atStart =>
          exact ⟨0, Nat.zero_le _, rfl, (World.rowIs_made u (.int .i64 0) N 3).congr (fun j _ => by simp [upTo]), (Below.refl _ u).alloc (Nat.le_refl _) _⟩
        case round =>
          obtain ⟨j, hj, rfl, hrow, hBu⟩ := hrel
          have hA := HA2.out.go hBu
          have hB : Below w.heap.size w wr := HB2.out.trans (hBu.mono HB2.out.size)
          have e0 := hA.c0
          by_cases hlt : j < N
          · have c2 := hrow.cell hlt
            have f2 := hrow.frozen j
            have hzu : w.heap.size < u.heap.size := HA2.out.lt
            have HQ : Hid (wr.rowIs u.heap.size 3 N (upTo (nth D) j) ∧ Abx wr w.heap.size (.bool c) (.slice sa sz.length sc) (.slice da dz.length dc) ∧ Below u.heap.size u wr ∧ Below w.heap.size w wr) := ⟨hrow, hA, hBu, hB⟩
            clear hrow hA hBu hB
            go_wp2_with fail
            refine (fll_any c wr).mono ?_
            rintro e w2 ⟨rfl, rfl⟩
            obtain ⟨x, hx⟩ : ∃ x, x = w2.setCell ⟨u.heap.size, j, none⟩ (.int .i64 (fillE c)) := ⟨_, rfl⟩
            have HX : Hid (x.rowIs u.heap.size 3 N (upF (nth D) j (fillE c)) ∧ Abx x w.heap.size (.bool c) (.slice sa sz.length sc) (.slice da dz.length dc) ∧ Below u.heap.size u x ∧ Below w.heap.size w x) := by
              rw [hx]
              exact ⟨upF_first HQ.out.1 _, HQ.out.2.1.ot (a := ⟨u.heap.size, j, none⟩) (by show w.heap.size ≠ u.heap.size; omega) _, HQ.out.2.2.1.setCell (p := ⟨u.heap.size, j, none⟩) (Nat.le_refl _) _, HQ.out.2.2.2.setCell (p := ⟨u.heap.size, j, none⟩) (by show w.heap.size ≤ u.heap.size; omega) _⟩
            have e1 : (w2.setCell ⟨u.heap.size, j, none⟩ (.int .i64 (fillE c))).cell? ⟨w.heap.size, 1, none⟩ = some (.slice sa sz.length sc) := by rw [← hx]; exact HX.out.2.1.c1
            have HHX : Hid (x = w2.setCell ⟨u.heap.size, j, none⟩ (.int .i64 (fillE c))) := hx
            clear hx e0
            go_wp2_with fail
            rw [← HHX.out]
            obtain ⟨T, hT⟩ : ∃ T, T = gaT (rwl rs) (cr S j) := ⟨_, rfl⟩
            have HT : Hid (T = gaT (rwl rs) (cr (gaS (rwl rs)) j)) := by rw [← HS.out.1]; exact hT
            have HDj : Hid (nth D j = if insB sz T = true then cel sz dz T else fillE c) := by rw [hT]; exact HDl.out.2 j hlt
            have hjp : Hid ((j : Int) < prod (gaS (rwl rs))) := by rw [← HS.out.1]; have := HNe.out; show (j : Int) < prod S; omega
            have hxs : HX.out = HX.out := rfl
            clear hT e1 c2 f2 HHX HQ hxs
            by_cases hins : insB sz T = true
            · have hpb := place_bd hins
              have hpd := HF.out.2
              obtain ⟨m, hm⟩ : ∃ m : Nat, (m : Int) = place sz T := ⟨(place sz T).toNat, by omega⟩
              have hmd : m < dz.length := by omega
              have HV : Hid ((m : Int) = if insB sz T = true then place sz T else 0) := by rw [if_pos hins]; exact hm
              have HBo : Hid (true = insB sz T) := hins.symm
              have HDm : Hid (nth dz m = nth D j) := by show _ = _; rw [HDj.out, if_pos hins, cel, ← hm, Int.toNat_natCast]
              clear hpb hpd hm hins
              have h := src_any fa fc rs sa sc sz j HF.out.1 HL.out (by rw [← HS.out.1]; exact HE.out) hjp.out x ((HI.out.2.2.below HX.out.2.2.2).mono HX.out.2.2.2.size) ((HI.out.1.1.below HX.out.2.2.2).mono HX.out.2.2.2.size) T HT.out (m : Int) HV.out true HBo.out
              rw [← HN.out.1] at h
              refine h.mono ?_
              clear h
              rintro e w3 ⟨rfl, hBc⟩
              have hA3 := HX.out.2.1.go hBc
              have hrow3 : w3.rowIs u.heap.size 3 N (upF (nth D) j (fillE c)) := HX.out.1.of_block (hBc.block u.heap.size HX.out.1.lt)
              have hBu3 : Below u.heap.size u w3 := HX.out.2.2.1.trans (hBc.mono HX.out.2.2.1.size)
              have hB3 : Below w.heap.size w w3 := HX.out.2.2.2.trans (hBc.mono HX.out.2.2.2.size)
              obtain ⟨bd, od, rfl, hbd, hcD⟩ := (HI.out.2.1.1.below hB3).at hmd
              have cd := hcD m hmd
              have e2 := hA3.c2
              have c2 := hrow3.cell hlt
              have f2 := hrow3.frozen j
              have HQ : Hid (w3.rowIs u.heap.size 3 N (upF (nth D) j (fillE c)) ∧ Below u.heap.size u w3) := ⟨hrow3, hBu3⟩
              clear hA3 hrow3 hBu3 hB3 hcD hBc HX
              go_wp2_with fail
              refine ⟨⟨j + 1, by omega, by go_num, upF_done (upF_set HQ.out.1 _) HDm.out, HQ.out.2.setCell (p := ⟨u.heap.size, j, none⟩) (Nat.le_refl _) _⟩, by simp [intOf]; omega⟩
            · have HV : Hid ((0 : Int) = if insB sz T = true then place sz T else 0) := by rw [if_neg hins]; rfl
              have HBo : Hid (false = insB sz T) := by show _ = _; cases h : insB sz T; · rfl
                                                       · exact absurd h hins
              have HDm : Hid (fillE c = nth D j) := by show _ = _; rw [HDj.out, if_neg hins]
              clear hins
              have h := src_any fa fc rs sa sc sz j HF.out.1 HL.out (by rw [← HS.out.1]; exact HE.out) hjp.out x ((HI.out.2.2.below HX.out.2.2.2).mono HX.out.2.2.2.size) ((HI.out.1.1.below HX.out.2.2.2).mono HX.out.2.2.2.size) T HT.out 0 HV.out false HBo.out
              rw [← HN.out.1] at h
              refine h.mono ?_
              clear h
              rintro e w3 ⟨rfl, hBc⟩
              have HQ : Hid (w3.rowIs u.heap.size 3 N (upF (nth D) j (fillE c)) ∧ Below u.heap.size u w3) := ⟨HX.out.1.of_block (hBc.block u.heap.size HX.out.1.lt), HX.out.2.2.1.trans (hBc.mono HX.out.2.2.1.size)⟩
              clear hBc HX
              go_wp2_with fail
              refine ⟨⟨j + 1, by omega, by go_num, upF_done HQ.out.1 HDm.out, HQ.out.2⟩, by simp [intOf]; omega⟩
          · obtain rfl : j = N := by omega
            have HY : Hid (NewInts u.heap.size wr (some ⟨u.heap.size, 0, none⟩) D) := upTo_new hrow (Nat.le_refl _) D HDl.out.1 (fun j hj => rfl)
            have HR3 : Hid (Abx wr (w.heap.size + 1) (.bool false) (.slice none 0 0) (.slice none 0 0)) := HR2.out.go hBu
            have HX3 : Hid (NewInts (w.heap.size + 1 + 1) wr (some ⟨w.heap.size + 1 + 1, 0, none⟩) S) := HNS2.out.go hBu
            have HB3 : Hid (Below w.heap.size w wr) := hB
            have hzu : w.heap.size + 1 < u.heap.size := HR2.out.lt
            have r0 := HR3.out.c0
            have r1 := HR3.out.c1
            have r2 := HR3.out.c2
            have f0 := HR3.out.fr 0
            have f1 := HR3.out.fr 1
            have f2 := HR3.out.fr 2
            clear hrow hA hB hBu hlt hj
            go_wp2_with fail
            have F := HR3.out.set3 (.bool c) (.slice (some ⟨w.heap.size + 1 + 1, 0, none⟩) k k) (.slice (some ⟨u.heap.size, 0, none⟩) j j)
            have q0 := F.c0
            have q1 := F.c1
            have q2 := F.c2
            refine bodyPost_ret (v := .tuple #[.agg #[.bool c, .slice (some ⟨w.heap.size + 1 + 1, 0, none⟩) k k, .slice (some ⟨u.heap.size, 0, none⟩) j j], .nilIface]) (by simp [results, Try.results34, go_sem, q0, q1, q2]) rfl ?_
            have hX := (HX3.out.set3 (b := w.heap.size + 1) (by omega) (.bool c) (.slice (some ⟨w.heap.size + 1 + 1, 0, none⟩) k k) (.slice (some ⟨u.heap.size, 0, none⟩) j j)).low (lo' := w.heap.size) (by omega)
            have hY := (HY.out.set3 (b := w.heap.size + 1) (by omega) (.bool c) (.slice (some ⟨w.heap.size + 1 + 1, 0, none⟩) k k) (.slice (some ⟨u.heap.size, 0, none⟩) j j)).low (lo' := w.heap.size) (by omega)
            have hZ := bel_set3 HB3.out (b := w.heap.size + 1) (by omega) (.bool c) (.slice (some ⟨w.heap.size + 1 + 1, 0, none⟩) k k) (.slice (some ⟨u.heap.size, 0, none⟩) j j)
            have hUB := UB.mkok (c := c) (xc := k) (yc := j) HE.out ⟨hX, by rw [HN.out.2]; exact Nat.le_refl _⟩ ⟨hY, by rw [HDl.out.1]; exact Nat.le_refl _⟩ hZ
            rw [HN.out.2, HDl.out.1] at hUB
            exact hUB
      · have HE : Hid (errOf S ≠ 0) := he
        clear he
        refine (count_lno (some ⟨w.heap.size + 1 + 1, 0, none⟩) k S k HN.out.2 (by omega) v HNS.out.ints HE.out).mono ?_
        rintro e u ⟨rfl, hC⟩
        have HR2 : Hid (Abx u (w.heap.size + 1) (.bool false) (.slice none 0 0) (.slice none 0 0)) := HR.out.go hC
        have HB2 : Hid (Below w.heap.size w u) := HB.out.trans (hC.mono HB.out.size)
        clear hC HA HR HB HNS
        have r0 := HR2.out.c0
        have r1 := HR2.out.c1
        have r2 := HR2.out.c2
        have f0 := HR2.out.fr 0
        have f1 := HR2.out.fr 1
        have f2 := HR2.out.fr 2
        go_wp2_with fail
        have F := HR2.out.set3 (.bool false) (.slice none 0 0) (.slice none 0 0)
        have q0 := F.c0
        have q1 := F.c1
        have q2 := F.c2
        exact bodyPost_ret (v := .tuple #[.agg #[.bool false, .slice none 0 0, .slice none 0 0], .iface 47 (.int .i64 (errOf S))]) (by simp [results, Try.results34, go_sem, q0, q1, q2]) rfl (UB.mkno rfl HE.out (bel_set3 HB2.out (by omega) _ _ _))
end Go.Proofs.Yteieliajdfbipab
/-! Cutb: The ends of all axes, and one axis by a list of indices, as package cut gathers them. -/
namespace Go.Proofs.Yteieliajdfbipab
open Go.RowKit
set_option linter.unusedVariables false

theorem Try.infoSl : (Try.prog.info? 22).map (fun i => (i.zero, i.size, i.bytes)) = some (some (.slice none 0 0), 1, 24) := by kernel_rfl
theorem onl_congr {e : Int} {D D' : List Int} (h : e = 0 → D = D') : onl e D = onl e D' := by
  unfold onl
  split
  · rename_i q; exact h q
  · rfl
theorem take_rl {L : List (List Int)} {k : Nat} (h : k < L.length) : L.take (k + 1) = L.take k ++ [rl L k] := by
  rw [List.take_succ_eq_append_getElem h]
  simp [rl, h]
theorem gather_n (fa : Option Addr) (fc : Nat) (rs : List Rw) (l : Nat) (c : Bool) (sa : Option Addr) (sc : Nat) (sz : List Int) (da : Option Addr) (dc : Nat) (dz : List Int) (S D : List Int) (hrl : rs.length = l) (hS : gaS (rwl rs) = S) (hD : errOf S = 0 → gaD c sz dz (rwl rs) = D) (hf : flawE c sz dz = 0) (hl : l = sz.length) (w : World) (hR : IsR w.heap.size w fa rs) (hs : IsC w.heap.size w sa sz sc) (hd : IsC w.heap.size w da dz dc) :
    Calls Try.prog 34 #[.slice fa l fc, .agg #[.bool c, .slice sa sz.length sc, .slice da dz.length dc]] w (UB (errOf S) (onc (errOf S) c) (onl (errOf S) S) (onl (errOf S) D) w) := by
  subst hrl hS
  rw [← onl_congr hD]
  exact gather_any fa fc rs c sa sc sz da dc dz hf hl w hR hs hd
/-- A list that grows by one list: the row that holds it, and what was there. -/
structure Grow (L : List (List Int)) (B n : Nat) (c : Bool) (sa : Option Addr) (sc : Nat) (sz : List Int) (da : Option Addr) (dc : Nat) (dz : List Int) (w wr : World) (k : Nat) (rs : List Rw) : Prop where
  len : rs.length = k
  rows : rwl rs = L.take k
  row : wr.rowIs B 22 n (fun j => rv (rwa rs j))
  new : NewR (B + 1) wr rs
  arr : Abx wr w.heap.size (.bool c) (.slice sa sz.length sc) (.slice da dz.length dc)
  res : Abx wr (w.heap.size + 1) (.bool false) (.slice none 0 0) (.slice none 0 0)
  bel : Below w.heap.size w wr
theorem Grow.next {L : List (List Int)} {B n : Nat} {c : Bool} {sa : Option Addr} {sc : Nat} {sz : List Int} {da : Option Addr} {dc : Nat} {dz : List Int} {w wr : World} {k : Nat} {rs : List Rw} (h : Grow L B n c sa sc sz da dc dz w wr k rs) (hB : B = w.heap.size + 1 + 1) (hk : k < L.length) {w2 : World} {g : Option Addr} {gc : Nat} {z : List Int} (hz : rl L k = z) (hN : NewC wr.heap.size w2 g z gc) (hb : Below wr.heap.size wr w2) :
    Grow L B n c sa sc sz da dc dz w (w2.setCell ⟨B, k, none⟩ (.slice g z.length gc)) (k + 1) (rs ++ [((g, gc), z)]) := by
  have hlt : B < wr.heap.size := h.row.lt
  have hrow2 : w2.rowIs B 22 n (fun j => rv (rwa rs j)) := h.row.of_block (hb.block B hlt)
  refine ⟨by simp [h.len], by rw [rwl_snoc, h.rows, take_rl hk, hz], ?_, ?_, ?_, ?_, ?_⟩
  · have := row_snoc g gc z hrow2
    rw [h.len] at this
    exact this
  · exact ((h.new.go hb).snoc (hN.low (by omega))).set (p := ⟨B, k, none⟩) (by show B < B + 1; omega) _
  · exact (h.arr.go hb).ot (a := ⟨B, k, none⟩) (by show w.heap.size ≠ B; omega) _
  · exact (h.res.go hb).ot (a := ⟨B, k, none⟩) (by show w.heap.size + 1 ≠ B; omega) _
  · exact (h.bel.trans (hb.mono h.bel.size)).setCell (p := ⟨B, k, none⟩) (by show w.heap.size ≤ B; omega) _
theorem Grow.start (L : List (List Int)) (n : Nat) (c : Bool) (sa : Option Addr) (sc : Nat) (sz : List Int) (da : Option Addr) (dc : Nat) (dz : List Int) (w : World) :
    Grow L (w.heap.size + 1 + 1) n c sa sc sz da dc dz w (((w.alloc (.cells #[.bool c, .slice sa sz.length sc, .slice da dz.length dc] 24)).alloc (.cells #[.bool false, .slice none 0 0, .slice none 0 0] 24)).alloc (.cells (madeCells #[.slice none 0 0] n) 22)) 0 [] := by
  have HB0 : Below w.heap.size w ((w.alloc (.cells #[.bool c, .slice sa sz.length sc, .slice da dz.length dc] 24)).alloc (.cells #[.bool false, .slice none 0 0, .slice none 0 0] 24)) := ((Below.refl _ w).alloc (Nat.le_refl _) _).alloc (by simp) _
  have pa := (Abx.new w (.bool c) (.slice sa sz.length sc) (.slice da dz.length dc)).al (.cells #[.bool false, .slice none 0 0, .slice none 0 0] 24)
  have pr := Abx.new1 w (.cells #[.bool c, .slice sa sz.length sc, .slice da dz.length dc] 24) (.bool false) (.slice none 0 0) (.slice none 0 0)
  have r0 := World.rowIs_made ((w.alloc (.cells #[.bool c, .slice sa sz.length sc, .slice da dz.length dc] 24)).alloc (.cells #[.bool false, .slice none 0 0, .slice none 0 0] 24)) (.slice none 0 0) n 22
  simp only [World.size_alloc] at r0
  exact ⟨rfl, rfl, r0.congr (fun j _ => rfl), NewR.nil _ _, pa.al _, pr.al _, HB0.alloc HB0.size _⟩
set_option maxRecDepth 100000 in
set_option maxHeartbeats 4000000 in
theorem alongc_any (x : Nat) (ia : Option Addr) (ic : Nat) (L : List Int) (l : Nat) (hLl : L.length = l) (c : Bool) (sa : Option Addr) (sc : Nat) (sz : List Int) (da : Option Addr) (dc : Nat) (dz : List Int) (S D : List Int) (hf : flawE c sz dz = 0) (hx : x < sz.length) (hS : gaS (alR sz x L) = S) (hD : errOf S = 0 → gaD c sz dz (alR sz x L) = D) (w : World) (hI : IsC w.heap.size w ia L ic) (hs : IsC w.heap.size w sa sz sc) (hd : IsC w.heap.size w da dz dc) :
    Calls Try.prog 24 #[.int .i64 (x : Nat), .slice ia l ic, .agg #[.bool c, .slice sa sz.length sc, .slice da dz.length dc]] w (UB (errOf S) (onc (errOf S) c) (onl (errOf S) S) (onl (errOf S) D) w) := by
  subst hLl
  have HI : Hid (IsC w.heap.size w sa sz sc ∧ IsC w.heap.size w da dz dc ∧ IsC w.heap.size w ia L ic) := ⟨hs, hd, hI⟩
  have HF : Hid (flawE c sz dz = 0 ∧ gaS (alR sz x L) = S ∧ (errOf S = 0 → gaD c sz dz (alR sz x L) = D)) := ⟨hf, hS, hD⟩
  have HA : Hid (AllIn sz) := (errOf_zero.1 (flawE_zero hf).1).2.1
  have hl6 : sz.length ≤ 6 := (flawE_short hf).1
  clear hs hd hI hf hS hD
  have HG : Hid (Grow (idR sz) (w.heap.size + 1 + 1) sz.length c sa sc sz da dc dz w (((w.alloc (.cells #[.bool c, .slice sa sz.length sc, .slice da dz.length dc] 24)).alloc (.cells #[.bool false, .slice none 0 0, .slice none 0 0] 24)).alloc (.cells (madeCells #[.slice none 0 0] sz.length) 22)) 0 []) := Grow.start _ _ _ _ _ _ _ _ _ _
  have e1 := HG.out.arr.c1
  have e1' := ((Abx.new w (.bool c) (.slice sa sz.length sc) (.slice da dz.length dc)).al (.cells #[.bool false, .slice none 0 0, .slice none 0 0] 24)).c1
  have hmk := run_make_row' (P := Try.prog) 58 22 (.slice none 0 0) 24 Try.underlying58 Try.infoSl rfl .i64 .i64 sz.length (by omega) (by omega)
  go_enter Try.func24, Try.ntmps24
  go_wp2_with fail
  clear hmk e1 e1'
  go_loopw [18] (fun i wr => ∃ (k : Nat) (rs : List Rw), k ≤ sz.length ∧ i = .int .i64 k ∧ Grow (idR sz) (w.heap.size + 1 + 1) sz.length c sa sc sz da dc dz w wr k rs) (fun i _ => sz.length - (intOf i).toNat)
  case atStart => exact ⟨0, [], Nat.zero_le _, rfl, HG.out⟩
  case round =>
    obtain ⟨k, rs, hk, rfl, hG⟩ := hrel
    clear HG
    have HG : Hid (Grow (idR sz) (w.heap.size + 1 + 1) sz.length c sa sc sz da dc dz w wr k rs) := hG
    clear hG
    by_cases hlt : k < sz.length
    · obtain ⟨bs, os, rfl, hbs, hcS⟩ := (HI.out.1.1.below HG.out.bel).at hlt
      have cs := hcS k hlt
      have hz := HA.out.nth k
      have HZ : Hid (rl (idR sz) k = runL 0 (nth sz k).toNat) := idR_at sz hlt
      clear hcS
      generalize nth sz k = Z0 at *
      go_wp2_with fail
      refine (run_n 0 Z0 Z0.toNat (by omega) (by omega) (by omega) (by omega) wr).mono ?_
      rintro e w2 ⟨g, gc, rfl, hE, hB⟩
      have HE : Hid (NewC wr.heap.size w2 g (runL 0 Z0.toNat) gc ∧ Below wr.heap.size wr w2) := ⟨hE, hB⟩
      have hrow2 : w2.rowIs (w.heap.size + 1 + 1) 22 sz.length (fun j => rv (rwa rs j)) := HG.out.row.of_block (hB.block (w.heap.size + 1 + 1) HG.out.row.lt)
      have c2 := hrow2.cell hlt
      have f2 := hrow2.frozen k
      clear hE hB hrow2
      go_wp2_with fail
      have hG := HG.out.next rfl (by rw [idR_length]; exact hlt) HZ.out HE.out.1 HE.out.2
      rw [runL_length] at hG
      exact ⟨⟨k + 1, _, by omega, by go_num, hG⟩, by simp [intOf]; omega⟩
    · obtain rfl : k = sz.length := by omega
      obtain ⟨y, hy⟩ : ∃ y, y = wr.setCell ⟨w.heap.size + 1 + 1, x, none⟩ (.slice ia L.length ic) := ⟨_, rfl⟩
      have hxr : x < rs.length := by rw [HG.out.len]; exact hx
      have hBy : Below w.heap.size w y := by rw [hy]; exact HG.out.bel.setCell (p := ⟨w.heap.size + 1 + 1, x, none⟩) (by show w.heap.size ≤ w.heap.size + 1 + 1; omega) _
      have hAy : Abx y w.heap.size (.bool c) (.slice sa sz.length sc) (.slice da dz.length dc) := by rw [hy]; exact HG.out.arr.ot (a := ⟨w.heap.size + 1 + 1, x, none⟩) (by show w.heap.size ≠ w.heap.size + 1 + 1; omega) _
      have hRy : Abx y (w.heap.size + 1) (.bool false) (.slice none 0 0) (.slice none 0 0) := by rw [hy]; exact HG.out.res.ot (a := ⟨w.heap.size + 1 + 1, x, none⟩) (by show w.heap.size + 1 ≠ w.heap.size + 1 + 1; omega) _
      have hWy : y.rowIs (w.heap.size + 1 + 1) 22 sz.length (fun j => rv (rwa (rs.set x ((ia, ic), L)) j)) := by rw [hy]; exact row_setR ia ic L hxr HG.out.row
      have hNy : NewR (w.heap.size + 1 + 1 + 1) y rs := by rw [hy]; exact HG.out.new.set (p := ⟨w.heap.size + 1 + 1, x, none⟩) (by show w.heap.size + 1 + 1 < w.heap.size + 1 + 1 + 1; omega) _
      have hIL : IsC y.heap.size y ia L ic := (HI.out.2.2.below hBy).mono hBy.size
      have HY : Hid (IsR y.heap.size y (some ⟨w.heap.size + 1 + 1, 0, none⟩) (rs.set x ((ia, ic), L)) ∧ (rs.set x ((ia, ic), L)).length = sz.length ∧ rwl (rs.set x ((ia, ic), L)) = alR sz x L) := by
        refine ⟨⟨.inr ⟨w.heap.size + 1 + 1, 0, rfl, hWy.lt, fun j hj => ?_⟩, fun j hj => ?_⟩, by rw [List.length_set]; exact HG.out.len, ?_⟩
        · rw [Nat.zero_add]
          rw [List.length_set, HG.out.len] at hj
          exact hWy.cell hj
        · rw [List.length_set] at hj
          rw [rwa_set _ _ _ hxr]
          split
          · exact hIL
          · exact (hNy j hj).ints
        · rw [rwl_set, HG.out.rows, List.take_of_length_le (by rw [idR_length]; exact Nat.le_refl _)]
          rfl
      have HYB : Hid (Below w.heap.size w y ∧ Abx y (w.heap.size + 1) (.bool false) (.slice none 0 0) (.slice none 0 0)) := ⟨hBy, hRy⟩
      have c2 := HG.out.row.cell hx
      have f2 := HG.out.row.frozen x
      have a0 := hAy.c0
      have a1 := hAy.c1
      have a2 := hAy.c2
      rw [hy] at a0 a1 a2
      have HHY : Hid (y = wr.setCell ⟨w.heap.size + 1 + 1, x, none⟩ (.slice ia L.length ic)) := hy
      clear hy hBy hAy hRy hWy hNy hIL hxr
      go_wp2_with fail
      rw [← HHY.out]
      clear a0 a1 a2 c2 f2 HHY HG
      refine (gather_n (some ⟨w.heap.size + 1 + 1, 0, none⟩) sz.length (rs.set x ((ia, ic), L)) sz.length c sa sc sz da dc dz S D HY.out.2.1 (by rw [HY.out.2.2]; exact HF.out.2.1) (by rw [HY.out.2.2]; exact HF.out.2.2) HF.out.1 rfl y HY.out.1 ((HI.out.1.below HYB.out.1).mono HYB.out.1.size) ((HI.out.2.1.below HYB.out.1).mono HYB.out.1.size)).mono ?_
      rintro e w3 ⟨xa, xc, ya, yc, rfl, hX, hY, hB⟩
      have HX : Hid (NewC y.heap.size w3 xa (onl (errOf S) S) xc ∧ NewC y.heap.size w3 ya (onl (errOf S) D) yc ∧ Below y.heap.size y w3) := ⟨hX, hY, hB⟩
      have R3 := HYB.out.2.go hB
      have hwr : w.heap.size + 1 < y.heap.size := HYB.out.2.lt
      clear hX hY hB
      generalize onl (errOf S) S = S' at *
      generalize onl (errOf S) D = D' at *
      generalize onc (errOf S) c = C at *
      generalize errOf S = E at *
      have r0 := R3.c0
      have r1 := R3.c1
      have r2 := R3.c2
      have f0 := R3.fr 0
      have f1 := R3.fr 1
      have f2 := R3.fr 2
      go_wp2_with fail
      have F := R3.set3 (.bool C) (.slice xa S'.length xc) (.slice ya D'.length yc)
      have q0 := F.c0
      have q1 := F.c1
      have q2 := F.c2
      exact bodyPost_ret (v := .tuple #[.agg #[.bool C, .slice xa S'.length xc, .slice ya D'.length yc], errV E]) (by simp [results, Try.results24, go_sem, q0, q1, q2]) rfl ⟨xa, xc, ya, yc, rfl, (HX.out.1.set3 (b := w.heap.size + 1) (by omega) _ _ _).low (by omega), (HX.out.2.1.set3 (b := w.heap.size + 1) (by omega) _ _ _).low (by omega), bel_set3 (HYB.out.1.trans (HX.out.2.2.mono HYB.out.1.size)) (by omega) _ _ _⟩
end Go.Proofs.Yteieliajdfbipab
/-! Cut3: What package cut's Keep tells. -/
namespace Go.Proofs.Yteieliajdfbipab
open Go.RowKit
set_option linter.unusedVariables false

theorem heap_newKeep (w : World) (o : Obj) : (w.alloc o).heap[w.heap.size]? = some o := World.alloc_heap_new w o
theorem kpE_ax {m : List Int} {x : Int} {c : Bool} {s dz : List Int} (h : axE x c s dz ≠ 0) : kpE m x c s dz = axE x c s dz := by unfold kpE; rw [if_pos h]
theorem kpE_len {m : List Int} {x : Int} {c : Bool} {s dz : List Int} (h : axE x c s dz = 0) (k : (m.length : Int) ≠ nth s x.toNat) : kpE m x c s dz = 4 := by unfold kpE; rw [if_neg (by simpa using h), if_pos k]
theorem kpE_msk {m : List Int} {x : Int} {c : Bool} {s dz : List Int} (h : axE x c s dz = 0) (k : (m.length : Int) = nth s x.toNat) (q : mskB m = false) : kpE m x c s dz = 6 := by unfold kpE; rw [if_neg (by simpa using h), if_neg (by simpa using k), if_pos q]
set_option maxRecDepth 100000 in
set_option maxHeartbeats 4000000 in
theorem kp_holds : CKp := by
  intro ma mc m x c sa sc sz da dc dz w h0 T0 hx h1 h2 hm hs hd T
  have HI : Hid (IsC w.heap.size w sa sz sc ∧ IsC w.heap.size w da dz dc ∧ IsC w.heap.size w ma m mc) := ⟨hs, hd, hm⟩
  have HX : Hid (In64 x) := hx
  clear hs hd hm T T0 hx
  have HB0 : Hid (Below w.heap.size w ((w.alloc (.cells #[.bool c, .slice sa sz.length sc, .slice da dz.length dc] 24)).alloc (.cells #[.bool false, .slice none 0 0, .slice none 0 0] 24))) := ((Below.refl _ w).alloc (Nat.le_refl _) _).alloc (by simp) _
  have pa := (Abx.new w (.bool c) (.slice sa sz.length sc) (.slice da dz.length dc)).al (.cells #[.bool false, .slice none 0 0, .slice none 0 0] 24)
  have pr := Abx.new1 w (.cells #[.bool c, .slice sa sz.length sc, .slice da dz.length dc] 24) (.bool false) (.slice none 0 0) (.slice none 0 0)
  have p0 := pa.c0
  have p1 := pa.c1
  have p2 := pa.c2
  by_cases h3 : axE x c sz dz = 0
  · have H3 : Hid (axE x c sz dz = 0) := h3
    obtain ⟨hf, hx0, hx1⟩ := axE_zero.1 h3
    obtain ⟨xn, rfl⟩ : ∃ xn : Nat, x = (xn : Int) := ⟨x.toNat, by omega⟩
    rw [Int.toNat_natCast] at hx1
    have HF : Hid (flawE c sz dz = 0) := hf
    clear h3 hf hx0
    go_enter Try.func9, Try.ntmps9
    go_wp2_with fail
    refine (axis_ok (xn : Int) c sa sc sz da dc dz h1 h2 _ ((HI.out.1.1.below HB0.out).mono HB0.out.size) ((HI.out.2.1.1.below HB0.out).mono HB0.out.size) H3.out).mono ?_
    rintro e v1 ⟨rfl, hC⟩
    have HB1 : Hid (Below w.heap.size w v1) := HB0.out.trans (hC.mono HB0.out.size)
    have HP : Hid (Abx v1 w.heap.size (.bool c) (.slice sa sz.length sc) (.slice da dz.length dc)) := pa.go hC
    have HR : Hid (Abx v1 (w.heap.size + 1) (.bool false) (.slice none 0 0) (.slice none 0 0)) := pr.go hC
    clear hC pa pr p0 p1 p2 HB0
    have a1 := HP.out.c1
    obtain ⟨bs, os, rfl, hbs, hcS⟩ := (HI.out.1.1.below HB1.out).at hx1
    have cs := hcS xn hx1
    clear hcS
    by_cases hlen : (m.length : Int) = nth sz xn
    · have HLN : Hid ((m.length : Int) = nth sz xn) := hlen
      rw [← hlen] at cs
      clear hlen
      go_wp2_with fail
      refine (mask6_any ma mc m h0 v1.heap.size v1 ((HI.out.2.2.1.below HB1.out).mono HB1.out.size)).mono ?_
      rintro e v2 ⟨rfl, hv2⟩
      obtain rfl := hv2.symm
      clear hv2
      by_cases hmk : mskB m = true
      · have HK : Hid (kpE m (xn : Int) c sz dz = 0 ∧ mskB m = true) := ⟨kpZ.2 ⟨HF.out, hx1, HLN.out, hmk⟩, hmk⟩
        have hm4 : m.length ≤ 4096 := by have := ((errOf_zero.1 (flawE_zero HF.out).1).2.1.nth xn).2; have := HLN.out; omega
        rw [hmk]
        clear hmk
        go_wp2_with fail
        go_loopw [9, 36] (fun v i wr => ∃ k : Nat, k ≤ m.length ∧ i = .int .i64 k ∧ wr.ownsRow v1.heap.size 3 1 v (kpl m k).length ((kpl m k).map (Value.int .i64)) ∧ Below v1.heap.size v1 wr) (fun v i _ => m.length - (intOf i).toNat)
        case atStart => exact ⟨0, Nat.zero_le _, rfl, World.ownsRow_nil _ _ _ _, Below.refl _ _⟩
        case round =>
          obtain ⟨k, hk, rfl, hown, hBv⟩ := hrel
          have hB : Below w.heap.size w wr := HB1.out.trans (hBv.mono HB1.out.size)
          have hsz2 : v1.heap.size ≤ wr.heap.size := hBv.size
          by_cases hlt : k < m.length
          · obtain ⟨bm, om, rfl, hbm, hcM⟩ := (HI.out.2.2.1.below hB).at hlt
            have cm := hcM k hlt
            clear hcM
            by_cases hbit : nth m k = 1
            · have HS : Hid (kpl m (k + 1) = kpl m k ++ [(k : Int)]) := by show _ = _; simp only [kpl]; rw [if_pos hbit]
              have hll : (kpl m k).length ≤ 1000000 := by have := kpl_le m k; omega
              rw [hbit] at cm
              have HQ : Hid (Below v1.heap.size v1 wr) := hBv
              clear hbit hBv hB
              go_wp2_with (at_builtin; refine app_list rfl _ _ rfl _ v1.heap.size wr.heap.size _ (kpl m k) (k : Int) rfl rfl (hown.alloc _) (heap_newKeep wr _) hll (by simp; omega) ?_; intro g1 gc1 w9 hown9 hB9)
              refine ⟨⟨k + 1, by omega, by go_num, ?_, (HQ.out.alloc hsz2 _).trans hB9⟩, by simp [intOf]; omega⟩
              rw [HS.out, List.length_append]
              exact hown9
            · have HS : Hid (kpl m (k + 1) = kpl m k) := by show _ = _; simp only [kpl]; rw [if_neg hbit]
              have t1 : (nth m k == 1) = false := by simpa using hbit
              go_wp2_with fail
              refine ⟨⟨k + 1, by omega, by go_num, ?_, hBv⟩, by simp [intOf]; omega⟩
              rw [HS.out]
              exact hown
          · obtain rfl : k = m.length := by omega
            obtain ⟨g, gc, rfl, hN⟩ := own_cap hown
            have HN : Hid (NewC v1.heap.size wr g (kpl m m.length) gc) := hN
            have HBw : Hid (Below w.heap.size w wr) := hB
            have HRw : Hid (Abx wr (w.heap.size + 1) (.bool false) (.slice none 0 0) (.slice none 0 0)) := HR.out.go hBv
            have hPw := HP.out.go hBv
            have b0 := hPw.c0
            have b1 := hPw.c1
            have b2 := hPw.c2
            have HE : Hid (kpE m (xn : Int) c sz dz = errOf (kpS m xn sz) ∧ kpS6 m (xn : Int) c sz dz = onl (errOf (kpS m xn sz)) (kpS m xn sz) ∧ kpD6 m (xn : Int) c sz dz = onl (errOf (kpS m xn sz)) (kpD m xn sz dz)) := by
              have e1 := kp_err HK.out.1
              have e2 := HK.out.1
              unfold kpS6 kpD6
              rw [e1, e2, Int.toNat_natCast]
              exact ⟨rfl, rfl, rfl⟩
            clear hown hBv hB hPw hN
            go_wp2_with fail
            refine (alongc_any xn g gc (kpl m m.length) (kpl m m.length).length rfl c (some ⟨bs, os, none⟩) sc sz da dc dz (kpS m xn sz) (kpD m xn sz dz) HF.out hx1 (kp_ga HK.out.1).1 (fun _ => (kp_ga HK.out.1).2) wr HN.out.ints ((HI.out.1.below HBw.out).mono HBw.out.size) ((HI.out.2.1.below HBw.out).mono HBw.out.size)).mono ?_
            clear b0 b1 b2
            rintro e w3 ⟨xa, xc, ya, yc, rfl, hX, hY, hB⟩
            have HX : Hid (NewC wr.heap.size w3 xa (onl (errOf (kpS m xn sz)) (kpS m xn sz)) xc ∧ NewC wr.heap.size w3 ya (onl (errOf (kpS m xn sz)) (kpD m xn sz dz)) yc ∧ Below wr.heap.size wr w3) := ⟨hX, hY, hB⟩
            have HG6 : Hid (kpE m (xn : Int) c sz dz = errOf (kpS m xn sz) ∧ onc (kpE m (xn : Int) c sz dz) c = onc (errOf (kpS m xn sz)) c ∧ kpS6 m (xn : Int) c sz dz = onl (errOf (kpS m xn sz)) (kpS m xn sz) ∧ kpD6 m (xn : Int) c sz dz = onl (errOf (kpS m xn sz)) (kpD m xn sz dz)) := ⟨HE.out.1, by rw [HE.out.1], HE.out.2.1, HE.out.2.2⟩
            have R3 := HRw.out.go hB
            have hwr : w.heap.size + 1 < wr.heap.size := HRw.out.lt
            clear hX hY hB HE
            generalize onl (errOf (kpS m xn sz)) (kpS m xn sz) = S' at *
            generalize onl (errOf (kpS m xn sz)) (kpD m xn sz dz) = D' at *
            generalize onc (errOf (kpS m xn sz)) c = C' at *
            generalize errOf (kpS m xn sz) = E' at *
            have r0 := R3.c0
            have r1 := R3.c1
            have r2 := R3.c2
            have f0 := R3.fr 0
            have f1 := R3.fr 1
            have f2 := R3.fr 2
            go_wp2_with fail
            have F := R3.set3 (.bool C') (.slice xa S'.length xc) (.slice ya D'.length yc)
            have q0 := F.c0
            have q1 := F.c1
            have q2 := F.c2
            have k1 := HX.out.1
            have k2 := HX.out.2.1
            have k3 := HX.out.2.2
            have hX1 := (k1.set3 (b := w.heap.size + 1) (by omega) (.bool C') (.slice xa S'.length xc) (.slice ya D'.length yc)).low (lo' := w.heap.size) (by omega)
            have hX2 := (k2.set3 (b := w.heap.size + 1) (by omega) (.bool C') (.slice xa S'.length xc) (.slice ya D'.length yc)).low (lo' := w.heap.size) (by omega)
            have hX3 := bel_set3 (HBw.out.trans (k3.mono HBw.out.size)) (b := w.heap.size + 1) (by omega) (.bool C') (.slice xa S'.length xc) (.slice ya D'.length yc)
            exact bodyPost_ret (v := .tuple #[.agg #[.bool C', .slice xa S'.length xc, .slice ya D'.length yc], errV E']) (by simp [results, Try.results9, go_sem, q0, q1, q2]) rfl (by rw [HG6.out.2.2.1, HG6.out.2.2.2, HG6.out.2.1, HG6.out.1]; exact ⟨xa, xc, ya, yc, rfl, hX1, hX2, hX3⟩)
      · have hmf : mskB m = false := by simpa using hmk
        have HE : Hid (kpE m (xn : Int) c sz dz = 6) := kpE_msk H3.out HLN.out hmf
        rw [hmf]
        clear hmk hmf
        have r0 := HR.out.c0
        have r1 := HR.out.c1
        have r2 := HR.out.c2
        have f0 := HR.out.fr 0
        have f1 := HR.out.fr 1
        have f2 := HR.out.fr 2
        go_wp2_with fail
        have F := HR.out.set3 (.bool false) (.slice none 0 0) (.slice none 0 0)
        have q0 := F.c0
        have q1 := F.c1
        have q2 := F.c2
        exact bodyPost_ret (v := .tuple #[.agg #[.bool false, .slice none 0 0, .slice none 0 0], .iface 47 (.int .i64 6)]) (by simp [results, Try.results9, go_sem, q0, q1, q2]) rfl (UB.mkno HE.out (by decide) (bel_set3 HB1.out (by omega) _ _ _))
    · have HE : Hid (kpE m (xn : Int) c sz dz = 4) := kpE_len H3.out hlen
      have t1 : ((m.length : Int) != nth sz xn) = true := by simpa using hlen
      have r0 := HR.out.c0
      have r1 := HR.out.c1
      have r2 := HR.out.c2
      have f0 := HR.out.fr 0
      have f1 := HR.out.fr 1
      have f2 := HR.out.fr 2
      go_wp2_with fail
      have F := HR.out.set3 (.bool false) (.slice none 0 0) (.slice none 0 0)
      have q0 := F.c0
      have q1 := F.c1
      have q2 := F.c2
      exact bodyPost_ret (v := .tuple #[.agg #[.bool false, .slice none 0 0, .slice none 0 0], .iface 47 (.int .i64 4)]) (by simp [results, Try.results9, go_sem, q0, q1, q2]) rfl (UB.mkno HE.out (by decide) (bel_set3 HB1.out (by omega) _ _ _))
  · have H3 : Hid (axE x c sz dz ≠ 0) := h3
    have HE : Hid (kpE m x c sz dz = axE x c sz dz) := kpE_ax h3
    clear h3
    go_enter Try.func9, Try.ntmps9
    go_wp2_with fail
    refine (axis_no x HX.out c sa sc sz da dc dz h1 h2 _ ((HI.out.1.1.below HB0.out).mono HB0.out.size) ((HI.out.2.1.1.below HB0.out).mono HB0.out.size) H3.out).mono ?_
    rintro e v1 ⟨rfl, hC⟩
    have HB1 : Hid (Below w.heap.size w v1) := HB0.out.trans (hC.mono HB0.out.size)
    have HP : Hid (Abx v1 w.heap.size (.bool c) (.slice sa sz.length sc) (.slice da dz.length dc)) := pa.go hC
    have HR : Hid (Abx v1 (w.heap.size + 1) (.bool false) (.slice none 0 0) (.slice none 0 0)) := pr.go hC
    clear hC pa pr p0 p1 p2 HB0
    have r0 := HR.out.c0
    have r1 := HR.out.c1
    have r2 := HR.out.c2
    have f0 := HR.out.fr 0
    have f1 := HR.out.fr 1
    have f2 := HR.out.fr 2
    go_wp2_with fail
    have F := HR.out.set3 (.bool false) (.slice none 0 0) (.slice none 0 0)
    have q0 := F.c0
    have q1 := F.c1
    have q2 := F.c2
    exact bodyPost_ret (v := .tuple #[.agg #[.bool false, .slice none 0 0, .slice none 0 0], .iface 47 (.int .i64 (axE x c sz dz))]) (by simp [results, Try.results9, go_sem, q0, q1, q2]) rfl (UB.mkno HE.out H3.out (bel_set3 HB1.out (by omega) _ _ _))
end Go.Proofs.Yteieliajdfbipab
