/-
  The place of the cell that is gathered to a place, as the program reckons it.
-/
import Derived.BigRegionIn
import Derived.Test.YtnfdcdoelhanlaaBkr
import Derived.Test.YtnfdcdoelhanlaaBase
import Derived.Test.YtnfdcdoelhanlaaTillin
import Derived.Test.YtnfdcdoelhanlaaTurnq
namespace Go.Proofs.Ytnfdcdoelhanlaa
open Go.RowKit Go.Shelf
set_option linter.unusedVariables false
attribute [local go_sem] Oper.semAt_some

theorem bxd {W : World} {b : Nat} {t : TypeId} {v : Value} (h : Boxed W b t v) : Boxed W.drew b t v := h
set_option maxRecDepth 100000 in
set_option maxHeartbeats 4000000 in
theorem src_any (fa : Option Addr) (fc : Nat) (rs : List Rw) (sa : Option Addr) (sc : Nat) (zs : List Int) (p : Nat) (he : errOf zs = 0) (hl : rs.length = zs.length) (heS : errOf (gaS (rwl rs)) = 0) (hp : (p : Int) < prod (gaS (rwl rs))) (w : World) (hR : IsR w.heap.size w fa rs) (hI : IsInts w.heap.size w sa zs) (T : List Int) (hT : T = gaT (rwl rs) (cr (gaS (rwl rs)) p)) (V : Int) (hV : V = if insB zs T = true then place zs T else 0) (B : Bool) (hBo : B = insB zs T) :
    Calls Try.prog 58 #[.slice fa rs.length fc, .slice sa zs.length sc, .int .i64 (p : Nat)] w fun e w' => e = .returned (.tuple #[.int .i64 V, .bool B]) ∧ Below w.heap.size w w' := by
  have hz := errOf_zero.1 he
  have hzS := errOf_zero.1 heS
  have HP : Hid (AllPos (gaS (rwl rs))) := allPos_of_prod hzS.2.1 (by omega)
  have hlz : zs.length ≤ 6 := hz.1
  have hp3 : (p : Int) < 4096 := by omega
  have HA : Hid (AllIn zs) := hz.2.1
  have HAS : Hid (AllIn (gaS (rwl rs))) := hzS.2.1
  have HL : Hid (rs.length = zs.length) := hl
  have HT : Hid (T = gaT (rwl rs) (cr (gaS (rwl rs)) p)) := hT
  have HM : Hid (prod zs ≤ 4096) := hz.2.2
  have HVB : Hid (V = (if insB zs T = true then place zs T else 0) ∧ B = insB zs T) := ⟨hV, hBo⟩
  have hrl : rs.length ≤ 6 := by omega
  have hreach : rs.length ≤ 9223372036854775807 := by omega
  have HN : Hid (rs.length = (rwl rs).length) := (rwl_length rs).symm
  clear hz hzS hl he heS hp hT hV hBo
  refine (callsIn_wide (n := 5)).1 ?_
  refine callsIn_of_wp_marks Try.func58 rfl trivial ?_ rfl
  simp only [Try.ntmps58, List.size_toArray, List.length_cons, List.length_nil, Nat.reduceAdd, Nat.reduceSub, Array.replicate_succ, Array.replicate_zero, List.push_toArray, List.append_toArray, List.nil_append, List.cons_append]
  gi_wp2_with fail
  refine ⟨trivial, (br_in Fence.wide 4 trivial rfl _ _ _ _).mono ?_⟩
  rintro e w' ⟨rfl, rfl⟩
  gi_wp2_with fail
  have b0 := Boxed.new w 23 (.slice sa zs.length sc)
  have b1 := Boxed.new (w.alloc (.cells #[.slice sa zs.length sc] 23)) 3 (.int .i64 (p : Int))
  have b2 := Boxed.new ((w.alloc (.cells #[.slice sa zs.length sc] 23)).alloc (.cells #[.int .i64 (p : Int)] 3)) 3 (.int .i64 0)
  have b3 := Boxed.new (((w.alloc (.cells #[.slice sa zs.length sc] 23)).alloc (.cells #[.int .i64 (p : Int)] 3)).alloc (.cells #[.int .i64 0] 3)) 4 (.bool false)
  have b4 := Boxed.new ((((w.alloc (.cells #[.slice sa zs.length sc] 23)).alloc (.cells #[.int .i64 (p : Int)] 3)).alloc (.cells #[.int .i64 0] 3)).alloc (.cells #[.bool false] 4)) 3 (.int .i64 0)
  have b5 := Boxed.new (((((w.alloc (.cells #[.slice sa zs.length sc] 23)).alloc (.cells #[.int .i64 (p : Int)] 3)).alloc (.cells #[.int .i64 0] 3)).alloc (.cells #[.bool false] 4)).alloc (.cells #[.int .i64 0] 3)) 3 (.int .i64 1)
  have b6 := Boxed.new ((((((w.alloc (.cells #[.slice sa zs.length sc] 23)).alloc (.cells #[.int .i64 (p : Int)] 3)).alloc (.cells #[.int .i64 0] 3)).alloc (.cells #[.bool false] 4)).alloc (.cells #[.int .i64 0] 3)).alloc (.cells #[.int .i64 1] 3)) 72 (.slice fa rs.length fc)
  simp only [World.size_alloc] at b1 b2 b3 b4 b5 b6
  replace b0 := ((((((b0.alloc (.cells #[.int .i64 (p : Int)] 3)).alloc (.cells #[.int .i64 0] 3)).alloc (.cells #[.bool false] 4)).alloc (.cells #[.int .i64 0] 3)).alloc (.cells #[.int .i64 1] 3)).alloc (.cells #[.slice fa rs.length fc] 72))
  replace b1 := (((((b1.alloc (.cells #[.int .i64 0] 3)).alloc (.cells #[.bool false] 4)).alloc (.cells #[.int .i64 0] 3)).alloc (.cells #[.int .i64 1] 3)).alloc (.cells #[.slice fa rs.length fc] 72))
  replace b2 := ((((b2.alloc (.cells #[.bool false] 4)).alloc (.cells #[.int .i64 0] 3)).alloc (.cells #[.int .i64 1] 3)).alloc (.cells #[.slice fa rs.length fc] 72))
  replace b3 := (((b3.alloc (.cells #[.int .i64 0] 3)).alloc (.cells #[.int .i64 1] 3)).alloc (.cells #[.slice fa rs.length fc] 72))
  replace b4 := ((b4.alloc (.cells #[.int .i64 1] 3)).alloc (.cells #[.slice fa rs.length fc] 72))
  replace b5 := (b5.alloc (.cells #[.slice fa rs.length fc] 72))
  have hB0 : Below w.heap.size w (((((((w.alloc (.cells #[.slice sa zs.length sc] 23)).alloc (.cells #[.int .i64 (p : Int)] 3)).alloc (.cells #[.int .i64 0] 3)).alloc (.cells #[.bool false] 4)).alloc (.cells #[.int .i64 0] 3)).alloc (.cells #[.int .i64 1] 3)).alloc (.cells #[.slice fa rs.length fc] 72)) := ((((((((Below.refl _ w).alloc (by simp <;> omega) _).alloc (by simp <;> omega) _).alloc (by simp <;> omega) _).alloc (by simp <;> omega) _).alloc (by simp <;> omega) _).alloc (by simp <;> omega) _).alloc (by simp <;> omega) _)
  refine wpIn_rangeFunc_ownG rfl (by omega) (gf := 60) (lb := #[.pointer (some ⟨w.heap.size + 1 + 1 + 1 + 1 + 1 + 1, 0, none⟩)]) rfl trivial (enters_of Try.func60 (by kernel_rfl) rfl)
    (br_stops Fence.wide (5 - 1) trivial rfl (by omega) (w.heap.size + 1 + 1 + 1 + 1 + 1 + 1) w.heap.size fa fc rs hreach _ (by simp) (by simp; omega) b6.cell (hR.below hB0)) (fun h k => h.trans k) (kpt_b (by simp; omega) (by simp)) (Below.refl _ _) (fun _ => rfl)
    (fun pre W => ((((((gB (rwl rs) zs p pre = true ∧ Boxed W (w.heap.size + 1 + 1 + 1 + 1) 3 (.int .i64 (gV (rwl rs) zs p pre))) ∧ Boxed W (w.heap.size + 1 + 1 + 1 + 1 + 1) 3 (.int .i64 (gA (rwl rs) zs p pre))) ∧ Boxed W (w.heap.size + 1) 3 (.int .i64 (gQ (rwl rs) zs p pre))) ∧ Boxed W w.heap.size 23 (.slice sa zs.length sc)) ∧ Boxed W (w.heap.size + 1 + 1) 3 (.int .i64 0)) ∧ Boxed W (w.heap.size + 1 + 1 + 1) 4 (.bool false)) ∧ Below w.heap.size w W)
    (fun c pre W => (((c = .ret ∧ gB (rwl rs) zs p pre = false) ∧ Boxed W (w.heap.size + 1 + 1) 3 (.int .i64 0)) ∧ Boxed W (w.heap.size + 1 + 1 + 1) 4 (.bool false)) ∧ Below w.heap.size w W)
    (OwnFrom.and (OwnFrom.and (OwnFrom.and (OwnFrom.and (OwnFrom.and (OwnFrom.and (OwnFrom.and (ownFrom_pure _ _) (Own.from (boxed_own _ _ _) _)) (Own.from (boxed_own _ _ _) _)) (Own.from (boxed_own _ _ _) _)) (Own.from (boxed_own _ _ _) _)) (Own.from (boxed_own _ _ _) _)) (Own.from (boxed_own _ _ _) _)) (ownFrom_below (Nat.le_refl _) (by simp; omega)))
    (fun c => OwnFrom.and (OwnFrom.and (OwnFrom.and (ownFrom_pure _ _) (Own.from (boxed_own _ _ _) _)) (Own.from (boxed_own _ _ _) _)) (ownFrom_below (Nat.le_refl _) (by simp; omega)))
    ⟨⟨⟨⟨⟨⟨⟨rfl, b4⟩, b5⟩, b1⟩, b0⟩, b2⟩, b3⟩, hB0⟩
    (fun x => { tmps := #[.slice fa rs.length fc, .slice sa zs.length sc, .int .i64 (p : Int), undef, .pointer (some ⟨w.heap.size, 0, none⟩), .pointer (some ⟨w.heap.size + 1, 0, none⟩), .pointer (some ⟨w.heap.size + 1 + 1, 0, none⟩), .pointer (some ⟨w.heap.size + 1 + 1 + 1, 0, none⟩), .pointer (some ⟨w.heap.size + 1 + 1 + 1 + 1, 0, none⟩), .pointer (some ⟨w.heap.size + 1 + 1 + 1 + 1 + 1, 0, none⟩), .int .i64 (x.1 : Int), rv (rwa rs x.1), undef, .slice fa rs.length fc, .func (.func 60) #[] #[.pointer (some ⟨w.heap.size + 1 + 1 + 1 + 1 + 1 + 1, 0, none⟩)], .int .i64 (x.1 : Int), rv (rwa rs x.1), undef, undef, undef, undef, undef, undef, undef, undef, undef, undef, undef, undef, undef, undef, undef, undef, undef, undef, undef, undef, undef, undef, undef, undef, undef, undef, undef, undef, undef, undef, undef, undef, undef], defers := [] }) ?assign ?body ?done ?stop
  case assign =>
    intro l x W K hK
    gi_wp2
    exact hK
  case body =>
    rintro l pre ⟨k, hk⟩ W ⟨⟨⟨⟨⟨⟨⟨hok, hv⟩, ha⟩, hq⟩, hsb⟩, h2⟩, h3⟩, hB⟩ _
    have hkz : k < zs.length := by rw [← HL.out]; exact hk
    have hqb := gQ_bd (zs := zs) HP.out HN.out (p := (p : Int)) (by omega) pre
    have hrow := (hR.below hB).row hk
    have hgs : nth (gaS (rwl rs)) k = (rwa rs k).2.length := by rw [gaS_nth (by rw [← HN.out]; exact hk), rwl_at]
    have hRp : 0 < (rwa rs k).2.length := by have := HP.out _ (nth_mem (gaS (rwl rs)) k (by rw [gaS_length, ← HN.out]; exact hk)); omega
    have hR4 : (rwa rs k).2.length ≤ 4096 := by have := (HAS.out.nth k).2; omega
    have HQ : Hid (gQ (rwl rs) zs p (pre ++ [⟨k, hk⟩]) = (gQ (rwl rs) zs p pre).tdiv ((rwa rs k).2.length : Int)) := by show _ = _; rw [gQ_snoc, hgs]
    obtain ⟨m, hm⟩ : ∃ m : Nat, (gQ (rwl rs) zs p pre).tmod ((rwa rs k).2.length : Int) = (m : Int) := ⟨((gQ (rwl rs) zs p pre).tmod ((rwa rs k).2.length : Int)).toNat, by have := Int.tmod_nonneg ((rwa rs k).2.length : Int) hqb.1; omega⟩
    have hml : m < (rwa rs k).2.length := by have := Int.tmod_lt_of_pos (gQ (rwl rs) zs p pre) (show (0 : Int) < ((rwa rs k).2.length : Int) by omega); omega
    have HG : Hid (gI (rwl rs) (gQ (rwl rs) zs p pre) k = nth (rwa rs k).2 m) := by show _ = _; unfold gI; rw [hgs, hm, Int.toNat_natCast, rwl_at]
    have HV : Hid (gV (rwl rs) zs p (pre ++ [⟨k, hk⟩]) = wrap64 (gV (rwl rs) zs p pre + wrap64 (nth (rwa rs k).2 m * gA (rwl rs) zs p pre))) := by show _ = _; rw [gV_snoc, HG.out]
    have HAA : Hid (gA (rwl rs) zs p (pre ++ [⟨k, hk⟩]) = wrap64 (gA (rwl rs) zs p pre * nth zs k)) := gA_snoc _ _ _ _ _ _
    have HBB : Hid (gB (rwl rs) zs p (pre ++ [⟨k, hk⟩]) = decide (0 ≤ nth (rwa rs k).2 m ∧ nth (rwa rs k).2 m < nth zs k)) := by show _ = _; rw [gB_snoc, hok, Bool.true_and, HG.out]
    obtain ⟨bi, oi, hri, hbi, hci⟩ := hrow.1.at hml
    have cm := hci m hml
    obtain ⟨b, off, rfl, hbb, hcell⟩ := (hI.below hB).at hkz
    have hck := hcell k hkz
    have HRV : Hid (rv (rwa rs k) = .slice (some ⟨bi, oi, none⟩) (rwa rs k).2.length (rwa rs k).1.2) := by show _ = _; unfold rv; rw [hri]
    clear hcell hci
    dsimp only
    rw [HRV.out]
    have em : gQ (rwl rs) zs p pre % ((rwa rs k).2.length : Int) = (m : Int) := by rw [← hm, Int.tmod_eq_emod_of_nonneg hqb.1]
    have ed : gQ (rwl rs) zs p pre / ((rwa rs k).2.length : Int) = (gQ (rwl rs) zs p pre).tdiv ((rwa rs k).2.length : Int) := (Int.tdiv_eq_ediv_of_nonneg hqb.1).symm
    have HED : Hid (gQ (rwl rs) zs p (pre ++ [⟨k, hk⟩]) = gQ (rwl rs) zs p pre / ((rwa rs k).2.length : Int)) := by show _ = _; rw [HQ.out, ed]
    clear ed hm hgs hri hrow HG HQ
    have c0 := hsb.cell
    have c1 := hq.cell
    have f1 := hq.frozen
    have c2 := h2.cell
    have f2 := h2.frozen
    have c3 := h3.cell
    have f3 := h3.frozen
    have c4 := hv.cell
    have f4 := hv.frozen
    have c5 := ha.cell
    have f5 := ha.frozen
    generalize gV (rwl rs) zs p pre = V0 at *
    generalize gA (rwl rs) zs p pre = A0 at *
    generalize gQ (rwl rs) zs p pre = Q0 at *
    generalize nth (rwa rs k).2 m = I0 at *
    generalize nth zs k = Z0 at *
    generalize (rwa rs k).2.length = L0 at *
    generalize (rwa rs k).1.2 = C0 at *
    obtain ⟨hq1, hq2⟩ := hqb
    by_cases h1 : I0 < 0
    · have HF : Hid (gB (rwl rs) zs p (pre ++ [⟨k, hk⟩]) = false) := by show _ = _; rw [HBB.out]; simp; omega
      have HK : Hid (Boxed W (w.heap.size + 1 + 1) 3 (.int .i64 0) ∧ Boxed W (w.heap.size + 1 + 1 + 1) 4 (.bool false) ∧ Below w.heap.size w W) := ⟨h2, h3, hB⟩
      clear b0 b1 b2 b3 b4 b5 b6 hB0 hI hR hv ha hq hsb h2 h3 hB HA HAS HP HL HT HM HN HV HAA HBB HED HRV hok
      gi_wp2
      exact ⟨((KeepsOthers.setCell _ _ _).trans (KeepsOthers.setCell _ _ _)).from _, ⟨⟨⟨rfl, HF.out⟩, (HK.out.1.set (.int .i64 0)).other (by omega) _⟩, (HK.out.2.1.other (by omega) _).set _⟩, (HK.out.2.2.setCell (p := ⟨w.heap.size + 1 + 1, 0, none⟩) (by simp; omega) _).setCell (p := ⟨w.heap.size + 1 + 1 + 1, 0, none⟩) (by simp; omega) _⟩
    · by_cases h1' : Z0 ≤ I0
      · have HF : Hid (gB (rwl rs) zs p (pre ++ [⟨k, hk⟩]) = false) := by show _ = _; rw [HBB.out]; simp; omega
        have HK : Hid (Boxed W (w.heap.size + 1 + 1) 3 (.int .i64 0) ∧ Boxed W (w.heap.size + 1 + 1 + 1) 4 (.bool false) ∧ Below w.heap.size w W) := ⟨h2, h3, hB⟩
        clear b0 b1 b2 b3 b4 b5 b6 hB0 hI hR hv ha hq hsb h2 h3 hB HA HAS HP HL HT HM HN HV HAA HBB HED HRV hok
        gi_wp2
        exact ⟨((KeepsOthers.setCell _ _ _).trans (KeepsOthers.setCell _ _ _)).from _, ⟨⟨⟨rfl, HF.out⟩, (HK.out.1.set (.int .i64 0)).other (by omega) _⟩, (HK.out.2.1.other (by omega) _).set _⟩, (HK.out.2.2.setCell (p := ⟨w.heap.size + 1 + 1, 0, none⟩) (by simp; omega) _).setCell (p := ⟨w.heap.size + 1 + 1 + 1, 0, none⟩) (by simp; omega) _⟩
      · have HF : Hid (gB (rwl rs) zs p (pre ++ [⟨k, hk⟩]) = true) := by show _ = _; rw [HBB.out]; simp; omega
        refine wpIn_mono (Q := fun e _ W' => e = .normal ∧ W' = (((W.setCell ⟨w.heap.size + 1 + 1 + 1 + 1, 0, none⟩ (.int .i64 (wrap64 (V0 + wrap64 (I0 * A0))))).setCell ⟨w.heap.size + 1 + 1 + 1 + 1 + 1, 0, none⟩ (.int .i64 (wrap64 (A0 * Z0)))).drew).setCell ⟨w.heap.size + 1, 0, none⟩ (.int .i64 (Q0 / (L0 : Int)))) ?_ ?_
        · clear b0 b1 b2 b3 b4 b5 b6 hB0 hI hR hv ha hq hsb h2 h3 hB HA HAS HP HL HT HM HN HV HAA HBB HED HRV hok HF
          have hfol : Try.prog.follows Departure.mixedOrders = true := by kernel_rfl
          have hL0 : ¬ (L0 : Int) = 0 := by omega
          gi_wp2
          gi_region_with_o (fail)
          all_goals gi_wp2
        · rintro e a9 W' ⟨rfl, rfl⟩
          refine ⟨((((KeepsOthers.setCell _ _ _).trans (KeepsOthers.setCell _ _ _)).trans (KeepsOthers.drew _)).trans (KeepsOthers.setCell _ _ _)).from _, (((Kpt.setCell W 0 _ (by omega) (by omega)).set 0 _ (by omega) (by omega)).drew).set 0 _ (by omega) (by omega), ⟨⟨⟨⟨⟨⟨HF.out, ?_⟩, ?_⟩, ?_⟩, ?_⟩, ?_⟩, ?_⟩, (((hB.setCell (p := ⟨w.heap.size + 1 + 1 + 1 + 1, 0, none⟩) (by simp; omega) _).setCell (p := ⟨w.heap.size + 1 + 1 + 1 + 1 + 1, 0, none⟩) (by simp; omega) _).drew).setCell (p := ⟨w.heap.size + 1, 0, none⟩) (by simp) _⟩
          · rw [HV.out]; exact Boxed.other (bxd (Boxed.other (Boxed.set _ hv) (by omega) _)) (by omega) _
          · rw [HAA.out]; exact Boxed.other (bxd (Boxed.set _ (Boxed.other ha (by omega) _))) (by omega) _
          · rw [HED.out]; exact Boxed.set _ (bxd (Boxed.other (Boxed.other hq (by omega) _) (by omega) _))
          · exact Boxed.other (bxd (Boxed.other (Boxed.other hsb (by omega) _) (by omega) _)) (by omega) _
          · exact Boxed.other (bxd (Boxed.other (Boxed.other h2 (by omega) _) (by omega) _)) (by omega) _
          · exact Boxed.other (bxd (Boxed.other (Boxed.other h3 (by omega) _) (by omega) _)) (by omega) _
  case done =>
    rintro D ys W hD rfl ⟨⟨⟨⟨⟨⟨⟨hok, hv⟩, ha⟩, hq⟩, hsb⟩, h2⟩, h3⟩, hB⟩ hK
    obtain ⟨g1, g2⟩ := g_all (zs := zs) HN.out HL.out p
    rw [← HT.out] at g1 g2
    rw [g1] at hok
    have hpb := place_bd hok
    rw [g2, w_small (by omega) (by have := HM.out; omega)] at hv
    have HOK : Hid (insB zs T = true) := hok
    clear g1 g2 hpb hok
    have c2 := h2.cell
    have f2 := h2.frozen
    have c3 := h3.cell
    have f3 := h3.frozen
    have c4 := hv.cell
    gi_wp2
    have e1 := (h2.set (.int .i64 (place zs T))).other (B' := w.heap.size + 1 + 1 + 1) (by omega) (.bool true)
    have e2 := (h3.other (B' := w.heap.size + 1 + 1) (by omega) (.int .i64 (place zs T))).set (.bool true)
    have hK' := ((KeepsOthers.setCell W ⟨w.heap.size + 1 + 1, 0, none⟩ (.int .i64 (place zs T))).trans (KeepsOthers.setCell _ ⟨w.heap.size + 1 + 1 + 1, 0, none⟩ (.bool true))).same D _ hK rfl
    refine ⟨by simp, .inl ⟨_, _, rfl, run_takeDeferred hK', ?_⟩⟩
    have c8 := cell_kept e1.cell (grownBy_putObj' _ D (.deferred none)) (fun r e => by cases e; exact ⟨_, hK', rfl⟩)
    have c9 := cell_kept e2.cell (grownBy_putObj' _ D (.deferred none)) (fun r e => by cases e; exact ⟨_, hK', rfl⟩)
    refine ⟨.tuple #[.int .i64 (place zs T), .bool true], by simp [results, Try.f58, go_sem, c8, c9], ?_, ((hB.setCell (p := ⟨w.heap.size + 1 + 1, 0, none⟩) (by simp; omega) _).setCell (p := ⟨w.heap.size + 1 + 1 + 1, 0, none⟩) (by simp; omega) _).trans (belowK_b (w := w) (Nat.le_refl _) _ D _ _ (by simp at hD; omega) hK' rfl rfl)⟩
    rw [HVB.out.1, HVB.out.2, HOK.out, if_pos rfl]
  case stop =>
    rintro D c pre W hD ⟨k, hk, rfl⟩ ⟨⟨⟨⟨rfl, hx⟩, h2⟩, h3⟩, hB⟩ hK
    have HOK : Hid (insB zs T = false) := by show _ = _; rw [HT.out]; exact g_some HN.out HL.out p hk hx
    clear hx
    gi_wp2
    refine ⟨by simp, .inl ⟨_, _, rfl, run_takeDeferred hK, ?_⟩⟩
    have c8 := cell_kept h2.cell (grownBy_putObj' _ D (.deferred none)) (fun r e => by cases e; exact ⟨_, hK, rfl⟩)
    have c9 := cell_kept h3.cell (grownBy_putObj' _ D (.deferred none)) (fun r e => by cases e; exact ⟨_, hK, rfl⟩)
    refine ⟨.tuple #[.int .i64 0, .bool false], by simp [results, Try.f58, go_sem, c8, c9], ?_, hB.trans (belowK_b (w := w) (Nat.le_refl _) _ D _ _ (by simp at hD; omega) hK rfl rfl)⟩
    rw [HVB.out.1, HVB.out.2, HOK.out, if_neg Bool.false_ne_true]
end Go.Proofs.Ytnfdcdoelhanlaa
