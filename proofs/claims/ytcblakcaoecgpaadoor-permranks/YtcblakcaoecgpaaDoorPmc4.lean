/-
  The program's ranks of orders.
-/
import Derived.Laws.Rows
import Derived.Test.YtcblakcaoecgpaaDoorPmr4
namespace Go.Proofs.YtcblakcaoecgpaaDoor
open Go.RowKit
set_option linter.unusedVariables false

theorem zero12 (W : World) : (W.alloc (.cells #[.int .i64 0, .int .i64 0, .int .i64 0, .int .i64 0, .int .i64 0, .int .i64 0, .int .i64 0, .int .i64 0, .int .i64 0, .int .i64 0, .int .i64 0, .int .i64 0] 59)).rowIs W.heap.size 59 12 (fun _ => .int .i64 0) :=
  (block_row (L := [0, 0, 0, 0, 0, 0, 0, 0, 0, 0, 0, 0]) (n := 12) (heap_alloc_new W _) rfl).congr fun j hj => by
    match j, hj with
    | 0, _ | 1, _ | 2, _ | 3, _ | 4, _ | 5, _ | 6, _ | 7, _ | 8, _ | 9, _ | 10, _ | 11, _ => rfl
theorem rest_of {b off cap n t : Nat} {w : World} {p : List Int} (hc : ∀ j, j < p.length → w.cell? ⟨b, off + j, none⟩ = some (.int .i64 (nth p j))) (hn : p.length = n) (hcap : n ≤ cap) (ht : t < n) :
    ∃ o2, (if cap = t + 1 then some (⟨b, off, none⟩ : Addr) else some ⟨b, off + (t + 1), none⟩) = some ⟨b, o2, none⟩ ∧ ∀ j, j < (p.drop (t + 1)).length → w.cell? ⟨b, o2 + j, none⟩ = some (.int .i64 (nth (p.drop (t + 1)) j)) := by
  by_cases h : cap = t + 1
  · refine ⟨off, by rw [if_pos h], fun j hj => ?_⟩
    rw [List.length_drop] at hj
    omega
  · refine ⟨off + (t + 1), by rw [if_neg h], fun j hj => ?_⟩
    rw [List.length_drop] at hj
    rw [nth_drop, Nat.add_assoc]
    exact hc _ (by omega)
set_option maxRecDepth 100000 in
set_option maxHeartbeats 4000000 in
theorem dgo_any (a : Option Addr) (cap : Nat) (p : List Int) (h12 : p.length ≤ 12) (hcap : p.length ≤ cap) (w : World) (hI : IsInts w.heap.size w a p) :
    Calls Tryd.prog 34 #[.slice a p.length cap] w fun r w' => r = .returned (agg (dgL p p.length 0)) ∧ Below w.heap.size w w' := by
  have HI : Hid (IsInts w.heap.size w a p) := hI
  have HD0 : Hid (((w.alloc (.cells #[.int .i64 0, .int .i64 0, .int .i64 0, .int .i64 0, .int .i64 0, .int .i64 0, .int .i64 0, .int .i64 0, .int .i64 0, .int .i64 0, .int .i64 0, .int .i64 0] 59)).alloc (.cells #[.int .i64 0, .int .i64 0, .int .i64 0, .int .i64 0, .int .i64 0, .int .i64 0, .int .i64 0, .int .i64 0, .int .i64 0, .int .i64 0, .int .i64 0, .int .i64 0] 59)).rowIs (w.heap.size + 1) 59 12 (fun j => .int .i64 (nth (dgL p 0 0) j))) := by
    have := zero12 (w.alloc (.cells #[.int .i64 0, .int .i64 0, .int .i64 0, .int .i64 0, .int .i64 0, .int .i64 0, .int .i64 0, .int .i64 0, .int .i64 0, .int .i64 0, .int .i64 0, .int .i64 0] 59))
    rw [World.size_alloc] at this
    exact this.congr fun j _ => by rw [dgL_zero, nth_rep0]
  have HR0 : Hid (((w.alloc (.cells #[.int .i64 0, .int .i64 0, .int .i64 0, .int .i64 0, .int .i64 0, .int .i64 0, .int .i64 0, .int .i64 0, .int .i64 0, .int .i64 0, .int .i64 0, .int .i64 0] 59)).alloc (.cells #[.int .i64 0, .int .i64 0, .int .i64 0, .int .i64 0, .int .i64 0, .int .i64 0, .int .i64 0, .int .i64 0, .int .i64 0, .int .i64 0, .int .i64 0, .int .i64 0] 59)).rowIs w.heap.size 59 12 (fun _ => .int .i64 0)) := (zero12 w).alloc _
  have HB0 : Hid (Below w.heap.size w ((w.alloc (.cells #[.int .i64 0, .int .i64 0, .int .i64 0, .int .i64 0, .int .i64 0, .int .i64 0, .int .i64 0, .int .i64 0, .int .i64 0, .int .i64 0, .int .i64 0, .int .i64 0] 59)).alloc (.cells #[.int .i64 0, .int .i64 0, .int .i64 0, .int .i64 0, .int .i64 0, .int .i64 0, .int .i64 0, .int .i64 0, .int .i64 0, .int .i64 0, .int .i64 0, .int .i64 0] 59))) := ((Below.refl _ w).alloc (Nat.le_refl _) _).alloc (by simp) _
  clear hI
  go_enter Tryd.func34, Tryd.ntmps34
  go_wp2_with fail
  go_loopw [10] (fun i wr => ∃ t : Nat, t ≤ p.length ∧ i = .int .i64 t ∧ wr.rowIs (w.heap.size + 1) 59 12 (fun j => .int .i64 (nth (dgL p t 0) j)) ∧ wr.rowIs w.heap.size 59 12 (fun _ => .int .i64 0) ∧ Below w.heap.size w wr) (fun i _ => p.length - (intOf i).toNat)
  case atStart => exact ⟨0, Nat.zero_le _, rfl, HD0.out, HR0.out, HB0.out⟩
  case round =>
    obtain ⟨t, ht, rfl, hrow, hres, hB⟩ := hrel
    have HRes : Hid (wr.rowIs w.heap.size 59 12 (fun _ => .int .i64 0)) := hres
    have HB : Hid (Below w.heap.size w wr) := hB
    have HRw : Hid (wr.rowIs (w.heap.size + 1) 59 12 (fun j => .int .i64 (nth (dgL p t 0) j))) := hrow
    clear HD0 HR0 HB0
    by_cases hlt : t < p.length
    · obtain ⟨b, off, rfl, hb, hcell⟩ := (HI.out.below hB).at hlt
      have hct := hcell t hlt
      obtain ⟨o2, hif, hrest⟩ := rest_of hcell rfl hcap hlt
      have HC : Hid (∀ W, Below w.heap.size w W → ∀ j, j < p.length - (t + 1) → W.cell? ⟨b, o2 + j, none⟩ = some (.int .i64 (nth (p.drop (t + 1)) j))) := fun W hW j hj => ((hW.cell (p := ⟨b, o2 + j, none⟩) hb).trans (HB.out.cell (p := ⟨b, o2 + j, none⟩) hb).symm).trans (hrest j (by rw [List.length_drop]; exact hj))
      have HLd : Hid ((p.drop (t + 1)).length = p.length - (t + 1)) := List.length_drop
      have HS : Hid (dgL p t (lsN (nth p t) (p.drop (t + 1))) = dgL p (t + 1) 0) := dgL_next p t
      have HIb : Hid (b < w.heap.size) := hb
      clear hcell hrest hrow hres hB
      go_wp2_with fail
      clear hif hct
      generalize p.drop (t + 1) = D at *
      generalize hM : p.length - (t + 1) = M at *
      have hM12 : M ≤ 12 := by omega
      clear hM
      generalize nth p t = N0 at *
      go_loopw [20] (fun i wr => ∃ j : Nat, j ≤ M ∧ i = .int .i64 j ∧ wr.rowIs (w.heap.size + 1) 59 12 (fun q => .int .i64 (nth (dgL p t (lsN N0 (D.take j))) q)) ∧ wr.rowIs w.heap.size 59 12 (fun _ => .int .i64 0) ∧ Below w.heap.size w wr) (fun i _ => M - (intOf i).toNat)
      case atStart => exact ⟨0, Nat.zero_le _, rfl, HRw.out, HRes.out, HB.out⟩
      case round =>
        clear HRes HB HRw
        obtain ⟨j, hj, rfl, hrow, hres, hB⟩ := hrel
        have HRes : Hid (wr.rowIs w.heap.size 59 12 (fun _ => .int .i64 0)) := hres
        have HB : Hid (Below w.heap.size w wr) := hB
        have HRw : Hid (wr.rowIs (w.heap.size + 1) 59 12 (fun q => .int .i64 (nth (dgL p t (lsN N0 (D.take j))) q))) := hrow
        have ht12 : t < 12 := by omega
        by_cases hjl : j < M
        · have hcj := HC.out wr hB j hjl
          have hN := lsN_take_next (x := N0) (l := D) (j := j) (by rw [HLd.out]; exact hjl)
          by_cases hls : nth D j < N0
          · rw [if_pos hls] at hN
            have HN : Hid (lsN N0 (D.take (j + 1)) = lsN N0 (D.take j) + 1) := hN
            have hcd := hrow.cell ht12
            have hfd := hrow.frozen t
            rw [dgL_nth ht12, if_neg (Nat.lt_irrefl t), if_pos rfl] at hcd
            have hcl : lsN N0 (D.take j) ≤ 12 := by have := lsN_le N0 (D.take j); rw [List.length_take] at this; omega
            have hls2 : decide (nth D j < N0) = true := by simpa using hls
            clear hN hrow hres hB
            generalize lsN N0 (D.take j) = C0 at *
            go_wp2_with fail
            refine ⟨⟨j + 1, by omega, by go_num, ?_, HRes.out.setOther (by show w.heap.size ≠ w.heap.size + 1; omega) _, HB.out.setCell (p := ⟨w.heap.size + 1, t, none⟩) (by show w.heap.size ≤ w.heap.size + 1; omega) _⟩, by simp [intOf]; omega⟩
            rw [HN.out, ← dgL_one C0 ht12]
            have := rr_put HRw.out (dgL_length p t C0) ht12 ((C0 + 1 : Nat) : Int)
            exact this
          · rw [if_neg hls] at hN
            have HN : Hid (lsN N0 (D.take (j + 1)) = lsN N0 (D.take j)) := hN
            have hls2 : decide (nth D j < N0) = false := by simpa using hls
            clear hN hrow hres hB
            go_wp2_with fail
            exact ⟨⟨j + 1, by omega, by go_num, by rw [HN.out]; exact HRw.out, HRes.out, HB.out⟩, by simp [intOf]; omega⟩
        · obtain rfl : j = M := by omega
          rw [List.take_of_length_le (by rw [HLd.out]; exact Nat.le_refl _), HS.out] at HRw
          clear hrow hres hB
          go_wp2_with fail
          exact ⟨⟨t + 1, by omega, by go_num, HRw.out, HRes.out, HB.out⟩, by simp [intOf]; omega⟩
    · obtain rfl : t = p.length := by omega
      obtain ⟨x0, x1, x2, x3, x4, x5, x6, x7, x8, x9, x10, x11, hL⟩ := twelve (dgL_length p p.length 0)
      have HL : Hid (dgL p p.length 0 = [x0, x1, x2, x3, x4, x5, x6, x7, x8, x9, x10, x11]) := hL
      rw [hL] at hrow
      clear hL HRw
      have q0 : wr.cell? ⟨w.heap.size + 1, 0, none⟩ = some (.int .i64 x0) := hrow.cell (i := 0) (by decide)
      have q1 : wr.cell? ⟨w.heap.size + 1, 1, none⟩ = some (.int .i64 x1) := hrow.cell (i := 1) (by decide)
      have q2 : wr.cell? ⟨w.heap.size + 1, 2, none⟩ = some (.int .i64 x2) := hrow.cell (i := 2) (by decide)
      have q3 : wr.cell? ⟨w.heap.size + 1, 3, none⟩ = some (.int .i64 x3) := hrow.cell (i := 3) (by decide)
      have q4 : wr.cell? ⟨w.heap.size + 1, 4, none⟩ = some (.int .i64 x4) := hrow.cell (i := 4) (by decide)
      have q5 : wr.cell? ⟨w.heap.size + 1, 5, none⟩ = some (.int .i64 x5) := hrow.cell (i := 5) (by decide)
      have q6 : wr.cell? ⟨w.heap.size + 1, 6, none⟩ = some (.int .i64 x6) := hrow.cell (i := 6) (by decide)
      have q7 : wr.cell? ⟨w.heap.size + 1, 7, none⟩ = some (.int .i64 x7) := hrow.cell (i := 7) (by decide)
      have q8 : wr.cell? ⟨w.heap.size + 1, 8, none⟩ = some (.int .i64 x8) := hrow.cell (i := 8) (by decide)
      have q9 : wr.cell? ⟨w.heap.size + 1, 9, none⟩ = some (.int .i64 x9) := hrow.cell (i := 9) (by decide)
      have q10 : wr.cell? ⟨w.heap.size + 1, 10, none⟩ = some (.int .i64 x10) := hrow.cell (i := 10) (by decide)
      have q11 : wr.cell? ⟨w.heap.size + 1, 11, none⟩ = some (.int .i64 x11) := hrow.cell (i := 11) (by decide)
      have r0 := hres.cell (i := 0) (by decide)
      have rf0 := hres.frozen 0
      have r1 := hres.cell (i := 1) (by decide)
      have rf1 := hres.frozen 1
      have r2 := hres.cell (i := 2) (by decide)
      have rf2 := hres.frozen 2
      have r3 := hres.cell (i := 3) (by decide)
      have rf3 := hres.frozen 3
      have r4 := hres.cell (i := 4) (by decide)
      have rf4 := hres.frozen 4
      have r5 := hres.cell (i := 5) (by decide)
      have rf5 := hres.frozen 5
      have r6 := hres.cell (i := 6) (by decide)
      have rf6 := hres.frozen 6
      have r7 := hres.cell (i := 7) (by decide)
      have rf7 := hres.frozen 7
      have r8 := hres.cell (i := 8) (by decide)
      have rf8 := hres.frozen 8
      have r9 := hres.cell (i := 9) (by decide)
      have rf9 := hres.frozen 9
      have r10 := hres.cell (i := 10) (by decide)
      have rf10 := hres.frozen 10
      have r11 := hres.cell (i := 11) (by decide)
      have rf11 := hres.frozen 11
      clear hrow hres hB
      go_wp2_with fail
      refine bodyPost_ret (v := .agg #[.int .i64 x0, .int .i64 x1, .int .i64 x2, .int .i64 x3, .int .i64 x4, .int .i64 x5, .int .i64 x6, .int .i64 x7, .int .i64 x8, .int .i64 x9, .int .i64 x10, .int .i64 x11]) ?_ rfl ⟨by rw [HL.out]; rfl, ?_⟩
      · exact results_cell_row rfl _ _ w.heap.size 59 _ (0, 0) _ rfl (put12 HRes.out (.int .i64 x0) (.int .i64 x1) (.int .i64 x2) (.int .i64 x3) (.int .i64 x4) (.int .i64 x5) (.int .i64 x6) (.int .i64 x7) (.int .i64 x8) (.int .i64 x9) (.int .i64 x10) (.int .i64 x11)) Tryd.underlying59 rfl (by kernel_rfl)
      · exact bel12 HB.out (Nat.le_refl _) (.int .i64 x0) (.int .i64 x1) (.int .i64 x2) (.int .i64 x3) (.int .i64 x4) (.int .i64 x5) (.int .i64 x6) (.int .i64 x7) (.int .i64 x8) (.int .i64 x9) (.int .i64 x10) (.int .i64 x11)
set_option maxRecDepth 100000 in
set_option maxHeartbeats 2000000 in
theorem rkd_any (p : List Int) (h12 : p.length ≤ 12) (w : World) :
    Calls Tryd.prog 35 #[agg (dgL p p.length 0), .int .i64 (p.length : Nat)] w fun r w' => r = .returned (.int .i64 (rk p : Nat)) ∧ Below w.heap.size w w' := by
  obtain ⟨x0, x1, x2, x3, x4, x5, x6, x7, x8, x9, x10, x11, hL⟩ := twelve (dgL_length p p.length 0)
  have HL : Hid (dgL p p.length 0 = [x0, x1, x2, x3, x4, x5, x6, x7, x8, x9, x10, x11]) := hL
  have e : agg (dgL p p.length 0) = .agg #[.int .i64 x0, .int .i64 x1, .int .i64 x2, .int .i64 x3, .int .i64 x4, .int .i64 x5, .int .i64 x6, .int .i64 x7, .int .i64 x8, .int .i64 x9, .int .i64 x10, .int .i64 x11] := by rw [hL]; rfl
  rw [e]
  have HR : Hid ((w.alloc (.cells #[.int .i64 x0, .int .i64 x1, .int .i64 x2, .int .i64 x3, .int .i64 x4, .int .i64 x5, .int .i64 x6, .int .i64 x7, .int .i64 x8, .int .i64 x9, .int .i64 x10, .int .i64 x11] 59)).rowIs w.heap.size 59 12 (fun j => .int .i64 (nth (dgL p p.length 0) j))) := by
    rw [hL]
    exact block_row (L := [x0, x1, x2, x3, x4, x5, x6, x7, x8, x9, x10, x11]) (n := 12) (heap_alloc_new w _) rfl
  have HB : Hid (Below w.heap.size w (w.alloc (.cells #[.int .i64 x0, .int .i64 x1, .int .i64 x2, .int .i64 x3, .int .i64 x4, .int .i64 x5, .int .i64 x6, .int .i64 x7, .int .i64 x8, .int .i64 x9, .int .i64 x10, .int .i64 x11] 59))) := (Below.refl _ w).alloc (Nat.le_refl _) _
  clear e hL
  go_enter Tryd.func35, Tryd.ntmps35
  go_wp2_with fail
  generalize w.alloc (.cells #[.int .i64 x0, .int .i64 x1, .int .i64 x2, .int .i64 x3, .int .i64 x4, .int .i64 x5, .int .i64 x6, .int .i64 x7, .int .i64 x8, .int .i64 x9, .int .i64 x10, .int .i64 x11] 59) = V at *
  go_loop [5, 8] (fun k i => ∃ t : Nat, t ≤ p.length ∧ i = .int .i64 t ∧ k = .int .i64 (rkT p t : Nat)) (fun _ i => p.length - (intOf i).toNat)
  case atStart => exact ⟨0, Nat.zero_le _, rfl, rfl⟩
  case round =>
    obtain ⟨t, ht, rfl, rfl⟩ := hrel
    by_cases hlt : t < p.length
    · have hc := HR.out.cell (i := t) (by omega)
      rw [dgL_nth (by omega), if_pos hlt] at hc
      have h1 := rkT_small h12 ht
      have h2 := rkT_small h12 (i := t + 1) hlt
      have h3 := dgN_small h12 t
      obtain ⟨q, hq⟩ : ∃ q : Nat, q = p.length - t := ⟨_, rfl⟩
      have e1 : IntKind.i64.wrap ((p.length : Int) - (t : Int)) = (q : Int) := by rw [IntWalk.i64_in _ (by omega)]; omega
      obtain ⟨m, hm⟩ : ∃ m : Nat, m = rkT p t * q := ⟨_, rfl⟩
      have e4 : rkT p (t + 1) = m + dgN p t := by rw [hm, hq]; rfl
      have e2 : IntKind.i64.wrap ((rkT p t : Int) * (q : Int)) = (m : Int) := by rw [hm, ← Int.natCast_mul, ← hm]; exact IntWalk.i64_in _ (by omega)
      have e3 : IntKind.i64.wrap ((m : Int) + (dgN p t : Int)) = (rkT p (t + 1) : Int) := by rw [e4, Int.natCast_add]; exact IntWalk.i64_in _ (by omega)
      clear hq hm e4 h2 h3
      generalize hR1 : rkT p (t + 1) = R1 at *
      have HR1 : Hid (rkT p (t + 1) = R1) := hR1
      clear hR1
      generalize rkT p t = R0 at *
      generalize dgN p t = G0 at *
      go_wp2_with fail
      go_round
      case rel => exact ⟨t + 1, by omega, by go_num, by rw [HR1.out]⟩
      case measure => simp [intOf]; omega
    · obtain rfl : t = p.length := by omega
      have HF : Hid (rkT p p.length = rk p) := rkT_all p
      go_wp2_with fail
      go_ret
      exact ⟨by rw [← HF.out]; rfl, HB.out⟩
set_option maxRecDepth 100000 in
set_option maxHeartbeats 2000000 in
theorem pr_holds : CPr := by
  intro a cap p w hl hIC h64
  obtain ⟨hI, hcap⟩ := hIC
  by_cases he : orE p = 0
  · have hC := pc_ok a cap p w hl hI h64 he
    by_cases h12 : p.length ≤ 12
    · have HE : Hid (rkE p = 0) := rkE_zero.2 ⟨he, h12⟩
      have HI : Hid (IsInts w.heap.size w a p) := hI
      have hd : ¬ (12 : Int) < (p.length : Int) := by omega
      clear hI h64 he
      go_enter Tryd.func24, Tryd.ntmps24
      go_wp2_with fail
      refine hC.mono ?_
      rintro e w1 ⟨rfl, hB⟩
      clear hC
      have HB : Hid (Below w.heap.size w w1) := hB
      clear hB
      go_wp2_with fail
      refine (dgo_any a cap p h12 hcap w1 ((HI.out.below HB.out).mono HB.out.size)).mono ?_
      rintro e w2 ⟨rfl, hB2⟩
      have HB2 : Hid (Below w.heap.size w w2) := HB.out.trans (hB2.mono HB.out.size)
      clear hB2 HB
      have hC2 := rkd_any p h12 w2
      generalize agg (dgL p p.length 0) = G at *
      go_wp2_with fail
      refine hC2.mono ?_
      rintro e w3 ⟨rfl, hB3⟩
      clear hC2
      go_wp2_with fail
      go_ret2
      exact UZ.mkok HE.out (HB2.out.trans (hB3.mono HB2.out.size))
    · have HE : Hid (rkE p = 7) := by show _ = _; unfold rkE; rw [if_neg (not_not_intro he), if_pos (by omega)]
      have hd : (12 : Int) < (p.length : Int) := by omega
      clear hI h64 he
      go_enter Tryd.func24, Tryd.ntmps24
      go_wp2_with fail
      refine hC.mono ?_
      rintro e w1 ⟨rfl, hB⟩
      clear hC
      go_wp2_with fail
      go_ret2
      exact UZ.mkno HE.out (by decide) hB
  · have hC := pc_no a cap p w hl hI h64 he
    have HE : Hid (rkE p = orE p ∧ orE p ≠ 0) := ⟨by unfold rkE; rw [if_pos he], he⟩
    clear hI h64 he
    generalize orE p = e0 at *
    go_enter Tryd.func24, Tryd.ntmps24
    go_wp2_with fail
    refine hC.mono ?_
    rintro e w1 ⟨rfl, hB⟩
    go_wp2_with fail
    go_ret2
    exact UZ.mkno HE.out.1 HE.out.2 hB
end Go.Proofs.YtcblakcaoecgpaaDoor
