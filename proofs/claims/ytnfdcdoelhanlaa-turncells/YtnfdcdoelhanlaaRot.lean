/-
  What turn.Rotate tells.
-/
import Derived.Laws.EntriesVeiled
import Derived.Test.YtnfdcdoelhanlaaAlong
namespace Go.Proofs.Ytnfdcdoelhanlaa
open Go.RowKit
set_option linter.unusedVariables false

theorem rot_val {i n L : Int} (h0 : 0 ≤ i) (h1 : i < L) : (i + n.tmod L + L) % L = (i + n) % L := by
  have e := Int.tmod_add_mul_tdiv n L
  have e2 : i + n.tmod L + L = (i + n) + L * (1 - n.tdiv L) := by
    rw [Int.mul_sub, Int.mul_one]; omega
  rw [e2, Int.add_mul_emod_self_left]
theorem rot_bd {n L : Int} (hL : 0 < L) : -L < n.tmod L ∧ n.tmod L < L := by
  refine ⟨?_, Int.tmod_lt_of_pos n hL⟩
  by_cases hn : 0 ≤ n
  · have := Int.tmod_nonneg L hn; omega
  · have := Int.tmod_lt_of_pos (-n) hL
    rw [Int.neg_tmod] at this
    omega
set_option maxRecDepth 100000 in
set_option maxHeartbeats 1000000 in
theorem rt1_any (n : Int) (p : Nat) (i : Nat) (L : Int) (h : (i : Int) < L) (hL : L ≤ 4096) (w : World) (hn : In64 n) (hc : w.cell? ⟨p, 0, none⟩ = some (.int .i64 n)) :
    Calls Try.prog 26 #[.int .i64 (i : Nat), .int .i64 L, .pointer (some ⟨p, 0, none⟩)] w (fun e w' => e = .returned (.int .i64 ((i + n) % L)) ∧ w' = w) := by
  have hb := rot_bd (n := n) (L := L) (by omega)
  obtain ⟨hb1, hb2⟩ := hb
  have hL0 : L ≠ 0 := by omega
  have hL1 : L ≠ -1 := by omega
  have HV : Hid ((i + n.tmod L + L) % L = (i + n) % L) := rot_val (by omega) h
  obtain ⟨hn1, hn2⟩ := hn
  go_enter Try.func26, Try.ntmps26
  go_wp2_with fail
  go_ret
  exact ⟨ret_int HV.out, rfl⟩
set_option maxRecDepth 100000 in
set_option maxHeartbeats 2000000 in
theorem rt_holds : CRt := by
  intro n x c sa sc sz da dc dz w hn hx h1 h2 hs hd T
  have HI : Hid (IsC w.heap.size w sa sz sc ∧ IsInts w.heap.size w da dz) := ⟨hs, hd⟩
  have HX : Hid (In64 x ∧ In64 n) := ⟨hx, hn⟩
  clear hs hd hx T hn
  obtain ⟨S, hS⟩ : ∃ S, S = axS5 x c sz dz := ⟨_, rfl⟩
  obtain ⟨D, hD⟩ : ∃ D, D = rtD5 x n c sz dz := ⟨_, rfl⟩
  obtain ⟨C, hC⟩ : ∃ C, C = onc (axE x c sz dz) c := ⟨_, rfl⟩
  obtain ⟨E, hE⟩ : ∃ E, E = errV (axE x c sz dz) := ⟨_, rfl⟩
  obtain ⟨W0, hW0⟩ : ∃ W0, W0 = ((w.alloc (.cells #[.int .i64 n] 3)).alloc (.cells #[.bool c, .slice sa sz.length sc, .slice da dz.length dc] 25)).alloc (.cells #[.bool false, .slice none 0 0, .slice none 0 0] 25) := ⟨_, rfl⟩
  have HB0 : Hid (Below w.heap.size w W0) := by rw [hW0]; exact (((Below.refl _ w).alloc (Nat.le_refl _) _).alloc (by simp) _).alloc (by simp; omega) _
  have B0 : Hid (W0.heap[w.heap.size]? = some (.cells #[.int .i64 n] 3 (0, 0))) := by
    rw [hW0]
    exact ((Below.heap_alloc _ _ w.heap.size (by simp; omega)).trans (Below.heap_alloc _ _ w.heap.size (by simp))).trans (MapKept.heap_alloc w _).1
  have P0 : Hid (Abx W0 (w.heap.size + 1) (.bool c) (.slice sa sz.length sc) (.slice da dz.length dc)) := by rw [hW0]; exact (Abx.new1 w _ _ _ _).al _
  have R0 : Hid (Abx W0 (w.heap.size + 1 + 1) (.bool false) (.slice none 0 0) (.slice none 0 0)) := by
    rw [hW0]
    have := Abx.new1 (w.alloc (.cells #[.int .i64 n] 3)) (.cells #[.bool c, .slice sa sz.length sc, .slice da dz.length dc] 25) (.bool false) (.slice none 0 0) (.slice none 0 0)
    rwa [World.size_alloc] at this
  have HZ : Hid (W0.heap.size = w.heap.size + 3) := by show _ = _; rw [hW0]; simp
  have hU := along_any x c sa sc sz da dc dz 26 [.pointer (some ⟨w.heap.size, 0, none⟩)] (enters_of Try.func26 (by kernel_rfl) rfl) (fun i => (i + n) % nth sz x.toNat) HX.out.1 h1 h2 W0 ((HI.out.1.below HB0.out).mono HB0.out.size) ((HI.out.2.below HB0.out).mono HB0.out.size) (fun i h0 h1 => ⟨Int.emod_nonneg _ (by omega), Int.emod_lt_of_pos _ (by omega)⟩)
    (fun i hi hL w' hB => rt1_any n w.heap.size i _ hi hL w' HX.out.2 (by
      have hb : w'.heap[w.heap.size]? = some (.cells #[.int .i64 n] 3 (0, 0)) := (hB.block w.heap.size (by have := HZ.out; omega)).trans B0.out
      simp only [World.cell?, hb]; rfl))
  have hU' : Calls Try.prog 14 #[.int .i64 x, .agg #[.bool c, .slice sa sz.length sc, .slice da dz.length dc], .func (.func 26) #[] #[.pointer (some ⟨w.heap.size, 0, none⟩)]] W0 (UA (axE x c sz dz) C S D W0) := by rw [hS, hD, hC]; exact hU
  unfold UA at hU'
  rw [← hE] at hU'
  have HU : Hid (UA (axE x c sz dz) (onc (axE x c sz dz) c) (axS5 x c sz dz) (rtD5 x n c sz dz) w = UA (axE x c sz dz) C S D w ∧ errV (axE x c sz dz) = E) := by rw [hS, hD, hC, hE]; exact ⟨rfl, rfl⟩
  rw [HU.out.1]
  have p0 := P0.out.c0
  have p1 := P0.out.c1
  have p2 := P0.out.c2
  rw [hW0] at p0 p1 p2
  have HW : Hid (W0 = _) := hW0
  clear hS hD hC hE hU hW0
  go_enter Try.func10, Try.ntmps10
  go_wp2_with fail
  rw [← HW.out]
  refine hU'.mono ?_
  rintro e v1 ⟨xa, xc, ya, yc, rfl, hX, hY, hB⟩
  have HR := R0.out.go hB
  have HB1 : Hid (Below w.heap.size w v1) := HB0.out.trans (hB.mono HB0.out.size)
  have HN : Hid (NewC (w.heap.size + 3) v1 xa S xc ∧ NewInts (w.heap.size + 3) v1 ya D) := by
    rw [HZ.out] at hX hY
    exact ⟨hX, hY⟩
  clear hB hX hY p0 p1 p2 hU'
  have r_0 := HR.c0
  have r_1 := HR.c1
  have r_2 := HR.c2
  have f_0 := HR.fr 0
  have f_1 := HR.fr 1
  have f_2 := HR.fr 2
  go_wp2_with fail
  have FF := HR.set3 (.bool C) (.slice xa S.length xc) (.slice ya D.length yc)
  have q0 := FF.c0
  have q1 := FF.c1
  have q2 := FF.c2
  refine bodyPost_ret (v := .tuple #[.agg #[.bool C, .slice xa S.length xc, .slice ya D.length yc], E]) (by simp [results, Try.results10, go_sem, q0, q1, q2]) rfl ?_
  unfold UA
  rw [HU.out.2]
  exact ⟨xa, xc, ya, yc, rfl, (HN.out.1.set3 (by omega) _ _ _).low (by omega), (HN.out.2.set3 (by omega) _ _ _).low (by omega), bel_set3 HB1.out (by omega) _ _ _⟩
end Go.Proofs.Ytnfdcdoelhanlaa
