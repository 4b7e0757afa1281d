/-
  The program's relation told as an array.
-/
import Derived.BigQuiet
import Derived.Deep.DeepCutAuto
import Derived.Test.YtgaelbgeoobgiabDoorRgd
namespace Go.Proofs.YtgaelbgeoobgiabDoor
open Go.RowKit
set_option linter.unusedVariables false

def bI (x : Bool) : Int := if x = true then 1 else 0
theorem bI_one {x : Bool} : bI x = 1 ↔ x = true := by cases x <;> decide
theorem bI_zero {x : Bool} : bI x = 0 ↔ x = false := by cases x <;> decide
theorem bI_bit (x : Bool) : bI x = 0 ∨ bI x = 1 := by cases x <;> decide
/-- The cells of a relation of n things. -/
def clL (n : Nat) (A : Rl) : List Int := (List.range (n * n)).map fun p => bI (A (p / n) (p % n))
theorem clL_len (n : Nat) (A : Rl) : (clL n A).length = n * n := by simp [clL]
theorem clL_nth {n p : Nat} (A : Rl) (h : p < n * n) : nth (clL n A) p = bI (A (p / n) (p % n)) := by
  rw [nth_get _ _ (by rw [clL_len]; exact h)]
  simp [clL]
theorem clL_at {n i j : Nat} (A : Rl) (hi : i < n) (hj : j < n) : nth (clL n A) (i * n + j) = bI (A i j) := by rw [clL_nth A (row_lt hi hj), row_div hj, row_mod hj]
theorem clL_congr {n : Nat} {A B : Rl} (h : ∀ i, i < n → ∀ j, j < n → A i j = B i j) : clL n A = clL n B := by
  unfold clL
  refine List.map_congr_left fun p hp => ?_
  have := div_row (n := n) (t := p) (by simpa using hp)
  rw [h _ this.1 _ this.2.1]
theorem clL_msk (n : Nat) (A : Rl) : mskB (clL n A) = true := by
  unfold mskB clL
  rw [List.all_eq_true]
  intro x hx
  obtain ⟨p, _, rfl⟩ := List.mem_map.1 hx
  rcases bI_bit (A (p / n) (p % n)) with h | h <;> rw [h] <;> rfl
theorem rdR_clL {n i j : Nat} (A : Rl) (hi : i < n) (hj : j < n) : rdR n (clL n A) i j = A i j := by
  unfold rdR
  rw [if_pos ⟨hi, hj⟩, clL_at A hi hj]
  cases A i j <;> rfl
theorem rdR_at {n i j : Nat} {dz : List Int} (hi : i < n) (hj : j < n) : rdR n dz i j = (nth dz (i * n + j) == 1) := by unfold rdR; rw [if_pos ⟨hi, hj⟩]
theorem clL_rdR {n : Nat} {dz : List Int} (h : dz.length = n * n) (hm : mskB dz = true) : clL n (rdR n dz) = dz := by
  refine List.ext_getElem (by rw [clL_len, h]) fun p h1 h2 => ?_
  rw [← nth_get _ _ h1, ← nth_get _ _ h2, clL_nth _ (by omega)]
  have := div_row (n := n) (t := p) (by omega)
  rw [rdR_at this.1 this.2.1, this.2.2]
  rcases mskB_nth hm h2 with e | e <;> rw [e] <;> rfl
/-- A list that is filled, so far. -/
def fil (D : List Int) (t : Nat) : List Int := D.take t ++ List.replicate (D.length - t) 0
theorem fil_zero (D : List Int) : fil D 0 = List.replicate D.length 0 := by simp [fil]
theorem fil_all (D : List Int) : fil D D.length = D := by simp [fil]
theorem fil_len (D : List Int) {t : Nat} (h : t ≤ D.length) : (fil D t).length = D.length := by simp [fil]; omega
theorem fil_next {D : List Int} {t : Nat} (h : t < D.length) : (fil D t).set t (nth D t) = fil D (t + 1) := by
  unfold fil
  rw [List.set_append_right _ _ (by simp; omega), take_snoc D t h, List.append_assoc]
  congr 1
  rw [show t - (D.take t).length = 0 by simp; omega, show D.length - t = (D.length - (t + 1)) + 1 by omega, List.replicate_succ]
  rfl
theorem fil_skip {D : List Int} {t : Nat} (h : t < D.length) (h0 : nth D t = 0) : fil D t = fil D (t + 1) := by
  unfold fil
  rw [take_snoc D t h, List.append_assoc, h0, show D.length - t = (D.length - (t + 1)) + 1 by omega, List.replicate_succ]
  rfl
theorem MidC.newc {lo hi lo' : Nat} {W : World} {a : Option Addr} {zs : List Int} {cap : Nat} (h : MidC lo hi W a zs cap) (hh : hi ≤ W.heap.size) (hl : lo' ≤ lo) : NewC lo' W a zs cap := ⟨(h.1.new hh).low hl, h.2⟩
/-- An array of n rows. -/
def AnP (n : Nat) (D : List Int) (w : World) (r : Ending) (w' : World) : Prop :=
  ∃ xa ya, r = .returned (.agg #[.bool false, .slice xa 2 2, .slice ya D.length D.length]) ∧ NewC w.heap.size w' xa [(n : Int), (n : Int)] 2 ∧ NewC w.heap.size w' ya D D.length ∧ Below w.heap.size w w'
set_option maxRecDepth 100000 in
set_option maxHeartbeats 2000000 in
theorem rarray_any (n : Nat) (hn : n ≤ 24) (A : Rl) (w : World) :
    Calls Tryd.prog 14 #[.agg (ofr A), .int .i64 (n : Nat)] w (AnP n (clL n A) w) := by
  obtain ⟨D, hD⟩ : ∃ D, D = clL n A := ⟨_, rfl⟩
  obtain ⟨N, hN⟩ : ∃ N, N = n * n := ⟨_, rfl⟩
  have h36 : N ≤ 576 := by have : n * n ≤ 24 * 24 := Nat.mul_le_mul hn hn; omega
  have hmul : (n : Int) * (n : Int) = (N : Int) := by rw [hN]; simp
  have HN : Hid (N = n * n ∧ D.length = N ∧ ∀ p, p < N → nth D p = bI (A (p / n) (p % n))) := ⟨hN, by rw [hD, clL_len, hN], fun p hp => by rw [hD]; exact clL_nth A (by omega)⟩
  rw [← hD]
  clear hN hD
  have hmk := run_make_row' (P := Tryd.prog) 22 3 (.int .i64 0) 8 Tryd.underlying22 Tryd.infoInt rfl .i64 .i64 N (by omega) (by omega)
  go_enter Tryd.func14, Tryd.ntmps14
  go_wp2_with fail
  obtain ⟨w0, HW⟩ : ∃ w0, Hid (w0 = ((w.alloc (.cells (ofr A) 41)).alloc (.cells #[.bool false, .slice none 0 0, .slice none 0 0] 24)).alloc (.cells (madeCells #[.int .i64 0] N) 3)) := ⟨_, rfl⟩
  rw [← HW.out]
  have HQ0 : Hid (Rb w0 w.heap.size A ∧ Abx w0 (w.heap.size + 1) (.bool false) (.slice none 0 0) (.slice none 0 0) ∧ MidC (w.heap.size + 1 + 1) (w.heap.size + 1 + 1 + 1) w0 (some ⟨w.heap.size + 1 + 1, 0, none⟩) (fil D 0) N ∧ Below w.heap.size w w0 ∧ w.heap.size + 1 + 1 + 1 ≤ w0.heap.size) := by
    show _ ∧ _
    rw [HW.out, fil_zero, HN.out.2.1]
    have h3 := zer_mid ((w.alloc (.cells (ofr A) 41)).alloc (.cells #[.bool false, .slice none 0 0, .slice none 0 0] 24)) 3 N
    simp only [World.size_alloc] at h3
    exact ⟨((Rb.new w A).al _).al _, (Abx.new1 w _ _ _ _).al _, h3, (((Below.refl _ w).alloc (Nat.le_refl _) _).alloc (by simp) _).alloc (by simp; omega) _, by simp⟩
  clear hmk HW
  go_loopw [13] (fun i wr => ∃ t : Nat, t ≤ N ∧ i = .int .i64 t ∧ Rb wr w.heap.size A ∧ Abx wr (w.heap.size + 1) (.bool false) (.slice none 0 0) (.slice none 0 0) ∧ MidC (w.heap.size + 1 + 1) (w.heap.size + 1 + 1 + 1) wr (some ⟨w.heap.size + 1 + 1, 0, none⟩) (fil D t) N ∧ Below w.heap.size w wr ∧ w.heap.size + 1 + 1 + 1 ≤ wr.heap.size) (fun i _ => N - (intOf i).toNat)
  case atStart => exact ⟨0, Nat.zero_le _, rfl, HQ0.out⟩
  case round =>
    clear HQ0
    obtain ⟨t, ht, rfl, hQ⟩ := hrel
    have HQ : Hid (Rb wr w.heap.size A ∧ Abx wr (w.heap.size + 1) (.bool false) (.slice none 0 0) (.slice none 0 0) ∧ MidC (w.heap.size + 1 + 1) (w.heap.size + 1 + 1 + 1) wr (some ⟨w.heap.size + 1 + 1, 0, none⟩) (fil D t) N ∧ Below w.heap.size w wr ∧ w.heap.size + 1 + 1 + 1 ≤ wr.heap.size) := hQ
    clear hQ
    by_cases hlt : t < N
    · obtain ⟨d1, d2, d3⟩ := div_row (n := n) (t := t) (by rw [← HN.out.1]; exact hlt)
      obtain ⟨P, hP⟩ : ∃ P, P = t / n := ⟨_, rfl⟩
      obtain ⟨R, hR⟩ : ∃ R, R = t % n := ⟨_, rfl⟩
      have n0 : ¬ n = 0 := by omega
      have hq : (t : Int).tdiv (n : Int) = (P : Int) := by rw [hP]; rfl
      have hr : (t : Int).tmod (n : Int) = (R : Int) := by rw [hR]; rfl
      have HV : Hid (nth D t = bI (A P R)) := by show _ = _; rw [HN.out.2.2 t hlt, hP, hR]
      rw [← hP] at d1
      rw [← hR] at d2
      have P6 : P < 24 := by omega
      have hwp : IntKind.i64.wrap (P : Int) = (P : Int) := by rw [IntWalk.i64_left]; exact w_small (by omega) (by omega)
      have R6 : R < 24 := by omega
      have iP : (P : Int) < 24 := by omega
      have iR : (R : Int) < 24 := by omega
      have c1 := HQ.out.1.cell P6 R6
      obtain ⟨x, hx⟩ : ∃ x, A P R = x := ⟨_, rfl⟩
      rw [hx] at c1 HV
      have hfl : t < (fil D t).length := by rw [fil_len D (by rw [HN.out.2.1]; omega), HN.out.2.1]; exact hlt
      have HFL : Hid (t < (fil D t).length) := hfl
      have HTD : Hid (t < D.length) := by rw [HN.out.2.1]; exact hlt
      clear hP hR d1 d2 d3 hx
      cases x
      · have HQ6 : Hid (∀ k : Nat, Rb (wr.drewN k) w.heap.size A ∧ Abx (wr.drewN k) (w.heap.size + 1) (.bool false) (.slice none 0 0) (.slice none 0 0) ∧ MidC (w.heap.size + 1 + 1) (w.heap.size + 1 + 1 + 1) (wr.drewN k) (some ⟨w.heap.size + 1 + 1, 0, none⟩) (fil D (t + 1)) N ∧ Below w.heap.size w (wr.drewN k) ∧ w.heap.size + 1 + 1 + 1 ≤ (wr.drewN k).heap.size) := fun k => by
          rw [← fil_skip HTD.out HV.out]
          exact ⟨HQ.out.1, HQ.out.2.1, HQ.out.2.2.1, bel_drewN HQ.out.2.2.2.1 k, HQ.out.2.2.2.2⟩
        clear hfl HQ HV
        go_wp2_with fail
        go_quiet (fail)
        go_wp2_with fail
        exact ⟨⟨t + 1, by omega, by go_num, HQ6.out _⟩, by simp [intOf]; omega⟩
      · obtain ⟨b', o', hbo, _, _, c3, f3⟩ := HQ.out.2.2.1.at hfl
        cases hbo
        rw [Nat.zero_add] at c3 f3
        clear hfl
        have HQ6 : Hid (∀ k : Nat, Rb ((wr.drewN k).setCell ⟨w.heap.size + 1 + 1, t, none⟩ (.int .i64 1)) w.heap.size A ∧ Abx ((wr.drewN k).setCell ⟨w.heap.size + 1 + 1, t, none⟩ (.int .i64 1)) (w.heap.size + 1) (.bool false) (.slice none 0 0) (.slice none 0 0) ∧ MidC (w.heap.size + 1 + 1) (w.heap.size + 1 + 1 + 1) ((wr.drewN k).setCell ⟨w.heap.size + 1 + 1, t, none⟩ (.int .i64 1)) (some ⟨w.heap.size + 1 + 1, 0, none⟩) (fil D (t + 1)) N ∧ Below w.heap.size w ((wr.drewN k).setCell ⟨w.heap.size + 1 + 1, t, none⟩ (.int .i64 1)) ∧ w.heap.size + 1 + 1 + 1 ≤ ((wr.drewN k).setCell ⟨w.heap.size + 1 + 1, t, none⟩ (.int .i64 1)).heap.size) := fun k => by
          rw [← fil_next HTD.out, HV.out, show bI true = 1 from rfl]
          exact ⟨HQ.out.1.ot (by show w.heap.size ≠ w.heap.size + 1 + 1; omega) _, HQ.out.2.1.ot (a := ⟨w.heap.size + 1 + 1, t, none⟩) (by show w.heap.size + 1 ≠ w.heap.size + 1 + 1; omega) _, put0 HQ.out.2.2.1 HFL.out _, (bel_drewN HQ.out.2.2.2.1 k).setCell (p := ⟨w.heap.size + 1 + 1, t, none⟩) (by show w.heap.size ≤ w.heap.size + 1 + 1; omega) _, by have := HQ.out.2.2.2.2; simp [World.setCell]; omega⟩
        clear HQ HV
        go_wp2_with fail
        go_quiet (fail)
        go_wp2_with fail
        exact ⟨⟨t + 1, by omega, by go_num, HQ6.out _⟩, by simp [intOf]; omega⟩
    · obtain rfl : t = N := by omega
      have HD : Hid (MidC (w.heap.size + 1 + 1) (w.heap.size + 1 + 1 + 1) wr (some ⟨w.heap.size + 1 + 1, 0, none⟩) D t) := by
        have := HQ.out.2.2.1
        rwa [show t = D.length by rw [HN.out.2.1], fil_all, HN.out.2.1] at this
      have r0 := HQ.out.2.1.al (.cells #[.int .i64 (n : Int), .int .i64 (n : Int)] 3)
      have s0 := r0.c0
      have s1 := r0.c1
      have s2 := r0.c2
      have f0 := r0.fr 0
      have f1 := r0.fr 1
      have f2 := r0.fr 2
      have hsz := HQ.out.2.2.2.2
      go_wp2_with fail
      have FF := r0.set3 (.bool false) (.slice (some ⟨wr.heap.size, 0, none⟩) 2 2) (.slice (some ⟨w.heap.size + 1 + 1, 0, none⟩) t t)
      have q0 := FF.c0
      have q1 := FF.c1
      have q2 := FF.c2
      refine bodyPost_ret (v := .agg #[.bool false, .slice (some ⟨wr.heap.size, 0, none⟩) 2 2, .slice (some ⟨w.heap.size + 1 + 1, 0, none⟩) t t]) (by simp [results, Tryd.results14, go_sem, q0, q1, q2]) rfl ?_
      have hl := (lit_mid wr 3 [(n : Int), (n : Int)] 2 rfl).s3 (b := w.heap.size + 1) (by omega) (.bool false) (.slice (some ⟨wr.heap.size, 0, none⟩) 2 2) (.slice (some ⟨w.heap.size + 1 + 1, 0, none⟩) t t)
      have hm := (HD.out.al HQ.out.2.2.2.2 (.cells #[.int .i64 (n : Int), .int .i64 (n : Int)] 3)).s3 (b := w.heap.size + 1) (by omega) (.bool false) (.slice (some ⟨wr.heap.size, 0, none⟩) 2 2) (.slice (some ⟨w.heap.size + 1 + 1, 0, none⟩) t t)
      exact ⟨some ⟨wr.heap.size, 0, none⟩, some ⟨w.heap.size + 1 + 1, 0, none⟩, by rw [HN.out.2.1], hl.newc (by rw [size_set3]; simp) (by omega), by rw [HN.out.2.1]; exact hm.newc (by rw [size_set3]; simp; omega) (by omega), bel_set3 (HQ.out.2.2.2.1.alloc HQ.out.2.2.2.1.size _) (by omega) _ _ _⟩
end Go.Proofs.YtgaelbgeoobgiabDoor
