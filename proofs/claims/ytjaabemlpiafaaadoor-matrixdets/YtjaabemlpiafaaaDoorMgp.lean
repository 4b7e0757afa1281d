/-
  The program's powers of a matrix, and what makes 1 with an odd number.
-/
import Derived.Test.YtjaabemlpiafaaaDoorMgt
namespace Go.Proofs.YtjaabemlpiafaaaDoor
open Go.RowKit
set_option linter.unusedVariables false

/-- A power of n rows, with 0 elsewhere. -/
def pwg (n : Nat) (A : Mx) (e : Nat) : Mx := fun i j => if i < n ∧ j < n then wrap64 (pwM n A e i j) else 0
theorem sm_upto {n : Nat} (hn : n ≤ 6) {g : Nat → Int} (h : ∀ k, n ≤ k → g k = 0) : sm 6 g = sm n g := by
  obtain ⟨d, hd⟩ : ∃ d, 6 = n + d := ⟨6 - n, by omega⟩
  rw [hd, sm_app, sm_zero (n := d) (g := fun i => g (n + i)) fun i _ => h _ (by omega), Int.add_zero]
theorem pwg_mul {n : Nat} (hn : n ≤ 6) (A : Mx) (e f : Nat) : ∀ i, i < 6 → ∀ j, j < 6 → tmg (pwg n A e) (pwg n A f) i j = pwg n A (e + f) i j := fun i hi j hj => by
  unfold tmg
  rw [sm_upto hn (g := fun k => pwg n A e i k * pwg n A f k j) fun k hk => by show pwg n A e i k * _ = 0; unfold pwg; rw [if_neg (by omega), Int.zero_mul]]
  by_cases h : i < n ∧ j < n
  · rw [show pwg n A (e + f) i j = wrap64 (pwM n A (e + f) i j) from if_pos h, ← pwM_add n A e f i h.1 j h.2]
    exact cg.sm fun k hk => by
      rw [show pwg n A e i k = wrap64 (pwM n A e i k) from if_pos ⟨h.1, hk⟩, show pwg n A f k j = wrap64 (pwM n A f k j) from if_pos ⟨hk, h.2⟩]
      exact cg.mul (cg_w _) (cg_w _)
  · rw [show pwg n A (e + f) i j = 0 from if_neg h, sm_zero fun k hk => by
      unfold pwg
      by_cases hi' : i < n
      · rw [if_neg (show ¬ (k < n ∧ j < n) by omega), Int.mul_zero]
      · rw [if_neg (show ¬ (i < n ∧ k < n) by omega), Int.zero_mul]]
    exact w_small (by decide) (by decide)
theorem pwg_zero (n : Nat) (A : Mx) : pwg n A 0 = ung n := by
  funext i j
  unfold pwg ung
  show (if i < n ∧ j < n then wrap64 (un i j) else 0) = _
  by_cases h : i = j ∧ i < n
  · rw [if_pos h, if_pos (by omega), h.1]
    show wrap64 (one j j) = 1
    rw [one_at]
    exact w_small (by decide) (by decide)
  · rw [if_neg h]
    by_cases h2 : i < n ∧ j < n
    · rw [if_pos h2]
      show wrap64 (one i j) = 0
      rw [one_ne (by omega)]
      exact w_small (by decide) (by decide)
    · rw [if_neg h2]
set_option maxRecDepth 100000 in
set_option maxHeartbeats 2000000 in
theorem gpower_any (n : Nat) (hn : n ≤ 6) (A : Mx) (hA : ∀ i, i < 6 → ∀ j, j < 6 → A i j = pwg n A 1 i j) (k : Nat) (hk : k ≤ 9223372036854775807) (w : World) :
    Calls Tryd.prog 36 #[.agg (ofg A), .int .i64 (n : Nat), .int .i64 (k : Nat)] w fun e w' => e = .returned (.agg (ofg (pwg n A k))) ∧ Below w.heap.size w w' := by
  obtain ⟨w0, hw0⟩ : ∃ w0, w0 = (w.alloc (.cells (ofg A) 52)).alloc (.cells (ofg fun _ _ => 0) 52) := ⟨_, rfl⟩
  have HQ0 : Hid (Gb w0 w.heap.size (pwg n A 1) ∧ Gb w0 (w.heap.size + 1) (fun _ _ => 0) ∧ Below w.heap.size w w0) := by
    show _ ∧ _
    rw [hw0]
    have h1 := Gb.new (w.alloc (.cells (ofg A) 52)) fun _ _ => 0
    rw [World.size_alloc] at h1
    exact ⟨((Gb.new w A).al _).congr hA, h1, ((Below.refl _ w).alloc (Nat.le_refl _) _).alloc (by simp) _⟩
  have HM : Hid (∀ e f, ∀ i, i < 6 → ∀ j, j < 6 → tmg (pwg n A e) (pwg n A f) i j = pwg n A (e + f) i j) := pwg_mul hn A
  go_enter Tryd.func36, Tryd.ntmps36
  go_wp2_with fail
  rw [ofg_zero, ← hw0]
  refine (unit_any n hn w0).mono ?_
  rintro e y1 ⟨rfl, hB1⟩
  rw [← pwg_zero n A]
  have hsz : w0.heap.size = w.heap.size + 1 + 1 := by rw [hw0]; simp
  clear hw0 hA
  have hs1 : w.heap.size + 1 + 1 ≤ y1.heap.size := by have := hB1.size; omega
  have HQ1 : Hid (Gb y1 w.heap.size (pwg n A 1) ∧ Gb y1 (w.heap.size + 1) (fun _ _ => 0) ∧ Below w.heap.size w y1) := ⟨HQ0.out.1.go hB1, HQ0.out.2.1.go hB1, HQ0.out.2.2.trans (hB1.mono HQ0.out.2.2.size)⟩
  clear HQ0 hB1 hsz
  go_wp2_with (refine wpl_stg y1.heap.size _ (pwg n A 0) _ _ (Gb.new0 y1) rfl rfl rfl rfl rfl ?_)
  obtain ⟨w2, hw2⟩ : ∃ w2, w2 = World.setRow (y1.alloc (.cells #[.int .i64 0, .int .i64 0, .int .i64 0, .int .i64 0, .int .i64 0, .int .i64 0, .int .i64 0, .int .i64 0, .int .i64 0, .int .i64 0, .int .i64 0, .int .i64 0, .int .i64 0, .int .i64 0, .int .i64 0, .int .i64 0, .int .i64 0, .int .i64 0, .int .i64 0, .int .i64 0, .int .i64 0, .int .i64 0, .int .i64 0, .int .i64 0, .int .i64 0, .int .i64 0, .int .i64 0, .int .i64 0, .int .i64 0, .int .i64 0, .int .i64 0, .int .i64 0, .int .i64 0, .int .i64 0, .int .i64 0, .int .i64 0] 52)) y1.heap.size (ofg (pwg n A 0)) := ⟨_, rfl⟩
  rw [← hw2]
  obtain ⟨b7, hb7⟩ : ∃ b, b = y1.heap.size := ⟨_, rfl⟩
  rw [← hb7] at hw2 hs1 ⊢
  have HQ2 : Hid (Gb w2 w.heap.size (pwg n A 1) ∧ Gb w2 (w.heap.size + 1) (fun _ _ => 0) ∧ Gb w2 b7 (pwg n A 0) ∧ Below w.heap.size w w2) := by
    show _ ∧ _
    rw [hw2]
    exact ⟨(HQ1.out.1.al _).oth (by omega), (HQ1.out.2.1.al _).oth (by omega), by have := Gb.new0 y1; rw [← hb7] at this; exact this.row, bel_row (HQ1.out.2.2.alloc HQ1.out.2.2.size _) (by omega)⟩
  clear hw2 HQ1 hb7
  go_loopw [2] (fun q wr => ∃ e p j : Nat, j ≤ 9223372036854775807 ∧ q = .int .i64 j ∧ e + p * j = k ∧ Gb wr w.heap.size (pwg n A p) ∧ Gb wr (w.heap.size + 1) (fun _ _ => 0) ∧ Gb wr b7 (pwg n A e) ∧ Below w.heap.size w wr) (fun q _ => (intOf q).toNat)
  case atStart => exact ⟨0, 1, k, hk, rfl, by omega, HQ2.out⟩
  case round =>
    clear HQ2
    obtain ⟨e, p, j, hj, rfl, hek, hQ⟩ := hrel
    have HQ : Hid (Gb wr w.heap.size (pwg n A p) ∧ Gb wr (w.heap.size + 1) (fun _ _ => 0) ∧ Gb wr b7 (pwg n A e) ∧ Below w.heap.size w wr) := hQ
    have HE : Hid (e + p * j = k) := hek
    clear hQ hek
    by_cases h0 : j = 0
    · subst h0
      obtain rfl : e = k := by have := HE.out; rw [Nat.mul_zero] at this; omega
      have HR : Hid (Gb (wr.setRow (w.heap.size + 1) (ofg (pwg n A e))) (w.heap.size + 1) (pwg n A e)) := HQ.out.2.1.row
      go_wp2_with (first | refine wpl_ldg b7 (pwg n A e) _ HQ.out.2.2.1 rfl rfl rfl ?_ | refine wpl_stg (w.heap.size + 1) _ (pwg n A e) _ _ HQ.out.2.1 rfl rfl rfl rfl rfl ?_)
      refine bodyPost_ret (v := .agg (ofg (pwg n A e))) ?_ rfl ⟨rfl, bel_row HQ.out.2.2.2 (by omega)⟩
      exact results_cell_row rfl _ _ (w.heap.size + 1) 52 _ (0, 0) _ rfl HR.out Tryd.underlying52 rfl (by rw [ofg_size]; exact Tryd.infoG)
    · have hpos : (0 : Int) < (j : Int) := by omega
      by_cases ho : j % 2 = 1
      · have tb : (Go.bits .and .i64 (j : Int) 1 == 1) = true := by rw [band1]; simp; omega
        go_wp2_with (first | refine wpl_ldg b7 (pwg n A e) _ HQ.out.2.2.1 rfl rfl rfl ?_ | refine wpl_ldg w.heap.size (pwg n A p) _ HQ.out.1 rfl rfl rfl ?_)
        refine (times_any (pwg n A e) (pwg n A p) _).mono ?_
        rintro e' y1 ⟨rfl, hB1⟩
        rw [ofg_congr (HM.out e p)]
        obtain ⟨y2, HY⟩ : ∃ y2, Hid (y2 = World.setRow y1 b7 (ofg (pwg n A (e + p)))) := ⟨_, rfl⟩
        have G7 : Hid (Gb y1 b7 (pwg n A e)) := HQ.out.2.2.1.go hB1
        have HQ2 : Hid (Gb y2 w.heap.size (pwg n A p) ∧ Gb y2 (w.heap.size + 1) (fun _ _ => 0) ∧ Gb y2 b7 (pwg n A (e + p)) ∧ Below w.heap.size w y2) := by
          show _ ∧ _
          rw [HY.out]
          exact ⟨(HQ.out.1.go hB1).oth (by omega), (HQ.out.2.1.go hB1).oth (by omega), G7.out.row, bel_row (HQ.out.2.2.2.trans (hB1.mono HQ.out.2.2.2.size)) (by omega)⟩
        clear HQ hB1
        have HE2 : Hid (e + p + (p + p) * (j / 2) = k) := by
          show _ = _
          rw [← HE.out, Nat.add_mul]
          have : p * j = p * (2 * (j / 2) + 1) := by rw [show 2 * (j / 2) + 1 = j by omega]
          rw [this, Nat.mul_add, Nat.mul_one, show p * (2 * (j / 2)) = p * (j / 2) + p * (j / 2) by rw [← Nat.mul_add]; congr 1; omega]
          omega
        clear HE
        generalize e + p = e at *
        go_wp2_with (first | (refine wpl_stg b7 _ (pwg n A e) _ _ G7.out rfl rfl rfl rfl rfl ?_; rw [← HY.out]) | refine wpl_ldg w.heap.size (pwg n A p) _ HQ2.out.1 rfl rfl rfl ?_)
        clear HY G7
        refine (times_any (pwg n A p) (pwg n A p) _).mono ?_
        rintro e' y3 ⟨rfl, hB3⟩
        rw [ofg_congr (HM.out p p)]
        have HQ3 : Hid (Gb y3 w.heap.size (pwg n A p) ∧ Gb y3 (w.heap.size + 1) (fun _ _ => 0) ∧ Gb y3 b7 (pwg n A e) ∧ Below w.heap.size w y3) := ⟨HQ2.out.1.go hB3, HQ2.out.2.1.go hB3, HQ2.out.2.2.1.go hB3, HQ2.out.2.2.2.trans (hB3.mono HQ2.out.2.2.2.size)⟩
        clear HQ2 hB3
        obtain ⟨J, hJ⟩ : ∃ J, J = j / 2 := ⟨_, rfl⟩
        have hsh : (j : Int).fdiv (2 ^ min (Int.toNat 1) IntKind.i64.bits) = (J : Int) := by
          show (j : Int).fdiv 2 = _
          rw [Int.fdiv_eq_ediv_of_nonneg _ (by decide), hJ]
          omega
        have HJ : Hid (J = j / 2) := hJ
        clear hJ
        go_wp2_with (refine wpl_stg w.heap.size _ (pwg n A (p + p)) _ _ HQ3.out.1 rfl rfl rfl rfl rfl ?_)
        have hJ := HJ.out
        refine ⟨⟨e, p + p, J, by omega, congrArg (Value.int .i64) (by omega), by rw [hJ]; exact HE2.out, HQ3.out.1.row, HQ3.out.2.1.oth (by omega), HQ3.out.2.2.1.oth (by omega), bel_row HQ3.out.2.2.2 (Nat.le_refl _)⟩, by simp [intOf]; omega⟩
      · have tb : (Go.bits .and .i64 (j : Int) 1 == 1) = false := by rw [band1]; simp; omega
        have HE2 : Hid (e + (p + p) * (j / 2) = k) := by
          show _ = _
          rw [← HE.out, Nat.add_mul]
          have : p * j = p * (2 * (j / 2)) := by rw [show 2 * (j / 2) = j by omega]
          rw [this, show p * (2 * (j / 2)) = p * (j / 2) + p * (j / 2) by rw [← Nat.mul_add]; congr 1; omega]
        obtain ⟨y2, hy2⟩ : ∃ y2, y2 = wr := ⟨_, rfl⟩
        rw [← hy2] at HQ ⊢
        have HQ2 : Hid (Gb y2 w.heap.size (pwg n A p) ∧ Gb y2 (w.heap.size + 1) (fun _ _ => 0) ∧ Gb y2 b7 (pwg n A e) ∧ Below w.heap.size w y2) := HQ.out
        clear HQ HE hy2
        go_wp2_with (refine wpl_ldg w.heap.size (pwg n A p) _ HQ2.out.1 rfl rfl rfl ?_)
        refine (times_any (pwg n A p) (pwg n A p) _).mono ?_
        rintro e' y3 ⟨rfl, hB3⟩
        rw [ofg_congr (HM.out p p)]
        have HQ3 : Hid (Gb y3 w.heap.size (pwg n A p) ∧ Gb y3 (w.heap.size + 1) (fun _ _ => 0) ∧ Gb y3 b7 (pwg n A e) ∧ Below w.heap.size w y3) := ⟨HQ2.out.1.go hB3, HQ2.out.2.1.go hB3, HQ2.out.2.2.1.go hB3, HQ2.out.2.2.2.trans (hB3.mono HQ2.out.2.2.2.size)⟩
        clear HQ2 hB3
        obtain ⟨J, hJ⟩ : ∃ J, J = j / 2 := ⟨_, rfl⟩
        have hsh : (j : Int).fdiv (2 ^ min (Int.toNat 1) IntKind.i64.bits) = (J : Int) := by
          show (j : Int).fdiv 2 = _
          rw [Int.fdiv_eq_ediv_of_nonneg _ (by decide), hJ]
          omega
        have HJ : Hid (J = j / 2) := hJ
        clear hJ
        go_wp2_with (refine wpl_stg w.heap.size _ (pwg n A (p + p)) _ _ HQ3.out.1 rfl rfl rfl rfl rfl ?_)
        have hJ := HJ.out
        refine ⟨⟨e, p + p, J, by omega, congrArg (Value.int .i64) (by omega), by rw [hJ]; exact HE2.out, HQ3.out.1.row, HQ3.out.2.1.oth (by omega), HQ3.out.2.2.1.oth (by omega), bel_row HQ3.out.2.2.2 (Nat.le_refl _)⟩, by simp [intOf]; omega⟩
/-- What makes 1 with an odd number, step by step. -/
def rcI (d : Int) : Nat → Int
  | 0 => d
  | i + 1 => wrap64 (rcI d i * wrap64 (2 - wrap64 (d * rcI d i)))
def rcU (d : Int) : Nat → Int
  | 0 => d
  | i + 1 => rcU d i * (2 - d * rcU d i)
theorem rc_cg (d : Int) : ∀ i, cg (rcI d i) (rcU d i)
  | 0 => rfl
  | i + 1 => (cg_w _).trans (cg.mul (rc_cg d i) ((cg_w _).trans (cg.sub (cg.rfl' 2) ((cg_w _).trans (cg.mul (cg.rfl' d) (rc_cg d i))))))
theorem rc_step (d x e : Int) (h : d * x = 1 + e) : d * (x * (2 - d * x)) = 1 + -(e * e) := by
  rw [← Int.mul_assoc, h]
  grind
theorem rc_sq {d : Int} {m n : Nat} {x : Int} (h : ∃ q, d * x = 1 + 2 ^ m * q) (hn : n = m + m) : ∃ q, d * (x * (2 - d * x)) = 1 + 2 ^ n * q := by
  obtain ⟨q, hq⟩ := h
  refine ⟨-(q * q), ?_⟩
  rw [rc_step d x _ hq, hn, Int.pow_add]
  grind
theorem rc_odd {d : Int} (hd : d % 2 = 1) : cg (rcI d 5 * d) 1 := by
  have h0 : ∃ q, d * rcU d 0 = 1 + 2 ^ 3 * q := by
    obtain ⟨t, ht⟩ : ∃ t, d = 2 * t + 1 := ⟨d / 2, by omega⟩
    obtain ⟨s, hs⟩ : ∃ s, t * (t + 1) = 2 * s := by
      have : t % 2 = 0 ∨ t % 2 = 1 := by omega
      rcases this with h | h
      · refine ⟨t / 2 * (t + 1), ?_⟩
        rw [← Int.mul_assoc, show 2 * (t / 2) = t by omega]
      · refine ⟨t * ((t + 1) / 2), ?_⟩
        rw [show 2 * (t * ((t + 1) / 2)) = t * (2 * ((t + 1) / 2)) by grind, show 2 * ((t + 1) / 2) = t + 1 by omega]
    refine ⟨s, ?_⟩
    show d * d = _
    rw [ht]
    grind
  have h1 : ∃ q, d * rcU d 1 = 1 + 2 ^ 6 * q := rc_sq h0 rfl
  have h2 : ∃ q, d * rcU d 2 = 1 + 2 ^ 12 * q := rc_sq h1 rfl
  have h3 : ∃ q, d * rcU d 3 = 1 + 2 ^ 24 * q := rc_sq h2 rfl
  have h4 : ∃ q, d * rcU d 4 = 1 + 2 ^ 48 * q := rc_sq h3 rfl
  obtain ⟨q, h5⟩ : ∃ q, d * rcU d 5 = 1 + 2 ^ 96 * q := rc_sq h4 rfl
  refine (cg.mul (rc_cg d 5) (cg.rfl' d)).trans (cg_one ⟨2 ^ 32 * q, ?_⟩)
  rw [Int.mul_comm, h5, ← Int.mul_assoc, ← Int.pow_add]
  omega
set_option maxHeartbeats 2000000 in
theorem reciprocal_any (d : Int) (w : World) : Calls Tryd.prog 39 #[.int .i64 d] w fun e w' => e = .returned (.int .i64 (rcI d 5)) ∧ w' = w := by
  go_enter Tryd.func39, Tryd.ntmps39
  go_wp2_with fail
  go_loopw [3, 5] (fun x i wr => ∃ t : Nat, t ≤ 5 ∧ i = .int .i64 t ∧ x = .int .i64 (rcI d t) ∧ wr = w) (fun _ i _ => 5 - (intOf i).toNat)
  case atStart => exact ⟨0, Nat.zero_le _, rfl, rfl, rfl⟩
  case round =>
    obtain ⟨t, ht, rfl, rfl, rfl⟩ := hrel
    have HS : Hid (wrap64 (rcI d t * wrap64 (2 - wrap64 (d * rcI d t))) = rcI d (t + 1)) := rfl
    by_cases hlt : t < 5
    · generalize rcI d t = X at *
      go_wp2_with fail
      exact ⟨⟨t + 1, by omega, by go_num, by rw [← HS.out], trivial⟩, by simp [intOf]; omega⟩
    · obtain rfl : t = 5 := by omega
      go_wp2_with fail
      go_ret
      exact ⟨rfl, rfl⟩
end Go.Proofs.YtjaabemlpiafaaaDoor
