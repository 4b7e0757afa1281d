/-
  What the reference tells of a quotient that is cut downward, digit by digit.
-/
import Derived.Test.YtmbgomljofngnaaDoorRbit
namespace Go.Proofs.YtmbgomljofngnaaDoor
open Go.RowKit
set_option linter.unusedVariables false

theorem abs_neg {a : Int} (ha : In64 a) (h : a < 0) : IntKind.u64.wrap (-IntKind.u64.wrap a) = (a.natAbs : Int) := by
  unfold In64 at ha
  rw [IntKind.wrap_u64, IntKind.wrap_u64]
  omega
theorem abs_pos {a : Int} (ha : In64 a) (h : ¬ a < 0) : IntKind.u64.wrap a = (a.natAbs : Int) := by
  unfold In64 at ha
  rw [IntKind.wrap_u64]
  omega
theorem abs_le {a : Int} (ha : In64 a) : a.natAbs ≤ 9223372036854775808 := by unfold In64 at ha; omega
/-- How far the division has come: behind the digits above place z. -/
def Dv (X Y : Nat) (z q r : Int) : Prop := q = ((X / 2 ^ (z + 1).toNat / Y * 2 ^ (z + 1).toNat : Nat) : Int) ∧ r = ((X / 2 ^ (z + 1).toNat % Y : Nat) : Int)
theorem Dv.start {X Y : Nat} (hX : X ≤ 9223372036854775808) : Dv X Y 63 0 0 := by
  have h : X / 2 ^ ((63 : Int) + 1).toNat = 0 := by
    rw [show ((63 : Int) + 1).toNat = 64 from rfl]
    exact Nat.div_eq_of_lt (by simp; omega)
  unfold Dv
  rw [h]
  simp
theorem div_of {N Y k r : Nat} (h : N = r + Y * k) (hr : r < Y) : N / Y = k ∧ N % Y = r := by
  subst h
  rw [Nat.add_mul_div_left _ _ (by omega), Nat.add_mul_mod_self_left, Nat.div_eq_of_lt hr, Nat.mod_eq_of_lt hr]
  omega
/-- The rest with the next digit behind it. -/
def rr (X : Nat) (z R : Int) : Int := IntKind.u64.wrap (IntKind.u64.wrap (R * 2) + ((X : Int) / 2 ^ z.toNat).tmod 2)
theorem digit (X j : Nat) : ((X : Int) / 2 ^ j).tmod 2 = ((X / 2 ^ j % 2 : Nat) : Int) := by
  have e : (X : Int) / 2 ^ j = ((X / 2 ^ j : Nat) : Int) := by rw [Int.natCast_ediv, Int.natCast_pow]; rfl
  rw [e]
  generalize X / 2 ^ j = m
  rw [Int.tmod_eq_emod_of_nonneg (Int.natCast_nonneg m)]
  omega
theorem rr_is {X Y : Nat} (hY0 : 0 < Y) (hY : Y ≤ 9223372036854775808) {z Q R : Int} (hz : 0 ≤ z) (h : Dv X Y z Q R) :
    rr X z R = ((2 * (X / 2 ^ (z.toNat + 1) % Y) + X / 2 ^ z.toNat % 2 : Nat) : Int) := by
  have hj : (z + 1).toNat = z.toNat + 1 := by omega
  obtain ⟨_, h2⟩ := h
  rw [hj] at h2
  have h3 : X / 2 ^ (z.toNat + 1) % Y < Y := Nat.mod_lt _ hY0
  unfold rr
  rw [h2, digit]
  generalize X / 2 ^ (z.toNat + 1) % Y = m at *
  have hb : X / 2 ^ z.toNat % 2 < 2 := Nat.mod_lt _ (by omega)
  generalize X / 2 ^ z.toNat % 2 = c at *
  rw [u64_small (n := (m : Int) * 2) (by omega) (by omega), u64_small (by omega) (by omega)]
  omega
theorem Dv.low {X Y : Nat} (hY0 : 0 < Y) (hY : Y ≤ 9223372036854775808) {z Q R : Int} (h : Dv X Y z Q R) : ¬ 9223372036854775808 ≤ R := by
  have h3 : X / 2 ^ (z + 1).toNat % Y < Y := Nat.mod_lt _ hY0
  rw [h.2]
  omega
theorem Dv.less {X Y : Nat} (hY0 : 0 < Y) (hY : Y ≤ 9223372036854775808) {z Q R : Int} (hz : 0 ≤ z) (h : Dv X Y z Q R) (hl : rr X z R < Y) : Dv X Y (z - 1) Q (rr X z R) := by
  have hr := rr_is hY0 hY hz h
  have hj : (z + 1).toNat = z.toNat + 1 := by omega
  have hi : (z - 1 + 1).toNat = z.toNat := by omega
  obtain ⟨h1, _⟩ := h
  rw [hj] at h1
  unfold Dv
  rw [hi, h1, hr]
  rw [hr] at hl
  have hs := bit_step X z.toNat
  have hd := Nat.div_add_mod (X / 2 ^ (z.toNat + 1)) Y
  have key := div_of (N := X / 2 ^ z.toNat) (Y := Y) (k := 2 * (X / 2 ^ (z.toNat + 1) / Y)) (r := 2 * (X / 2 ^ (z.toNat + 1) % Y) + X / 2 ^ z.toNat % 2) (by grind) (by omega)
  rw [key.1, key.2]
  refine ⟨?_, rfl⟩
  congr 1
  rw [Nat.pow_succ]
  grind
theorem Dv.more {X Y : Nat} (hX : X ≤ 9223372036854775808) (hY0 : 0 < Y) (hY : Y ≤ 9223372036854775808) {z Q R : Int} (hz : 0 ≤ z) (hz2 : z ≤ 63) (h : Dv X Y z Q R) (hl : ¬ rr X z R < Y) :
    Dv X Y (z - 1) (IntKind.u64.wrap (Q + IntKind.u64.wrap (2 ^ z.toNat))) (IntKind.u64.wrap (rr X z R - Y)) := by
  have hr := rr_is hY0 hY hz h
  have hj : (z + 1).toNat = z.toNat + 1 := by omega
  have hi : (z - 1 + 1).toNat = z.toNat := by omega
  obtain ⟨h1, _⟩ := h
  rw [hj] at h1
  unfold Dv
  rw [hi, h1, hr]
  rw [hr] at hl
  have hs := bit_step X z.toNat
  have hd := Nat.div_add_mod (X / 2 ^ (z.toNat + 1)) Y
  have hm : X / 2 ^ (z.toNat + 1) % Y < Y := Nat.mod_lt _ hY0
  have hb : X / 2 ^ z.toNat % 2 < 2 := Nat.mod_lt _ (by omega)
  have key := div_of (N := X / 2 ^ z.toNat) (Y := Y) (k := 2 * (X / 2 ^ (z.toNat + 1) / Y) + 1) (r := 2 * (X / 2 ^ (z.toNat + 1) % Y) + X / 2 ^ z.toNat % 2 - Y) (by grind) (by omega)
  have hq : X / 2 ^ z.toNat / Y * 2 ^ z.toNat ≤ X := Nat.le_trans (Nat.mul_le_mul_right _ (Nat.div_le_self _ _)) (Nat.div_mul_le_self _ _)
  have hp : (2 : Nat) ^ z.toNat ≤ 2 ^ 63 := Nat.pow_le_pow_right (by omega) (by omega)
  have hp2 : (2 : Int) ^ z.toNat = ((2 ^ z.toNat : Nat) : Int) := by rw [Int.natCast_pow]; rfl
  have hsum : X / 2 ^ (z.toNat + 1) / Y * 2 ^ (z.toNat + 1) + 2 ^ z.toNat = X / 2 ^ z.toNat / Y * 2 ^ z.toNat := by
    rw [key.1, Nat.pow_succ]
    grind
  simp only [Nat.reducePow] at hp
  constructor
  · rw [hp2, ← hsum]
    rw [← hsum] at hq
    generalize X / 2 ^ (z.toNat + 1) / Y * 2 ^ (z.toNat + 1) = q at hq ⊢
    generalize (2 : Nat) ^ z.toNat = p at hp hq ⊢
    rw [u64_small (n := (p : Int)) (by omega) (by omega), u64_small (by omega) (by omega)]
    omega
  · rw [key.2, u64_small (by omega) (by omega)]
    omega
theorem Dv.done {X Y : Nat} {Q R : Int} (h : Dv X Y (-1) Q R) : Q = ((X / Y : Nat) : Int) ∧ R = ((X % Y : Nat) : Int) := by
  unfold Dv at h
  simpa using h
theorem w_u64 (n : Int) : wrap64 (IntKind.u64.wrap n) = wrap64 n := by rw [IntKind.wrap_u64]; unfold wrap64; omega
theorem u64_neg (n : Int) : wrap64 (IntKind.u64.wrap (-IntKind.u64.wrap n)) = wrap64 (-n) := by rw [IntKind.wrap_u64, IntKind.wrap_u64]; unfold wrap64; omega
/-! ### The quotient by the signs -/
theorem fdiv_pp (X Y : Nat) : Int.fdiv X Y = ((X / Y : Nat) : Int) := (Int.ofNat_fdiv X Y).symm
theorem fdiv_np (X Y : Nat) (hY : Y ≠ 0) : Int.fdiv (-X) Y = if X % Y = 0 then -((X / Y : Nat) : Int) else -((X / Y : Nat) : Int) - 1 := by
  have hq : Int.tdiv (-X) Y = -((X / Y : Nat) : Int) := by rw [Int.neg_tdiv]; rfl
  have hr : Int.tmod (-X) Y = -((X % Y : Nat) : Int) := by rw [Int.neg_tmod]; rfl
  rw [floor_q _ _ (by omega), hq]
  unfold hiB
  rw [hr]
  by_cases h : X % Y = 0
  · rw [if_pos h, h]; simp
  · rw [if_neg h, if_pos]
    generalize X % Y = m at *
    have e1 : (-(m : Int)) ≠ 0 := by omega
    have e2 : (-(m : Int)) < 0 := by omega
    have e3 : ¬ ((Y : Int) < 0) := by omega
    simp only [e2, e3, decide_true, decide_false, Bool.and_eq_true, bne_iff_ne, ne_eq]
    exact ⟨e1, by simp⟩
theorem quo_nn {a b : Int} (h1 : a < 0) (h2 : b < 0) : wrap64 ((a.natAbs / b.natAbs : Nat) : Int) = divV a b := by
  unfold divV
  rw [← fdiv_pp, ← Int.neg_fdiv_neg]
  congr 2 <;> omega
theorem quo_pp {a b : Int} (h1 : ¬ a < 0) (h2 : ¬ b < 0) : wrap64 ((a.natAbs / b.natAbs : Nat) : Int) = divV a b := by
  unfold divV
  rw [← fdiv_pp]
  congr 2 <;> omega
theorem quo_d {a b : Int} (h0 : b ≠ 0) (h : a < 0 ∧ ¬ b < 0 ∨ ¬ a < 0 ∧ b < 0) : divV a b = if a.natAbs % b.natAbs = 0 then wrap64 (-((a.natAbs / b.natAbs : Nat) : Int)) else wrap64 (-(((a.natAbs / b.natAbs : Nat) : Int) + 1)) := by
  have e : a.fdiv b = Int.fdiv (-(a.natAbs : Int)) (b.natAbs : Int) := by
    rcases h with ⟨h1, h2⟩ | ⟨h1, h2⟩
    · rw [show (-(a.natAbs : Int)) = a from by omega, show ((b.natAbs : Int)) = b from by omega]
    · rw [← Int.neg_fdiv_neg, show (-a) = (-(a.natAbs : Int)) from by omega, show (-b) = ((b.natAbs : Int)) from by omega]
  unfold divV
  rw [e, fdiv_np _ _ (by omega)]
  split
  · rfl
  · congr 1; omega
set_option maxRecDepth 100000 in
set_option maxHeartbeats 1000000 in
theorem rquo_nn (a b : Int) (ha : In64 a) (hb : In64 b) (h0 : b ≠ 0) (h1 : a < 0) (h2 : b < 0) (w : World) : Calls Tryd.prog 42 #[.int .i64 a, .int .i64 b] w fun e w' => e = .returned (.int .i64 (divV a b)) ∧ w' = w := by
  have HX : Hid (IntKind.u64.wrap (-IntKind.u64.wrap a) = (a.natAbs : Int)) := abs_neg ha h1
  have HY : Hid (IntKind.u64.wrap (-IntKind.u64.wrap b) = (b.natAbs : Int)) := abs_neg hb h2
  have HV : Hid (wrap64 ((a.natAbs / b.natAbs : Nat) : Int) = divV a b) := quo_nn h1 h2
  have HB : Hid (a.natAbs ≤ 9223372036854775808 ∧ 0 < b.natAbs ∧ b.natAbs ≤ 9223372036854775808) := ⟨abs_le ha, by omega, abs_le hb⟩
  have t1 : decide (a < 0) = true := by simp [h1]
  have t2 : decide (b < 0) = true := by simp [h2]
  clear h0 h1 h2 ha hb
  go_enter Tryd.func42, Tryd.ntmps42
  go_wp2_with fail
  rw [HX.out, HY.out]
  clear HX HY
  generalize a.natAbs = X at HB HV ⊢
  generalize b.natAbs = Y at HB HV ⊢
  go_loop [7, 8, 9] (fun q r i => ∃ z Q R : Int, -1 ≤ z ∧ z ≤ 63 ∧ i = .int .i64 z ∧ q = .int .u64 Q ∧ r = .int .u64 R ∧ Hid (Dv X Y z Q R)) (fun _ _ i => (intOf i + 1).toNat)
  case atStart => exact ⟨63, 0, 0, by omega, by omega, rfl, rfl, rfl, Dv.start HB.out.1⟩
  case round =>
    obtain ⟨z, Q, R, hz1, hz2, rfl, rfl, rfl, HD⟩ := hrel
    by_cases hz : 0 ≤ z
    · have tz : decide (0 ≤ z) = true := by simp [hz]
      have to : decide (9223372036854775808 ≤ R) = false := by have := HD.out.low HB.out.2.1 HB.out.2.2; simp; omega
      by_cases hl : rr X z R < Y
      · have tl : decide ((Y : Int) ≤ IntKind.u64.wrap (IntKind.u64.wrap (R * 2) + ((X : Int) / 2 ^ z.toNat).tmod 2)) = false := by
          rw [decide_eq_false_iff_not]; show ¬ (Y : Int) ≤ rr X z R; omega
        have HN : Hid (Dv X Y (z - 1) Q (IntKind.u64.wrap (IntKind.u64.wrap (R * 2) + ((X : Int) / 2 ^ z.toNat).tmod 2))) := HD.out.less HB.out.2.1 HB.out.2.2 hz hl
        clear hl
        go_wp2_with fail
        go_round
        case rel => exact ⟨z - 1, _, _, by omega, by omega, rfl, rfl, rfl, HN⟩
        case measure => simp [intOf]; omega
      · have tl : decide ((Y : Int) ≤ IntKind.u64.wrap (IntKind.u64.wrap (R * 2) + ((X : Int) / 2 ^ z.toNat).tmod 2)) = true := by
          rw [decide_eq_true_eq]; show (Y : Int) ≤ rr X z R; omega
        have HN : Hid (Dv X Y (z - 1) (IntKind.u64.wrap (Q + IntKind.u64.wrap (2 ^ z.toNat))) (IntKind.u64.wrap (IntKind.u64.wrap (IntKind.u64.wrap (R * 2) + ((X : Int) / 2 ^ z.toNat).tmod 2) - Y))) := HD.out.more HB.out.1 HB.out.2.1 HB.out.2.2 hz hz2 hl
        clear hl
        go_wp2_with fail
        go_round
        case rel => exact ⟨z - 1, _, _, by omega, by omega, rfl, rfl, rfl, HN⟩
        case measure => simp [intOf]; omega
    · obtain rfl : z = -1 := by omega
      have HQ : Hid (wrap64 Q = divV a b) := by show _ = _; rw [HD.out.done.1, HV.out]
      clear hz
      go_wp2_with fail
      go_ret
      exact ⟨ret1 HQ.out, rfl⟩
set_option maxRecDepth 100000 in
set_option maxHeartbeats 1000000 in
theorem rquo_np (a b : Int) (ha : In64 a) (hb : In64 b) (h0 : b ≠ 0) (h1 : a < 0) (h2 : ¬ b < 0) (w : World) : Calls Tryd.prog 42 #[.int .i64 a, .int .i64 b] w fun e w' => e = .returned (.int .i64 (divV a b)) ∧ w' = w := by
  have HX : Hid (IntKind.u64.wrap (-IntKind.u64.wrap a) = (a.natAbs : Int)) := abs_neg ha h1
  have HY : Hid (IntKind.u64.wrap b = (b.natAbs : Int)) := abs_pos hb h2
  have HV : Hid (divV a b = _) := quo_d h0 (.inl ⟨h1, h2⟩)
  have HB : Hid (a.natAbs ≤ 9223372036854775808 ∧ 0 < b.natAbs ∧ b.natAbs ≤ 9223372036854775808) := ⟨abs_le ha, by omega, abs_le hb⟩
  have t1 : decide (a < 0) = true := by simp [h1]
  have t2 : decide (b < 0) = false := by simp [h2]
  clear h0 h1 h2 ha hb
  go_enter Tryd.func42, Tryd.ntmps42
  go_wp2_with fail
  rw [HX.out, HY.out]
  clear HX HY
  generalize a.natAbs = X at HB HV ⊢
  generalize b.natAbs = Y at HB HV ⊢
  go_loop [7, 8, 9] (fun q r i => ∃ z Q R : Int, -1 ≤ z ∧ z ≤ 63 ∧ i = .int .i64 z ∧ q = .int .u64 Q ∧ r = .int .u64 R ∧ Hid (Dv X Y z Q R)) (fun _ _ i => (intOf i + 1).toNat)
  case atStart => exact ⟨63, 0, 0, by omega, by omega, rfl, rfl, rfl, Dv.start HB.out.1⟩
  case round =>
    obtain ⟨z, Q, R, hz1, hz2, rfl, rfl, rfl, HD⟩ := hrel
    by_cases hz : 0 ≤ z
    · have tz : decide (0 ≤ z) = true := by simp [hz]
      have to : decide (9223372036854775808 ≤ R) = false := by have := HD.out.low HB.out.2.1 HB.out.2.2; simp; omega
      by_cases hl : rr X z R < Y
      · have tl : decide ((Y : Int) ≤ IntKind.u64.wrap (IntKind.u64.wrap (R * 2) + ((X : Int) / 2 ^ z.toNat).tmod 2)) = false := by
          rw [decide_eq_false_iff_not]; show ¬ (Y : Int) ≤ rr X z R; omega
        have HN : Hid (Dv X Y (z - 1) Q (IntKind.u64.wrap (IntKind.u64.wrap (R * 2) + ((X : Int) / 2 ^ z.toNat).tmod 2))) := HD.out.less HB.out.2.1 HB.out.2.2 hz hl
        clear hl
        go_wp2_with fail
        go_round
        case rel => exact ⟨z - 1, _, _, by omega, by omega, rfl, rfl, rfl, HN⟩
        case measure => simp [intOf]; omega
      · have tl : decide ((Y : Int) ≤ IntKind.u64.wrap (IntKind.u64.wrap (R * 2) + ((X : Int) / 2 ^ z.toNat).tmod 2)) = true := by
          rw [decide_eq_true_eq]; show (Y : Int) ≤ rr X z R; omega
        have HN : Hid (Dv X Y (z - 1) (IntKind.u64.wrap (Q + IntKind.u64.wrap (2 ^ z.toNat))) (IntKind.u64.wrap (IntKind.u64.wrap (IntKind.u64.wrap (R * 2) + ((X : Int) / 2 ^ z.toNat).tmod 2) - Y))) := HD.out.more HB.out.1 HB.out.2.1 HB.out.2.2 hz hz2 hl
        clear hl
        go_wp2_with fail
        go_round
        case rel => exact ⟨z - 1, _, _, by omega, by omega, rfl, rfl, rfl, HN⟩
        case measure => simp [intOf]; omega
    · obtain rfl : z = -1 := by omega
      obtain ⟨e1, e2⟩ := HD.out.done
      by_cases hr : X % Y = 0
      · have tr : (R != 0) = false := by rw [e2, hr]; rfl
        have HQ : Hid (wrap64 (IntKind.u64.wrap (-Q)) = divV a b) := by show _ = _; rw [HV.out, if_pos hr, w_u64, e1]
        clear hz e1 e2 hr
        go_wp2_with fail
        go_ret
        exact ⟨ret1 HQ.out, rfl⟩
      · have tr : (R != 0) = true := by rw [e2]; simp; omega
        have HQ : Hid (wrap64 (IntKind.u64.wrap (-IntKind.u64.wrap (Q + 1))) = divV a b) := by show _ = _; rw [HV.out, if_neg hr, u64_neg, e1]
        clear hz e1 e2 hr
        go_wp2_with fail
        go_ret
        exact ⟨ret1 HQ.out, rfl⟩
set_option maxRecDepth 100000 in
set_option maxHeartbeats 1000000 in
theorem rquo_pn (a b : Int) (ha : In64 a) (hb : In64 b) (h0 : b ≠ 0) (h1 : ¬ a < 0) (h2 : b < 0) (w : World) : Calls Tryd.prog 42 #[.int .i64 a, .int .i64 b] w fun e w' => e = .returned (.int .i64 (divV a b)) ∧ w' = w := by
  have HX : Hid (IntKind.u64.wrap a = (a.natAbs : Int)) := abs_pos ha h1
  have HY : Hid (IntKind.u64.wrap (-IntKind.u64.wrap b) = (b.natAbs : Int)) := abs_neg hb h2
  have HV : Hid (divV a b = _) := quo_d h0 (.inr ⟨h1, h2⟩)
  have HB : Hid (a.natAbs ≤ 9223372036854775808 ∧ 0 < b.natAbs ∧ b.natAbs ≤ 9223372036854775808) := ⟨abs_le ha, by omega, abs_le hb⟩
  have t1 : decide (a < 0) = false := by simp [h1]
  have t2 : decide (b < 0) = true := by simp [h2]
  clear h0 h1 h2 ha hb
  go_enter Tryd.func42, Tryd.ntmps42
  go_wp2_with fail
  rw [HX.out, HY.out]
  clear HX HY
  generalize a.natAbs = X at HB HV ⊢
  generalize b.natAbs = Y at HB HV ⊢
  go_loop [7, 8, 9] (fun q r i => ∃ z Q R : Int, -1 ≤ z ∧ z ≤ 63 ∧ i = .int .i64 z ∧ q = .int .u64 Q ∧ r = .int .u64 R ∧ Hid (Dv X Y z Q R)) (fun _ _ i => (intOf i + 1).toNat)
  case atStart => exact ⟨63, 0, 0, by omega, by omega, rfl, rfl, rfl, Dv.start HB.out.1⟩
  case round =>
    obtain ⟨z, Q, R, hz1, hz2, rfl, rfl, rfl, HD⟩ := hrel
    by_cases hz : 0 ≤ z
    · have tz : decide (0 ≤ z) = true := by simp [hz]
      have to : decide (9223372036854775808 ≤ R) = false := by have := HD.out.low HB.out.2.1 HB.out.2.2; simp; omega
      by_cases hl : rr X z R < Y
      · have tl : decide ((Y : Int) ≤ IntKind.u64.wrap (IntKind.u64.wrap (R * 2) + ((X : Int) / 2 ^ z.toNat).tmod 2)) = false := by
          rw [decide_eq_false_iff_not]; show ¬ (Y : Int) ≤ rr X z R; omega
        have HN : Hid (Dv X Y (z - 1) Q (IntKind.u64.wrap (IntKind.u64.wrap (R * 2) + ((X : Int) / 2 ^ z.toNat).tmod 2))) := HD.out.less HB.out.2.1 HB.out.2.2 hz hl
        clear hl
        go_wp2_with fail
        go_round
        case rel => exact ⟨z - 1, _, _, by omega, by omega, rfl, rfl, rfl, HN⟩
        case measure => simp [intOf]; omega
      · have tl : decide ((Y : Int) ≤ IntKind.u64.wrap (IntKind.u64.wrap (R * 2) + ((X : Int) / 2 ^ z.toNat).tmod 2)) = true := by
          rw [decide_eq_true_eq]; show (Y : Int) ≤ rr X z R; omega
        have HN : Hid (Dv X Y (z - 1) (IntKind.u64.wrap (Q + IntKind.u64.wrap (2 ^ z.toNat))) (IntKind.u64.wrap (IntKind.u64.wrap (IntKind.u64.wrap (R * 2) + ((X : Int) / 2 ^ z.toNat).tmod 2) - Y))) := HD.out.more HB.out.1 HB.out.2.1 HB.out.2.2 hz hz2 hl
        clear hl
        go_wp2_with fail
        go_round
        case rel => exact ⟨z - 1, _, _, by omega, by omega, rfl, rfl, rfl, HN⟩
        case measure => simp [intOf]; omega
    · obtain rfl : z = -1 := by omega
      obtain ⟨e1, e2⟩ := HD.out.done
      by_cases hr : X % Y = 0
      · have tr : (R != 0) = false := by rw [e2, hr]; rfl
        have HQ : Hid (wrap64 (IntKind.u64.wrap (-Q)) = divV a b) := by show _ = _; rw [HV.out, if_pos hr, w_u64, e1]
        clear hz e1 e2 hr
        go_wp2_with fail
        go_ret
        exact ⟨ret1 HQ.out, rfl⟩
      · have tr : (R != 0) = true := by rw [e2]; simp; omega
        have HQ : Hid (wrap64 (IntKind.u64.wrap (-IntKind.u64.wrap (Q + 1))) = divV a b) := by show _ = _; rw [HV.out, if_neg hr, u64_neg, e1]
        clear hz e1 e2 hr
        go_wp2_with fail
        go_ret
        exact ⟨ret1 HQ.out, rfl⟩
set_option maxRecDepth 100000 in
set_option maxHeartbeats 1000000 in
theorem rquo_pp (a b : Int) (ha : In64 a) (hb : In64 b) (h0 : b ≠ 0) (h1 : ¬ a < 0) (h2 : ¬ b < 0) (w : World) : Calls Tryd.prog 42 #[.int .i64 a, .int .i64 b] w fun e w' => e = .returned (.int .i64 (divV a b)) ∧ w' = w := by
  have HX : Hid (IntKind.u64.wrap a = (a.natAbs : Int)) := abs_pos ha h1
  have HY : Hid (IntKind.u64.wrap b = (b.natAbs : Int)) := abs_pos hb h2
  have HV : Hid (wrap64 ((a.natAbs / b.natAbs : Nat) : Int) = divV a b) := quo_pp h1 h2
  have HB : Hid (a.natAbs ≤ 9223372036854775808 ∧ 0 < b.natAbs ∧ b.natAbs ≤ 9223372036854775808) := ⟨abs_le ha, by omega, abs_le hb⟩
  have t1 : decide (a < 0) = false := by simp [h1]
  have t2 : decide (b < 0) = false := by simp [h2]
  clear h0 h1 h2 ha hb
  go_enter Tryd.func42, Tryd.ntmps42
  go_wp2_with fail
  rw [HX.out, HY.out]
  clear HX HY
  generalize a.natAbs = X at HB HV ⊢
  generalize b.natAbs = Y at HB HV ⊢
  go_loop [7, 8, 9] (fun q r i => ∃ z Q R : Int, -1 ≤ z ∧ z ≤ 63 ∧ i = .int .i64 z ∧ q = .int .u64 Q ∧ r = .int .u64 R ∧ Hid (Dv X Y z Q R)) (fun _ _ i => (intOf i + 1).toNat)
  case atStart => exact ⟨63, 0, 0, by omega, by omega, rfl, rfl, rfl, Dv.start HB.out.1⟩
  case round =>
    obtain ⟨z, Q, R, hz1, hz2, rfl, rfl, rfl, HD⟩ := hrel
    by_cases hz : 0 ≤ z
    · have tz : decide (0 ≤ z) = true := by simp [hz]
      have to : decide (9223372036854775808 ≤ R) = false := by have := HD.out.low HB.out.2.1 HB.out.2.2; simp; omega
      by_cases hl : rr X z R < Y
      · have tl : decide ((Y : Int) ≤ IntKind.u64.wrap (IntKind.u64.wrap (R * 2) + ((X : Int) / 2 ^ z.toNat).tmod 2)) = false := by
          rw [decide_eq_false_iff_not]; show ¬ (Y : Int) ≤ rr X z R; omega
        have HN : Hid (Dv X Y (z - 1) Q (IntKind.u64.wrap (IntKind.u64.wrap (R * 2) + ((X : Int) / 2 ^ z.toNat).tmod 2))) := HD.out.less HB.out.2.1 HB.out.2.2 hz hl
        clear hl
        go_wp2_with fail
        go_round
        case rel => exact ⟨z - 1, _, _, by omega, by omega, rfl, rfl, rfl, HN⟩
        case measure => simp [intOf]; omega
      · have tl : decide ((Y : Int) ≤ IntKind.u64.wrap (IntKind.u64.wrap (R * 2) + ((X : Int) / 2 ^ z.toNat).tmod 2)) = true := by
          rw [decide_eq_true_eq]; show (Y : Int) ≤ rr X z R; omega
        have HN : Hid (Dv X Y (z - 1) (IntKind.u64.wrap (Q + IntKind.u64.wrap (2 ^ z.toNat))) (IntKind.u64.wrap (IntKind.u64.wrap (IntKind.u64.wrap (R * 2) + ((X : Int) / 2 ^ z.toNat).tmod 2) - Y))) := HD.out.more HB.out.1 HB.out.2.1 HB.out.2.2 hz hz2 hl
        clear hl
        go_wp2_with fail
        go_round
        case rel => exact ⟨z - 1, _, _, by omega, by omega, rfl, rfl, rfl, HN⟩
        case measure => simp [intOf]; omega
    · obtain rfl : z = -1 := by omega
      have HQ : Hid (wrap64 Q = divV a b) := by show _ = _; rw [HD.out.done.1, HV.out]
      clear hz
      go_wp2_with fail
      go_ret
      exact ⟨ret1 HQ.out, rfl⟩
theorem rquo_any (a b : Int) (ha : In64 a) (hb : In64 b) (h0 : b ≠ 0) (w : World) : Calls Tryd.prog 42 #[.int .i64 a, .int .i64 b] w fun e w' => e = .returned (.int .i64 (divV a b)) ∧ w' = w := by
  by_cases h1 : a < 0
  · by_cases h2 : b < 0
    · exact rquo_nn a b ha hb h0 h1 h2 w
    · exact rquo_np a b ha hb h0 h1 h2 w
  · by_cases h2 : b < 0
    · exact rquo_pn a b ha hb h0 h1 h2 w
    · exact rquo_pp a b ha hb h0 h1 h2 w
end Go.Proofs.YtmbgomljofngnaaDoor
