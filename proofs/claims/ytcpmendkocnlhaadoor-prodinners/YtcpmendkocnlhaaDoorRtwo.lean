/-
  Ret Rbit Rquo Euc Reuc Rtwo, together.
-/
import Derived.Test.YtcpmendkocnlhaaDoorBase
import Derived.Test.YtcpmendkocnlhaaDoorPrdm
/-! Ret: Two numbers that are told. -/
namespace Go.Proofs.YtcpmendkocnlhaaDoor
open Go.RowKit
set_option linter.unusedVariables false

theorem ret2i {a b c d : Int} (h : a = b) (h2 : c = d) : Ending.returned (.tuple #[.int .i64 a, .int .i64 c]) = .returned (.tuple #[.int .i64 b, .int .i64 d]) := by rw [h, h2]
end Go.Proofs.YtcpmendkocnlhaaDoor
/-! Rbit: What the reference tells of bits, one by one. -/
namespace Go.Proofs.YtcpmendkocnlhaaDoor
open Go.RowKit
set_option linter.unusedVariables false

/-- A number's 64 bits as a natural number. -/
def na (a : Int) : Nat := (BitVec.ofInt 64 a).toNat
theorem na_lt (a : Int) : na a < 18446744073709551616 := (BitVec.ofInt 64 a).isLt
theorem na_is (a : Int) : IntKind.u64.wrap a = (na a : Int) := by
  unfold na
  rw [BitVec.toNat_ofInt, IntKind.wrap_u64]
  omega
theorem cast_bit (x j : Nat) : (((x : Int) / 2 ^ j).tmod 2 == 1) = decide (x / 2 ^ j % 2 = 1) := by
  have e : (x : Int) / 2 ^ j = ((x / 2 ^ j : Nat) : Int) := by rw [Int.natCast_ediv, Int.natCast_pow]; rfl
  rw [e]
  generalize x / 2 ^ j = m
  rw [Int.tmod_eq_emod_of_nonneg (Int.natCast_nonneg m)]
  by_cases h : m % 2 = 1
  · simp only [h, decide_true, beq_iff_eq]; omega
  · simp only [h, decide_false, beq_eq_false_iff_ne]; omega
def opN (t : Bool) (x y : Nat) : Nat := if t then x &&& y else x ||| y
theorem opN_lt (t : Bool) {x y : Nat} (hx : x < 18446744073709551616) (hy : y < 18446744073709551616) : opN t x y < 18446744073709551616 := by
  unfold opN
  split
  · exact Nat.lt_of_le_of_lt Nat.and_le_left hx
  · exact Nat.or_lt_two_pow (n := 64) hx hy
theorem opN_and (x y j : Nat) : opN true x y / 2 ^ j % 2 = 1 ↔ x / 2 ^ j % 2 = 1 ∧ y / 2 ^ j % 2 = 1 := by
  unfold opN
  rw [if_pos rfl, Nat.and_div_two_pow, Nat.and_mod_two_eq_one]
theorem opN_or (x y j : Nat) : opN false x y / 2 ^ j % 2 = 1 ↔ x / 2 ^ j % 2 = 1 ∨ y / 2 ^ j % 2 = 1 := by
  unfold opN
  rw [if_neg (by decide), Nat.or_div_two_pow, Nat.or_mod_two_eq_one]
theorem bit_step (X j : Nat) : X / 2 ^ j = 2 * (X / 2 ^ (j + 1)) + X / 2 ^ j % 2 := by
  rw [Nat.pow_succ, ← Nat.div_div_eq_div_mul]
  omega
theorem u64_small {n : Int} (h0 : 0 ≤ n) (h1 : n < 18446744073709551616) : IntKind.u64.wrap n = n := by rw [IntKind.wrap_u64]; omega
/-- A bit that is set, and one that is not. -/
theorem step_set {X j : Nat} (hX : X < 18446744073709551616) (h : X / 2 ^ j % 2 = 1) : IntKind.u64.wrap (IntKind.u64.wrap (((X / 2 ^ (j + 1) : Nat) : Int) * 2) + 1) = ((X / 2 ^ j : Nat) : Int) := by
  have h1 := bit_step X j
  have h2 : X / 2 ^ j ≤ X := Nat.div_le_self _ _
  rw [u64_small (n := ((X / 2 ^ (j + 1) : Nat) : Int) * 2) (by omega) (by omega), u64_small (by omega) (by omega)]
  omega
theorem step_not {X j : Nat} (hX : X < 18446744073709551616) (h : ¬ X / 2 ^ j % 2 = 1) : IntKind.u64.wrap (((X / 2 ^ (j + 1) : Nat) : Int) * 2) = ((X / 2 ^ j : Nat) : Int) := by
  have h1 := bit_step X j
  have h2 : X / 2 ^ j ≤ X := Nat.div_le_self _ _
  rw [u64_small (by omega) (by omega)]
  omega
def bitV (a b : Int) (t : Bool) : Int := if t then bandV a b else borV a b
theorem opN_is (a b : Int) (t : Bool) : wrap64 ((opN t (na a) (na b) : Nat) : Int) = bitV a b t := by
  unfold bitV opN bandV borV Go.bits na
  simp only [IntWalk.i64_left]
  cases t
  · rw [if_neg (by decide), if_neg (by decide)]
    show _ = wrap64 ((BitVec.ofInt 64 a ||| BitVec.ofInt 64 b).toNat : Int)
    rw [BitVec.toNat_or]
  · rw [if_pos rfl, if_pos rfl]
    show _ = wrap64 ((BitVec.ofInt 64 a &&& BitVec.ofInt 64 b).toNat : Int)
    rw [BitVec.toNat_and]
/-- How far the bits have come: behind those above place z. -/
def Bts (X : Nat) (z n : Int) : Prop := n = ((X / 2 ^ (z + 1).toNat : Nat) : Int)
set_option maxRecDepth 100000 in
set_option maxHeartbeats 1000000 in
theorem rbit_any (a b : Int) (t : Bool) (w : World) : Calls Tryd.prog 58 #[.int .i64 a, .int .i64 b, .bool t] w fun e w' => e = .returned (.int .i64 (bitV a b t)) ∧ w' = w := by
  have HX : Hid (opN t (na a) (na b) < 18446744073709551616) := opN_lt t (na_lt a) (na_lt b)
  have HO : Hid (wrap64 ((opN t (na a) (na b) : Nat) : Int) = bitV a b t) := opN_is a b t
  have HS : Hid (Bts (opN t (na a) (na b)) 63 0) := by
    show (0 : Int) = _
    have h := HX.out
    rw [show ((63 : Int) + 1).toNat = 64 from rfl, Nat.div_eq_of_lt (by simpa using h)]
    rfl
  go_enter Tryd.func58, Tryd.ntmps58
  go_wp2_with fail
  go_loop [7, 8] (fun o i => ∃ z n : Int, -1 ≤ z ∧ z ≤ 63 ∧ i = .int .i64 z ∧ o = .int .u64 n ∧ Hid (Bts (opN t (na a) (na b)) z n)) (fun _ i => (intOf i + 1).toNat)
  case atStart => exact ⟨63, 0, by omega, by omega, rfl, rfl, HS⟩
  case round =>
    obtain ⟨z, n, hz1, hz2, rfl, rfl, HB⟩ := hrel
    by_cases hz : 0 ≤ z
    · have tz : decide (0 ≤ z) = true := by simp [hz]
      have ex : ((IntKind.u64.wrap a / 2 ^ z.toNat).tmod 2 == 1) = decide (na a / 2 ^ z.toNat % 2 = 1) := by rw [na_is]; exact cast_bit _ _
      have ey : ((IntKind.u64.wrap b / 2 ^ z.toNat).tmod 2 == 1) = decide (na b / 2 ^ z.toNat % 2 = 1) := by rw [na_is]; exact cast_bit _ _
      have HJ : Hid ((z + 1).toNat = z.toNat + 1 ∧ (z - 1 + 1).toNat = z.toNat) := ⟨by omega, by omega⟩
      cases t
      · by_cases hx : na a / 2 ^ z.toNat % 2 = 1
        · by_cases hy : na b / 2 ^ z.toNat % 2 = 1
          · have tx : ((IntKind.u64.wrap a / 2 ^ z.toNat).tmod 2 == 1) = true := by rw [ex]; simp [hx]
            have ty : ((IntKind.u64.wrap b / 2 ^ z.toNat).tmod 2 == 1) = true := by rw [ey]; simp [hy]
            have HE : Hid (Bts (opN false (na a) (na b)) (z - 1) (IntKind.u64.wrap (IntKind.u64.wrap (n * 2) + 1))) := by
              show _ = _
              rw [HB.out, HJ.out.1, HJ.out.2]
              exact step_set HX.out ((opN_or _ _ _).2 (by simp [hx, hy]))
            clear ex ey hx hy
            go_wp2_with fail
            go_round
            case rel => exact ⟨z - 1, _, by omega, by omega, rfl, rfl, HE⟩
            case measure => simp [intOf]; omega
          · have tx : ((IntKind.u64.wrap a / 2 ^ z.toNat).tmod 2 == 1) = true := by rw [ex]; simp [hx]
            have ty : ((IntKind.u64.wrap b / 2 ^ z.toNat).tmod 2 == 1) = false := by rw [ey]; simp [hy]
            have HE : Hid (Bts (opN false (na a) (na b)) (z - 1) (IntKind.u64.wrap (IntKind.u64.wrap (n * 2) + 1))) := by
              show _ = _
              rw [HB.out, HJ.out.1, HJ.out.2]
              exact step_set HX.out ((opN_or _ _ _).2 (by simp [hx, hy]))
            clear ex ey hx hy
            go_wp2_with fail
            go_round
            case rel => exact ⟨z - 1, _, by omega, by omega, rfl, rfl, HE⟩
            case measure => simp [intOf]; omega
        · by_cases hy : na b / 2 ^ z.toNat % 2 = 1
          · have tx : ((IntKind.u64.wrap a / 2 ^ z.toNat).tmod 2 == 1) = false := by rw [ex]; simp [hx]
            have ty : ((IntKind.u64.wrap b / 2 ^ z.toNat).tmod 2 == 1) = true := by rw [ey]; simp [hy]
            have HE : Hid (Bts (opN false (na a) (na b)) (z - 1) (IntKind.u64.wrap (IntKind.u64.wrap (n * 2) + 1))) := by
              show _ = _
              rw [HB.out, HJ.out.1, HJ.out.2]
              exact step_set HX.out ((opN_or _ _ _).2 (by simp [hx, hy]))
            clear ex ey hx hy
            go_wp2_with fail
            go_round
            case rel => exact ⟨z - 1, _, by omega, by omega, rfl, rfl, HE⟩
            case measure => simp [intOf]; omega
          · have tx : ((IntKind.u64.wrap a / 2 ^ z.toNat).tmod 2 == 1) = false := by rw [ex]; simp [hx]
            have ty : ((IntKind.u64.wrap b / 2 ^ z.toNat).tmod 2 == 1) = false := by rw [ey]; simp [hy]
            have HE : Hid (Bts (opN false (na a) (na b)) (z - 1) (IntKind.u64.wrap (n * 2))) := by
              show _ = _
              rw [HB.out, HJ.out.1, HJ.out.2]
              exact step_not HX.out (fun h => by have := (opN_or _ _ _).1 h; simp [hx, hy] at this)
            clear ex ey hx hy
            go_wp2_with fail
            go_round
            case rel => exact ⟨z - 1, _, by omega, by omega, rfl, rfl, HE⟩
            case measure => simp [intOf]; omega
      · by_cases hx : na a / 2 ^ z.toNat % 2 = 1
        · by_cases hy : na b / 2 ^ z.toNat % 2 = 1
          · have tx : ((IntKind.u64.wrap a / 2 ^ z.toNat).tmod 2 == 1) = true := by rw [ex]; simp [hx]
            have ty : ((IntKind.u64.wrap b / 2 ^ z.toNat).tmod 2 == 1) = true := by rw [ey]; simp [hy]
            have HE : Hid (Bts (opN true (na a) (na b)) (z - 1) (IntKind.u64.wrap (IntKind.u64.wrap (n * 2) + 1))) := by
              show _ = _
              rw [HB.out, HJ.out.1, HJ.out.2]
              exact step_set HX.out ((opN_and _ _ _).2 (by simp [hx, hy]))
            clear ex ey hx hy
            go_wp2_with fail
            go_round
            case rel => exact ⟨z - 1, _, by omega, by omega, rfl, rfl, HE⟩
            case measure => simp [intOf]; omega
          · have tx : ((IntKind.u64.wrap a / 2 ^ z.toNat).tmod 2 == 1) = true := by rw [ex]; simp [hx]
            have ty : ((IntKind.u64.wrap b / 2 ^ z.toNat).tmod 2 == 1) = false := by rw [ey]; simp [hy]
            have HE : Hid (Bts (opN true (na a) (na b)) (z - 1) (IntKind.u64.wrap (n * 2))) := by
              show _ = _
              rw [HB.out, HJ.out.1, HJ.out.2]
              exact step_not HX.out (fun h => by have := (opN_and _ _ _).1 h; simp [hx, hy] at this)
            clear ex ey hx hy
            go_wp2_with fail
            go_round
            case rel => exact ⟨z - 1, _, by omega, by omega, rfl, rfl, HE⟩
            case measure => simp [intOf]; omega
        · by_cases hy : na b / 2 ^ z.toNat % 2 = 1
          · have tx : ((IntKind.u64.wrap a / 2 ^ z.toNat).tmod 2 == 1) = false := by rw [ex]; simp [hx]
            have ty : ((IntKind.u64.wrap b / 2 ^ z.toNat).tmod 2 == 1) = true := by rw [ey]; simp [hy]
            have HE : Hid (Bts (opN true (na a) (na b)) (z - 1) (IntKind.u64.wrap (n * 2))) := by
              show _ = _
              rw [HB.out, HJ.out.1, HJ.out.2]
              exact step_not HX.out (fun h => by have := (opN_and _ _ _).1 h; simp [hx, hy] at this)
            clear ex ey hx hy
            go_wp2_with fail
            go_round
            case rel => exact ⟨z - 1, _, by omega, by omega, rfl, rfl, HE⟩
            case measure => simp [intOf]; omega
          · have tx : ((IntKind.u64.wrap a / 2 ^ z.toNat).tmod 2 == 1) = false := by rw [ex]; simp [hx]
            have ty : ((IntKind.u64.wrap b / 2 ^ z.toNat).tmod 2 == 1) = false := by rw [ey]; simp [hy]
            have HE : Hid (Bts (opN true (na a) (na b)) (z - 1) (IntKind.u64.wrap (n * 2))) := by
              show _ = _
              rw [HB.out, HJ.out.1, HJ.out.2]
              exact step_not HX.out (fun h => by have := (opN_and _ _ _).1 h; simp [hx, hy] at this)
            clear ex ey hx hy
            go_wp2_with fail
            go_round
            case rel => exact ⟨z - 1, _, by omega, by omega, rfl, rfl, HE⟩
            case measure => simp [intOf]; omega
    · obtain rfl : z = -1 := by omega
      have HN : Hid (wrap64 n = wrap64 ((opN t (na a) (na b) : Nat) : Int)) := by
        show _ = _
        rw [HB.out]
        simp
      clear hz
      go_wp2_with fail
      go_ret
      exact ⟨ret1 (HN.out.trans HO.out), rfl⟩
end Go.Proofs.YtcpmendkocnlhaaDoor
/-! Rquo: What the reference tells of a quotient that is cut downward, digit by digit. -/
namespace Go.Proofs.YtcpmendkocnlhaaDoor
open Go.RowKit
set_option linter.unusedVariables false

theorem abs_neg {a : Int} (ha : In64 a) (h : a < 0) : IntKind.u64.wrap (-IntKind.u64.wrap a) = (a.natAbs : Int) := by
  unfold In64 at ha
  rw [IntKind.wrap_u64, IntKind.wrap_u64]
  omega
theorem abs_pos {a : Int} (ha : In64 a) (h : ¬ a < 0) : IntKind.u64.wrap a = (a.natAbs : Int) := by
  unfold In64 at ha
  rw [IntKind.wrap_u64]
  omega
theorem abs_le {a : Int} (ha : In64 a) : a.natAbs ≤ 9223372036854775808 := by unfold In64 at ha; omega
/-- How far the division has come: behind the digits above place z. -/
def Dv (X Y : Nat) (z q r : Int) : Prop := q = ((X / 2 ^ (z + 1).toNat / Y * 2 ^ (z + 1).toNat : Nat) : Int) ∧ r = ((X / 2 ^ (z + 1).toNat % Y : Nat) : Int)
theorem Dv.start {X Y : Nat} (hX : X ≤ 9223372036854775808) : Dv X Y 63 0 0 := by
  have h : X / 2 ^ ((63 : Int) + 1).toNat = 0 := by
    rw [show ((63 : Int) + 1).toNat = 64 from rfl]
    exact Nat.div_eq_of_lt (by simp; omega)
  unfold Dv
  rw [h]
  simp
theorem div_of {N Y k r : Nat} (h : N = r + Y * k) (hr : r < Y) : N / Y = k ∧ N % Y = r := by
  subst h
  rw [Nat.add_mul_div_left _ _ (by omega), Nat.add_mul_mod_self_left, Nat.div_eq_of_lt hr, Nat.mod_eq_of_lt hr]
  omega
/-- The rest with the next digit behind it. -/
def rr (X : Nat) (z R : Int) : Int := IntKind.u64.wrap (IntKind.u64.wrap (R * 2) + ((X : Int) / 2 ^ z.toNat).tmod 2)
theorem digit (X j : Nat) : ((X : Int) / 2 ^ j).tmod 2 = ((X / 2 ^ j % 2 : Nat) : Int) := by
  have e : (X : Int) / 2 ^ j = ((X / 2 ^ j : Nat) : Int) := by rw [Int.natCast_ediv, Int.natCast_pow]; rfl
  rw [e]
  generalize X / 2 ^ j = m
  rw [Int.tmod_eq_emod_of_nonneg (Int.natCast_nonneg m)]
  omega
theorem rr_is {X Y : Nat} (hY0 : 0 < Y) (hY : Y ≤ 9223372036854775808) {z Q R : Int} (hz : 0 ≤ z) (h : Dv X Y z Q R) :
    rr X z R = ((2 * (X / 2 ^ (z.toNat + 1) % Y) + X / 2 ^ z.toNat % 2 : Nat) : Int) := by
  have hj : (z + 1).toNat = z.toNat + 1 := by omega
  obtain ⟨_, h2⟩ := h
  rw [hj] at h2
  have h3 : X / 2 ^ (z.toNat + 1) % Y < Y := Nat.mod_lt _ hY0
  unfold rr
  rw [h2, digit]
  generalize X / 2 ^ (z.toNat + 1) % Y = m at *
  have hb : X / 2 ^ z.toNat % 2 < 2 := Nat.mod_lt _ (by omega)
  generalize X / 2 ^ z.toNat % 2 = c at *
  rw [u64_small (n := (m : Int) * 2) (by omega) (by omega), u64_small (by omega) (by omega)]
  omega
theorem Dv.low {X Y : Nat} (hY0 : 0 < Y) (hY : Y ≤ 9223372036854775808) {z Q R : Int} (h : Dv X Y z Q R) : ¬ 9223372036854775808 ≤ R := by
  have h3 : X / 2 ^ (z + 1).toNat % Y < Y := Nat.mod_lt _ hY0
  rw [h.2]
  omega
theorem Dv.less {X Y : Nat} (hY0 : 0 < Y) (hY : Y ≤ 9223372036854775808) {z Q R : Int} (hz : 0 ≤ z) (h : Dv X Y z Q R) (hl : rr X z R < Y) : Dv X Y (z - 1) Q (rr X z R) := by
  have hr := rr_is hY0 hY hz h
  have hj : (z + 1).toNat = z.toNat + 1 := by omega
  have hi : (z - 1 + 1).toNat = z.toNat := by omega
  obtain ⟨h1, _⟩ := h
  rw [hj] at h1
  unfold Dv
  rw [hi, h1, hr]
  rw [hr] at hl
  have hs := bit_step X z.toNat
  have hd := Nat.div_add_mod (X / 2 ^ (z.toNat + 1)) Y
  have key := div_of (N := X / 2 ^ z.toNat) (Y := Y) (k := 2 * (X / 2 ^ (z.toNat + 1) / Y)) (r := 2 * (X / 2 ^ (z.toNat + 1) % Y) + X / 2 ^ z.toNat % 2) (by grind) (by omega)
  rw [key.1, key.2]
  refine ⟨?_, rfl⟩
  congr 1
  rw [Nat.pow_succ]
  grind
theorem Dv.more {X Y : Nat} (hX : X ≤ 9223372036854775808) (hY0 : 0 < Y) (hY : Y ≤ 9223372036854775808) {z Q R : Int} (hz : 0 ≤ z) (hz2 : z ≤ 63) (h : Dv X Y z Q R) (hl : ¬ rr X z R < Y) :
    Dv X Y (z - 1) (IntKind.u64.wrap (Q + IntKind.u64.wrap (2 ^ z.toNat))) (IntKind.u64.wrap (rr X z R - Y)) := by
  have hr := rr_is hY0 hY hz h
  have hj : (z + 1).toNat = z.toNat + 1 := by omega
  have hi : (z - 1 + 1).toNat = z.toNat := by omega
  obtain ⟨h1, _⟩ := h
  rw [hj] at h1
  unfold Dv
  rw [hi, h1, hr]
  rw [hr] at hl
  have hs := bit_step X z.toNat
  have hd := Nat.div_add_mod (X / 2 ^ (z.toNat + 1)) Y
  have hm : X / 2 ^ (z.toNat + 1) % Y < Y := Nat.mod_lt _ hY0
  have hb : X / 2 ^ z.toNat % 2 < 2 := Nat.mod_lt _ (by omega)
  have key := div_of (N := X / 2 ^ z.toNat) (Y := Y) (k := 2 * (X / 2 ^ (z.toNat + 1) / Y) + 1) (r := 2 * (X / 2 ^ (z.toNat + 1) % Y) + X / 2 ^ z.toNat % 2 - Y) (by grind) (by omega)
  have hq : X / 2 ^ z.toNat / Y * 2 ^ z.toNat ≤ X := Nat.le_trans (Nat.mul_le_mul_right _ (Nat.div_le_self _ _)) (Nat.div_mul_le_self _ _)
  have hp : (2 : Nat) ^ z.toNat ≤ 2 ^ 63 := Nat.pow_le_pow_right (by omega) (by omega)
  have hp2 : (2 : Int) ^ z.toNat = ((2 ^ z.toNat : Nat) : Int) := by rw [Int.natCast_pow]; rfl
  have hsum : X / 2 ^ (z.toNat + 1) / Y * 2 ^ (z.toNat + 1) + 2 ^ z.toNat = X / 2 ^ z.toNat / Y * 2 ^ z.toNat := by
    rw [key.1, Nat.pow_succ]
    grind
  simp only [Nat.reducePow] at hp
  constructor
  · rw [hp2, ← hsum]
    rw [← hsum] at hq
    generalize X / 2 ^ (z.toNat + 1) / Y * 2 ^ (z.toNat + 1) = q at hq ⊢
    generalize (2 : Nat) ^ z.toNat = p at hp hq ⊢
    rw [u64_small (n := (p : Int)) (by omega) (by omega), u64_small (by omega) (by omega)]
    omega
  · rw [key.2, u64_small (by omega) (by omega)]
    omega
theorem Dv.done {X Y : Nat} {Q R : Int} (h : Dv X Y (-1) Q R) : Q = ((X / Y : Nat) : Int) ∧ R = ((X % Y : Nat) : Int) := by
  unfold Dv at h
  simpa using h
theorem w_u64 (n : Int) : wrap64 (IntKind.u64.wrap n) = wrap64 n := by rw [IntKind.wrap_u64]; unfold wrap64; omega
theorem u64_neg (n : Int) : wrap64 (IntKind.u64.wrap (-IntKind.u64.wrap n)) = wrap64 (-n) := by rw [IntKind.wrap_u64, IntKind.wrap_u64]; unfold wrap64; omega
/-! ### The quotient by the signs -/
theorem fdiv_pp (X Y : Nat) : Int.fdiv X Y = ((X / Y : Nat) : Int) := (Int.ofNat_fdiv X Y).symm
theorem fdiv_np (X Y : Nat) (hY : Y ≠ 0) : Int.fdiv (-X) Y = if X % Y = 0 then -((X / Y : Nat) : Int) else -((X / Y : Nat) : Int) - 1 := by
  have hq : Int.tdiv (-X) Y = -((X / Y : Nat) : Int) := by rw [Int.neg_tdiv]; rfl
  have hr : Int.tmod (-X) Y = -((X % Y : Nat) : Int) := by rw [Int.neg_tmod]; rfl
  rw [floor_q _ _ (by omega), hq]
  unfold hiB
  rw [hr]
  by_cases h : X % Y = 0
  · rw [if_pos h, h]; simp
  · rw [if_neg h, if_pos]
    generalize X % Y = m at *
    have e1 : (-(m : Int)) ≠ 0 := by omega
    have e2 : (-(m : Int)) < 0 := by omega
    have e3 : ¬ ((Y : Int) < 0) := by omega
    simp only [e2, e3, decide_true, decide_false, Bool.and_eq_true, bne_iff_ne, ne_eq]
    exact ⟨e1, by simp⟩
theorem quo_nn {a b : Int} (h1 : a < 0) (h2 : b < 0) : wrap64 ((a.natAbs / b.natAbs : Nat) : Int) = divV a b := by
  unfold divV
  rw [← fdiv_pp, ← Int.neg_fdiv_neg]
  congr 2 <;> omega
theorem quo_pp {a b : Int} (h1 : ¬ a < 0) (h2 : ¬ b < 0) : wrap64 ((a.natAbs / b.natAbs : Nat) : Int) = divV a b := by
  unfold divV
  rw [← fdiv_pp]
  congr 2 <;> omega
theorem quo_d {a b : Int} (h0 : b ≠ 0) (h : a < 0 ∧ ¬ b < 0 ∨ ¬ a < 0 ∧ b < 0) : divV a b = if a.natAbs % b.natAbs = 0 then wrap64 (-((a.natAbs / b.natAbs : Nat) : Int)) else wrap64 (-(((a.natAbs / b.natAbs : Nat) : Int) + 1)) := by
  have e : a.fdiv b = Int.fdiv (-(a.natAbs : Int)) (b.natAbs : Int) := by
    rcases h with ⟨h1, h2⟩ | ⟨h1, h2⟩
    · rw [show (-(a.natAbs : Int)) = a from by omega, show ((b.natAbs : Int)) = b from by omega]
    · rw [← Int.neg_fdiv_neg, show (-a) = (-(a.natAbs : Int)) from by omega, show (-b) = ((b.natAbs : Int)) from by omega]
  unfold divV
  rw [e, fdiv_np _ _ (by omega)]
  split
  · rfl
  · congr 1; omega
set_option maxRecDepth 100000 in
set_option maxHeartbeats 1000000 in
theorem rquo_nn (a b : Int) (ha : In64 a) (hb : In64 b) (h0 : b ≠ 0) (h1 : a < 0) (h2 : b < 0) (w : World) : Calls Tryd.prog 47 #[.int .i64 a, .int .i64 b] w fun e w' => e = .returned (.int .i64 (divV a b)) ∧ w' = w := by
  have HX : Hid (IntKind.u64.wrap (-IntKind.u64.wrap a) = (a.natAbs : Int)) := abs_neg ha h1
  have HY : Hid (IntKind.u64.wrap (-IntKind.u64.wrap b) = (b.natAbs : Int)) := abs_neg hb h2
  have HV : Hid (wrap64 ((a.natAbs / b.natAbs : Nat) : Int) = divV a b) := quo_nn h1 h2
  have HB : Hid (a.natAbs ≤ 9223372036854775808 ∧ 0 < b.natAbs ∧ b.natAbs ≤ 9223372036854775808) := ⟨abs_le ha, by omega, abs_le hb⟩
  have t1 : decide (a < 0) = true := by simp [h1]
  have t2 : decide (b < 0) = true := by simp [h2]
  clear h0 h1 h2 ha hb
  go_enter Tryd.func47, Tryd.ntmps47
  go_wp2_with fail
  rw [HX.out, HY.out]
  clear HX HY
  generalize a.natAbs = X at HB HV ⊢
  generalize b.natAbs = Y at HB HV ⊢
  go_loop [7, 8, 9] (fun q r i => ∃ z Q R : Int, -1 ≤ z ∧ z ≤ 63 ∧ i = .int .i64 z ∧ q = .int .u64 Q ∧ r = .int .u64 R ∧ Hid (Dv X Y z Q R)) (fun _ _ i => (intOf i + 1).toNat)
  case atStart => exact ⟨63, 0, 0, by omega, by omega, rfl, rfl, rfl, Dv.start HB.out.1⟩
  case round =>
    obtain ⟨z, Q, R, hz1, hz2, rfl, rfl, rfl, HD⟩ := hrel
    by_cases hz : 0 ≤ z
    · have tz : decide (0 ≤ z) = true := by simp [hz]
      have to : decide (9223372036854775808 ≤ R) = false := by have := HD.out.low HB.out.2.1 HB.out.2.2; simp; omega
      by_cases hl : rr X z R < Y
      · have tl : decide ((Y : Int) ≤ IntKind.u64.wrap (IntKind.u64.wrap (R * 2) + ((X : Int) / 2 ^ z.toNat).tmod 2)) = false := by
          rw [decide_eq_false_iff_not]; show ¬ (Y : Int) ≤ rr X z R; omega
        have HN : Hid (Dv X Y (z - 1) Q (IntKind.u64.wrap (IntKind.u64.wrap (R * 2) + ((X : Int) / 2 ^ z.toNat).tmod 2))) := HD.out.less HB.out.2.1 HB.out.2.2 hz hl
        clear hl
        go_wp2_with fail
        go_round
        case rel => exact ⟨z - 1, _, _, by omega, by omega, rfl, rfl, rfl, HN⟩
        case measure => simp [intOf]; omega
      · have tl : decide ((Y : Int) ≤ IntKind.u64.wrap (IntKind.u64.wrap (R * 2) + ((X : Int) / 2 ^ z.toNat).tmod 2)) = true := by
          rw [decide_eq_true_eq]; show (Y : Int) ≤ rr X z R; omega
        have HN : Hid (Dv X Y (z - 1) (IntKind.u64.wrap (Q + IntKind.u64.wrap (2 ^ z.toNat))) (IntKind.u64.wrap (IntKind.u64.wrap (IntKind.u64.wrap (R * 2) + ((X : Int) / 2 ^ z.toNat).tmod 2) - Y))) := HD.out.more HB.out.1 HB.out.2.1 HB.out.2.2 hz hz2 hl
        clear hl
        go_wp2_with fail
        go_round
        case rel => exact ⟨z - 1, _, _, by omega, by omega, rfl, rfl, rfl, HN⟩
        case measure => simp [intOf]; omega
    · obtain rfl : z = -1 := by omega
      have HQ : Hid (wrap64 Q = divV a b) := by show _ = _; rw [HD.out.done.1, HV.out]
      clear hz
      go_wp2_with fail
      go_ret
      exact ⟨ret1 HQ.out, rfl⟩
set_option maxRecDepth 100000 in
set_option maxHeartbeats 1000000 in
theorem rquo_np (a b : Int) (ha : In64 a) (hb : In64 b) (h0 : b ≠ 0) (h1 : a < 0) (h2 : ¬ b < 0) (w : World) : Calls Tryd.prog 47 #[.int .i64 a, .int .i64 b] w fun e w' => e = .returned (.int .i64 (divV a b)) ∧ w' = w := by
  have HX : Hid (IntKind.u64.wrap (-IntKind.u64.wrap a) = (a.natAbs : Int)) := abs_neg ha h1
  have HY : Hid (IntKind.u64.wrap b = (b.natAbs : Int)) := abs_pos hb h2
  have HV : Hid (divV a b = _) := quo_d h0 (.inl ⟨h1, h2⟩)
  have HB : Hid (a.natAbs ≤ 9223372036854775808 ∧ 0 < b.natAbs ∧ b.natAbs ≤ 9223372036854775808) := ⟨abs_le ha, by omega, abs_le hb⟩
  have t1 : decide (a < 0) = true := by simp [h1]
  have t2 : decide (b < 0) = false := by simp [h2]
  clear h0 h1 h2 ha hb
  go_enter Tryd.func47, Tryd.ntmps47
  go_wp2_with fail
  rw [HX.out, HY.out]
  clear HX HY
  generalize a.natAbs = X at HB HV ⊢
  generalize b.natAbs = Y at HB HV ⊢
  go_loop [7, 8, 9] (fun q r i => ∃ z Q R : Int, -1 ≤ z ∧ z ≤ 63 ∧ i = .int .i64 z ∧ q = .int .u64 Q ∧ r = .int .u64 R ∧ Hid (Dv X Y z Q R)) (fun _ _ i => (intOf i + 1).toNat)
  case atStart => exact ⟨63, 0, 0, by omega, by omega, rfl, rfl, rfl, Dv.start HB.out.1⟩
  case round =>
    obtain ⟨z, Q, R, hz1, hz2, rfl, rfl, rfl, HD⟩ := hrel
    by_cases hz : 0 ≤ z
    · have tz : decide (0 ≤ z) = true := by simp [hz]
      have to : decide (9223372036854775808 ≤ R) = false := by have := HD.out.low HB.out.2.1 HB.out.2.2; simp; omega
      by_cases hl : rr X z R < Y
      · have tl : decide ((Y : Int) ≤ IntKind.u64.wrap (IntKind.u64.wrap (R * 2) + ((X : Int) / 2 ^ z.toNat).tmod 2)) = false := by
          rw [decide_eq_false_iff_not]; show ¬ (Y : Int) ≤ rr X z R; omega
        have HN : Hid (Dv X Y (z - 1) Q (IntKind.u64.wrap (IntKind.u64.wrap (R * 2) + ((X : Int) / 2 ^ z.toNat).tmod 2))) := HD.out.less HB.out.2.1 HB.out.2.2 hz hl
        clear hl
        go_wp2_with fail
        go_round
        case rel => exact ⟨z - 1, _, _, by omega, by omega, rfl, rfl, rfl, HN⟩
        case measure => simp [intOf]; omega
      · have tl : decide ((Y : Int) ≤ IntKind.u64.wrap (IntKind.u64.wrap (R * 2) + ((X : Int) / 2 ^ z.toNat).tmod 2)) = true := by
          rw [decide_eq_true_eq]; show (Y : Int) ≤ rr X z R; omega
        have HN : Hid (Dv X Y (z - 1) (IntKind.u64.wrap (Q + IntKind.u64.wrap (2 ^ z.toNat))) (IntKind.u64.wrap (IntKind.u64.wrap (IntKind.u64.wrap (R * 2) + ((X : Int) / 2 ^ z.toNat).tmod 2) - Y))) := HD.out.more HB.out.1 HB.out.2.1 HB.out.2.2 hz hz2 hl
        clear hl
        go_wp2_with fail
        go_round
        case rel => exact ⟨z - 1, _, _, by omega, by omega, rfl, rfl, rfl, HN⟩
        case measure => simp [intOf]; omega
    · obtain rfl : z = -1 := by omega
      obtain ⟨e1, e2⟩ := HD.out.done
      by_cases hr : X % Y = 0
      · have tr : (R != 0) = false := by rw [e2, hr]; rfl
        have HQ : Hid (wrap64 (IntKind.u64.wrap (-Q)) = divV a b) := by show _ = _; rw [HV.out, if_pos hr, w_u64, e1]
        clear hz e1 e2 hr
        go_wp2_with fail
        go_ret
        exact ⟨ret1 HQ.out, rfl⟩
      · have tr : (R != 0) = true := by rw [e2]; simp; omega
        have HQ : Hid (wrap64 (IntKind.u64.wrap (-IntKind.u64.wrap (Q + 1))) = divV a b) := by show _ = _; rw [HV.out, if_neg hr, u64_neg, e1]
        clear hz e1 e2 hr
        go_wp2_with fail
        go_ret
        exact ⟨ret1 HQ.out, rfl⟩
set_option maxRecDepth 100000 in
set_option maxHeartbeats 1000000 in
theorem rquo_pn (a b : Int) (ha : In64 a) (hb : In64 b) (h0 : b ≠ 0) (h1 : ¬ a < 0) (h2 : b < 0) (w : World) : Calls Tryd.prog 47 #[.int .i64 a, .int .i64 b] w fun e w' => e = .returned (.int .i64 (divV a b)) ∧ w' = w := by
  have HX : Hid (IntKind.u64.wrap a = (a.natAbs : Int)) := abs_pos ha h1
  have HY : Hid (IntKind.u64.wrap (-IntKind.u64.wrap b) = (b.natAbs : Int)) := abs_neg hb h2
  have HV : Hid (divV a b = _) := quo_d h0 (.inr ⟨h1, h2⟩)
  have HB : Hid (a.natAbs ≤ 9223372036854775808 ∧ 0 < b.natAbs ∧ b.natAbs ≤ 9223372036854775808) := ⟨abs_le ha, by omega, abs_le hb⟩
  have t1 : decide (a < 0) = false := by simp [h1]
  have t2 : decide (b < 0) = true := by simp [h2]
  clear h0 h1 h2 ha hb
  go_enter Tryd.func47, Tryd.ntmps47
  go_wp2_with fail
  rw [HX.out, HY.out]
  clear HX HY
  generalize a.natAbs = X at HB HV ⊢
  generalize b.natAbs = Y at HB HV ⊢
  go_loop [7, 8, 9] (fun q r i => ∃ z Q R : Int, -1 ≤ z ∧ z ≤ 63 ∧ i = .int .i64 z ∧ q = .int .u64 Q ∧ r = .int .u64 R ∧ Hid (Dv X Y z Q R)) (fun _ _ i => (intOf i + 1).toNat)
  case atStart => exact ⟨63, 0, 0, by omega, by omega, rfl, rfl, rfl, Dv.start HB.out.1⟩
  case round =>
    obtain ⟨z, Q, R, hz1, hz2, rfl, rfl, rfl, HD⟩ := hrel
    by_cases hz : 0 ≤ z
    · have tz : decide (0 ≤ z) = true := by simp [hz]
      have to : decide (9223372036854775808 ≤ R) = false := by have := HD.out.low HB.out.2.1 HB.out.2.2; simp; omega
      by_cases hl : rr X z R < Y
      · have tl : decide ((Y : Int) ≤ IntKind.u64.wrap (IntKind.u64.wrap (R * 2) + ((X : Int) / 2 ^ z.toNat).tmod 2)) = false := by
          rw [decide_eq_false_iff_not]; show ¬ (Y : Int) ≤ rr X z R; omega
        have HN : Hid (Dv X Y (z - 1) Q (IntKind.u64.wrap (IntKind.u64.wrap (R * 2) + ((X : Int) / 2 ^ z.toNat).tmod 2))) := HD.out.less HB.out.2.1 HB.out.2.2 hz hl
        clear hl
        go_wp2_with fail
        go_round
        case rel => exact ⟨z - 1, _, _, by omega, by omega, rfl, rfl, rfl, HN⟩
        case measure => simp [intOf]; omega
      · have tl : decide ((Y : Int) ≤ IntKind.u64.wrap (IntKind.u64.wrap (R * 2) + ((X : Int) / 2 ^ z.toNat).tmod 2)) = true := by
          rw [decide_eq_true_eq]; show (Y : Int) ≤ rr X z R; omega
        have HN : Hid (Dv X Y (z - 1) (IntKind.u64.wrap (Q + IntKind.u64.wrap (2 ^ z.toNat))) (IntKind.u64.wrap (IntKind.u64.wrap (IntKind.u64.wrap (R * 2) + ((X : Int) / 2 ^ z.toNat).tmod 2) - Y))) := HD.out.more HB.out.1 HB.out.2.1 HB.out.2.2 hz hz2 hl
        clear hl
        go_wp2_with fail
        go_round
        case rel => exact ⟨z - 1, _, _, by omega, by omega, rfl, rfl, rfl, HN⟩
        case measure => simp [intOf]; omega
    · obtain rfl : z = -1 := by omega
      obtain ⟨e1, e2⟩ := HD.out.done
      by_cases hr : X % Y = 0
      · have tr : (R != 0) = false := by rw [e2, hr]; rfl
        have HQ : Hid (wrap64 (IntKind.u64.wrap (-Q)) = divV a b) := by show _ = _; rw [HV.out, if_pos hr, w_u64, e1]
        clear hz e1 e2 hr
        go_wp2_with fail
        go_ret
        exact ⟨ret1 HQ.out, rfl⟩
      · have tr : (R != 0) = true := by rw [e2]; simp; omega
        have HQ : Hid (wrap64 (IntKind.u64.wrap (-IntKind.u64.wrap (Q + 1))) = divV a b) := by show _ = _; rw [HV.out, if_neg hr, u64_neg, e1]
        clear hz e1 e2 hr
        go_wp2_with fail
        go_ret
        exact ⟨ret1 HQ.out, rfl⟩
set_option maxRecDepth 100000 in
set_option maxHeartbeats 1000000 in
theorem rquo_pp (a b : Int) (ha : In64 a) (hb : In64 b) (h0 : b ≠ 0) (h1 : ¬ a < 0) (h2 : ¬ b < 0) (w : World) : Calls Tryd.prog 47 #[.int .i64 a, .int .i64 b] w fun e w' => e = .returned (.int .i64 (divV a b)) ∧ w' = w := by
  have HX : Hid (IntKind.u64.wrap a = (a.natAbs : Int)) := abs_pos ha h1
  have HY : Hid (IntKind.u64.wrap b = (b.natAbs : Int)) := abs_pos hb h2
  have HV : Hid (wrap64 ((a.natAbs / b.natAbs : Nat) : Int) = divV a b) := quo_pp h1 h2
  have HB : Hid (a.natAbs ≤ 9223372036854775808 ∧ 0 < b.natAbs ∧ b.natAbs ≤ 9223372036854775808) := ⟨abs_le ha, by omega, abs_le hb⟩
  have t1 : decide (a < 0) = false := by simp [h1]
  have t2 : decide (b < 0) = false := by simp [h2]
  clear h0 h1 h2 ha hb
  go_enter Tryd.func47, Tryd.ntmps47
  go_wp2_with fail
  rw [HX.out, HY.out]
  clear HX HY
  generalize a.natAbs = X at HB HV ⊢
  generalize b.natAbs = Y at HB HV ⊢
  go_loop [7, 8, 9] (fun q r i => ∃ z Q R : Int, -1 ≤ z ∧ z ≤ 63 ∧ i = .int .i64 z ∧ q = .int .u64 Q ∧ r = .int .u64 R ∧ Hid (Dv X Y z Q R)) (fun _ _ i => (intOf i + 1).toNat)
  case atStart => exact ⟨63, 0, 0, by omega, by omega, rfl, rfl, rfl, Dv.start HB.out.1⟩
  case round =>
    obtain ⟨z, Q, R, hz1, hz2, rfl, rfl, rfl, HD⟩ := hrel
    by_cases hz : 0 ≤ z
    · have tz : decide (0 ≤ z) = true := by simp [hz]
      have to : decide (9223372036854775808 ≤ R) = false := by have := HD.out.low HB.out.2.1 HB.out.2.2; simp; omega
      by_cases hl : rr X z R < Y
      · have tl : decide ((Y : Int) ≤ IntKind.u64.wrap (IntKind.u64.wrap (R * 2) + ((X : Int) / 2 ^ z.toNat).tmod 2)) = false := by
          rw [decide_eq_false_iff_not]; show ¬ (Y : Int) ≤ rr X z R; omega
        have HN : Hid (Dv X Y (z - 1) Q (IntKind.u64.wrap (IntKind.u64.wrap (R * 2) + ((X : Int) / 2 ^ z.toNat).tmod 2))) := HD.out.less HB.out.2.1 HB.out.2.2 hz hl
        clear hl
        go_wp2_with fail
        go_round
        case rel => exact ⟨z - 1, _, _, by omega, by omega, rfl, rfl, rfl, HN⟩
        case measure => simp [intOf]; omega
      · have tl : decide ((Y : Int) ≤ IntKind.u64.wrap (IntKind.u64.wrap (R * 2) + ((X : Int) / 2 ^ z.toNat).tmod 2)) = true := by
          rw [decide_eq_true_eq]; show (Y : Int) ≤ rr X z R; omega
        have HN : Hid (Dv X Y (z - 1) (IntKind.u64.wrap (Q + IntKind.u64.wrap (2 ^ z.toNat))) (IntKind.u64.wrap (IntKind.u64.wrap (IntKind.u64.wrap (R * 2) + ((X : Int) / 2 ^ z.toNat).tmod 2) - Y))) := HD.out.more HB.out.1 HB.out.2.1 HB.out.2.2 hz hz2 hl
        clear hl
        go_wp2_with fail
        go_round
        case rel => exact ⟨z - 1, _, _, by omega, by omega, rfl, rfl, rfl, HN⟩
        case measure => simp [intOf]; omega
    · obtain rfl : z = -1 := by omega
      have HQ : Hid (wrap64 Q = divV a b) := by show _ = _; rw [HD.out.done.1, HV.out]
      clear hz
      go_wp2_with fail
      go_ret
      exact ⟨ret1 HQ.out, rfl⟩
theorem rquo_any (a b : Int) (ha : In64 a) (hb : In64 b) (h0 : b ≠ 0) (w : World) : Calls Tryd.prog 47 #[.int .i64 a, .int .i64 b] w fun e w' => e = .returned (.int .i64 (divV a b)) ∧ w' = w := by
  by_cases h1 : a < 0
  · by_cases h2 : b < 0
    · exact rquo_nn a b ha hb h0 h1 h2 w
    · exact rquo_np a b ha hb h0 h1 h2 w
  · by_cases h2 : b < 0
    · exact rquo_pn a b ha hb h0 h1 h2 w
    · exact rquo_pp a b ha hb h0 h1 h2 w
end Go.Proofs.YtcpmendkocnlhaaDoor
/-! Euc: Plain mathematics of Euclid's rows: what they end with divides both, is divided by all that does, and is the sum; nothing of the program. -/
namespace Go.Proofs.YtcpmendkocnlhaaDoor
open Go.RowKit
set_option linter.unusedVariables false

/-- One number of a row, less so many times that of another. -/
def ls (q a x : Int) : Int := wrap64 (a - wrap64 (q * x))
theorem ls_eq (q a x : Int) : ls q a x = wrap64 (a - q * x) := w_subr _ _
theorem ls_in (q a x : Int) : In64 (ls q a x) := In64.w _
theorem tmod_abs (a : Int) {b : Int} (h : b ≠ 0) : (a.tmod b).natAbs < b.natAbs := by
  rw [Int.natAbs_tmod]
  exact Nat.mod_lt _ (by omega)
/-- The row that the rows of two numbers end with, reckoned from the end back, in so many steps at most. -/
def eucF : Nat → Int → Int → Int × Int × Int
  | 0, a, _ => (a, 1, 0)
  | n + 1, a, b => if b = 0 then (a, 1, 0) else ((eucF n b (a.tmod b)).1, (eucF n b (a.tmod b)).2.2, ls (a.tdiv b) (eucF n b (a.tmod b)).2.1 (eucF n b (a.tmod b)).2.2)
theorem eucF_zero (n : Nat) (a : Int) : eucF n a 0 = (a, 1, 0) := by cases n <;> simp [eucF]
theorem eucF_same (n : Nat) : ∀ (m : Nat) (a b : Int), b.natAbs ≤ n → b.natAbs ≤ m → eucF n a b = eucF m a b := by
  induction n with
  | zero =>
    intro m a b hn _
    obtain rfl : b = 0 := by omega
    rw [eucF_zero, eucF_zero]
  | succ n ih =>
    intro m a b hn hm
    by_cases h : b = 0
    · subst h; rw [eucF_zero, eucF_zero]
    · have ht := tmod_abs a h
      obtain ⟨k, rfl⟩ : ∃ k, m = k + 1 := ⟨m - 1, by omega⟩
      simp only [eucF, h, if_false]
      rw [ih k b (a.tmod b) (by omega) (by omega)]
def euc (a b : Int) : Int × Int × Int := eucF b.natAbs a b
theorem euc_zero (a : Int) : euc a 0 = (a, 1, 0) := eucF_zero _ a
theorem euc_step (a : Int) {b : Int} (h : b ≠ 0) : euc a b = ((euc b (a.tmod b)).1, (euc b (a.tmod b)).2.2, ls (a.tdiv b) (euc b (a.tmod b)).2.1 (euc b (a.tmod b)).2.2) := by
  have ht := tmod_abs a h
  unfold euc
  obtain ⟨k, hk⟩ : ∃ k, b.natAbs = k + 1 := ⟨b.natAbs - 1, by omega⟩
  rw [hk]
  simp only [eucF, h, if_false]
  rw [eucF_same k (a.tmod b).natAbs b (a.tmod b) (by omega) (Nat.le_refl _)]
theorem euc_ind {P : Int → Int → Prop} (h0 : ∀ a, P a 0) (h1 : ∀ a b, b ≠ 0 → P b (a.tmod b) → P a b) (a b : Int) : P a b := by
  generalize hn : b.natAbs = n
  induction n using Nat.strongRecOn generalizing a b with
  | _ n ih =>
    by_cases h : b = 0
    · subst h; exact h0 a
    · exact h1 a b h (ih _ (by rw [← hn]; exact tmod_abs a h) b (a.tmod b) rfl)
theorem tmod_is (a b : Int) : a - a.tdiv b * b = a.tmod b := by have := Int.tmod_add_mul_tdiv a b; rw [Int.mul_comm] at this; omega
/-- Numbers that are not the least one. -/
def In63 (a : Int) : Prop := -9223372036854775807 ≤ a ∧ a ≤ 9223372036854775807
theorem In63.in64 {a : Int} (h : In63 a) : In64 a := by unfold In63 In64 at *; omega
theorem In63.tmod {a b : Int} (hb : In63 b) (h : b ≠ 0) : In63 (a.tmod b) := by
  have := tmod_abs a h
  unfold In63 at *
  omega
theorem In63.tdiv {a : Int} (ha : In63 a) (b : Int) : In63 (a.tdiv b) := by
  have : (a.tdiv b).natAbs ≤ a.natAbs := by rw [Int.natAbs_tdiv]; exact Nat.div_le_self _ _
  unfold In63 at *
  omega
theorem euc_coef (a b : Int) : In64 (euc a b).2.1 ∧ In64 (euc a b).2.2 := by
  induction a, b using euc_ind with
  | h0 a => rw [euc_zero]; show In64 1 ∧ In64 0; unfold In64; decide
  | h1 a b h ih => rw [euc_step a h]; exact ⟨ih.2, ls_in _ _ _⟩
theorem euc_g63 {a b : Int} (ha : In63 a) (hb : In63 b) : In63 (euc a b).1 := by
  induction a, b using euc_ind with
  | h0 a => rw [euc_zero]; exact ha
  | h1 a b h ih => rw [euc_step a h]; exact ih hb (In63.tmod hb h)
theorem euc_dvd (a b : Int) : (euc a b).1 ∣ a ∧ (euc a b).1 ∣ b := by
  induction a, b using euc_ind with
  | h0 a => rw [euc_zero]; exact ⟨Int.dvd_refl a, Int.dvd_zero a⟩
  | h1 a b h ih =>
    rw [euc_step a h]
    refine ⟨?_, ih.1⟩
    have e := Int.tmod_add_mul_tdiv a b
    have := Int.dvd_add ih.2 (Int.dvd_mul_of_dvd_left ih.1 (c := a.tdiv b))
    rw [e] at this
    exact this
theorem euc_great (a b d : Int) (h1 : d ∣ a) (h2 : d ∣ b) : d ∣ (euc a b).1 := by
  induction a, b using euc_ind with
  | h0 a => rw [euc_zero]; exact h1
  | h1 a b h ih =>
    rw [euc_step a h]
    refine ih h2 ?_
    rw [← tmod_is]
    exact Int.dvd_sub h1 (Int.dvd_mul_of_dvd_right h2)
theorem euc_sum (a b : Int) : wrap64 (a * (euc a b).2.1 + b * (euc a b).2.2) = wrap64 (euc a b).1 := by
  induction a, b using euc_ind with
  | h0 a => rw [euc_zero]; simp
  | h1 a b h ih =>
    rw [euc_step a h]
    show wrap64 (a * (euc b (a.tmod b)).2.2 + b * ls (a.tdiv b) (euc b (a.tmod b)).2.1 (euc b (a.tmod b)).2.2) = wrap64 (euc b (a.tmod b)).1
    rw [ls_eq, ← w_addr, w_mulr, w_addr, ← ih]
    congr 1
    have e := tmod_is a b
    grind
/-- The rows as far as they have come. -/
def Bz (a b r0 x0 y0 r1 x1 y1 : Int) : Prop := In63 r0 ∧ In63 r1 ∧ In64 x0 ∧ In64 y0 ∧ In64 x1 ∧ In64 y1 ∧ (euc r0 r1).1 = (euc a b).1 ∧
  wrap64 ((euc r0 r1).2.1 * x0 + (euc r0 r1).2.2 * x1) = (euc a b).2.1 ∧ wrap64 ((euc r0 r1).2.1 * y0 + (euc r0 r1).2.2 * y1) = (euc a b).2.2
theorem Bz.start {a b : Int} (ha : In63 a) (hb : In63 b) : Bz a b a 1 0 b 0 1 := by
  have h0 : In64 0 := by unfold In64; decide
  have h1 : In64 1 := by unfold In64; decide
  refine ⟨ha, hb, h1, h0, h0, h1, rfl, ?_, ?_⟩
  · rw [Int.mul_one, Int.mul_zero, Int.add_zero]; exact (euc_coef a b).1.same
  · rw [Int.mul_one, Int.mul_zero, Int.zero_add]; exact (euc_coef a b).2.same
theorem w_l3 (a b y : Int) : wrap64 (a + wrap64 b * y) = wrap64 (a + b * y) := by rw [← w_addr, w_mull, w_addr]
theorem w_r3 (a v b : Int) : wrap64 (a + v * wrap64 b) = wrap64 (a + v * b) := by rw [← w_addr, w_mulr, w_addr]
theorem w_two {u v x q y : Int} : wrap64 (u * y + v * ls q x y) = wrap64 (v * x + ls q u v * y) := by
  rw [ls_eq, ls_eq, w_r3, w_l3]
  congr 1
  grind
theorem ls_tmod {r0 r1 : Int} (h1 : In63 r1) (h : r1 ≠ 0) : ls (r0.tdiv r1) r0 r1 = r0.tmod r1 := by
  rw [ls_eq, tmod_is]
  exact (In63.tmod h1 h).in64.same
theorem Bz.next {a b r0 x0 y0 r1 x1 y1 : Int} (h : Bz a b r0 x0 y0 r1 x1 y1) (hz : r1 ≠ 0) :
    Bz a b r1 x1 y1 (ls (r0.tdiv r1) r0 r1) (ls (r0.tdiv r1) x0 x1) (ls (r0.tdiv r1) y0 y1) := by
  obtain ⟨h1, h2, h3, h4, h5, h6, h7, h8, h9⟩ := h
  rw [euc_step r0 hz] at h7 h8 h9
  have e := ls_tmod (r0 := r0) h2 hz
  refine ⟨h2, by rw [e]; exact In63.tmod h2 hz, h5, h6, ls_in _ _ _, ls_in _ _ _, by rw [e]; exact h7, ?_, ?_⟩
  · rw [e, ← h8]; exact w_two
  · rw [e, ← h9]; exact w_two
theorem Bz.done {a b r0 x0 y0 x1 y1 : Int} (h : Bz a b r0 x0 y0 0 x1 y1) : r0 = (euc a b).1 ∧ x0 = (euc a b).2.1 ∧ y0 = (euc a b).2.2 := by
  obtain ⟨h1, h2, h3, h4, h5, h6, h7, h8, h9⟩ := h
  rw [euc_zero] at h7 h8 h9
  refine ⟨h7, ?_, ?_⟩
  · rw [← h8]; simp [h3.same]
  · rw [← h9]; simp [h4.same]
/-- A number of the first row, the other sign where the row begins with one below 0. -/
def nz (g v : Int) : Int := if g < 0 then ls 1 0 v else v
def bz1 (a b : Int) : Int := nz (euc a b).1 (euc a b).1
def bz2 (a b : Int) : Int := nz (euc a b).1 (euc a b).2.1
def bz3 (a b : Int) : Int := nz (euc a b).1 (euc a b).2.2
theorem ls_neg (v : Int) : ls 1 0 v = wrap64 (-v) := by rw [ls_eq, Int.one_mul, Int.zero_sub]
theorem nz_in {g v : Int} (h : In64 v) : In64 (nz g v) := by unfold nz; split; · exact ls_in _ _ _
                                                             · exact h
theorem bz1_is {a b : Int} (ha : In63 a) (hb : In63 b) : bz1 a b = if (euc a b).1 < 0 then -(euc a b).1 else (euc a b).1 := by
  unfold bz1 nz
  split
  · rw [ls_neg]
    have := euc_g63 ha hb
    unfold In63 at this
    exact w_small (by omega) (by omega)
  · rfl
theorem bz1_nonneg {a b : Int} (ha : In63 a) (hb : In63 b) : 0 ≤ bz1 a b := by rw [bz1_is ha hb]; split <;> omega
theorem bz1_zero {a b : Int} (ha : In63 a) (hb : In63 b) (h : bz1 a b = 0) : a = 0 ∧ b = 0 := by
  have h0 : (euc a b).1 = 0 := by rw [bz1_is ha hb] at h; split at h <;> omega
  have := euc_dvd a b
  rw [h0] at this
  exact ⟨Int.zero_dvd.1 this.1, Int.zero_dvd.1 this.2⟩
theorem bz1_dvd {a b : Int} (ha : In63 a) (hb : In63 b) : bz1 a b ∣ a ∧ bz1 a b ∣ b := by
  rw [bz1_is ha hb]
  have := euc_dvd a b
  split
  · exact ⟨Int.neg_dvd.2 this.1, Int.neg_dvd.2 this.2⟩
  · exact this
theorem bz1_great {a b d : Int} (ha : In63 a) (hb : In63 b) (h1 : d ∣ a) (h2 : d ∣ b) : d ∣ bz1 a b := by
  rw [bz1_is ha hb]
  have := euc_great a b d h1 h2
  split
  · exact Int.dvd_neg.2 this
  · exact this
theorem bz_sum {a b : Int} (ha : In63 a) (hb : In63 b) : wrap64 (wrap64 (a * bz2 a b) + wrap64 (b * bz3 a b)) = bz1 a b := by
  have hs := euc_sum a b
  have h63 := euc_g63 ha hb
  unfold bz1 bz2 bz3 nz
  rw [w_addl, w_addr]
  by_cases hg : (euc a b).1 < 0
  · rw [if_pos hg, if_pos hg, if_pos hg, ls_neg, ls_neg, ls_neg, ← w_addl, w_mulr, w_addl, ← w_addr, w_mulr, w_addr, ← w_neg (euc a b).1, ← hs, w_neg]
    congr 1
    grind
  · rw [if_neg hg, if_neg hg, if_neg hg, hs]
    exact h63.in64.same
end Go.Proofs.YtcpmendkocnlhaaDoor
/-! Reuc: What the reference tells of two numbers' greatest common divisor, and of a power: both call themselves. -/
namespace Go.Proofs.YtcpmendkocnlhaaDoor
open Go.RowKit
set_option linter.unusedVariables false

theorem ret3i {a b c a' b' c' : Int} (h1 : a = a') (h2 : b = b') (h3 : c = c') : Ending.returned (.tuple #[.int .i64 a, .int .i64 b, .int .i64 c]) = .returned (.tuple #[.int .i64 a', .int .i64 b', .int .i64 c']) := by rw [h1, h2, h3]
set_option maxRecDepth 100000 in
set_option maxHeartbeats 1000000 in
theorem raised_any (a b : Int) (h0 : 0 ≤ b) (hm : b ≤ 9223372036854775807) (w : World) : Calls Tryd.prog 48 #[.int .i64 a, .int .i64 b] w fun e w' => e = .returned (.int .i64 (powV a b)) ∧ w' = w := by
  generalize hn : b.toNat = n
  induction n using Nat.strongRecOn generalizing b with
  | _ n ih =>
    by_cases hz : b = 0
    · subst hz
      go_enter Tryd.func48, Tryd.ntmps48
      go_wp2_with fail
      go_ret
      exact ⟨ret1 (by unfold powV; rw [show (0 : Int).toNat = 0 from rfl, Int.pow_zero]; exact (w_small (by decide) (by decide)).symm), rfl⟩
    · have HI : Hid (Calls Tryd.prog 48 #[.int .i64 a, .int .i64 (b / 2)] w fun e w' => e = .returned (.int .i64 (powV a (b / 2))) ∧ w' = w) := ih (b / 2).toNat (by omega) (b / 2) (by omega) (by omega) rfl
      have tz : (b == 0) = false := by simp [hz]
      have hs : ∀ x : Int, x ^ 2 = x * x := fun x => by rw [Int.pow_succ, Int.pow_succ, Int.pow_zero, Int.one_mul]
      by_cases ho : b % 2 = 1
      · have to : (b % 2 == 1) = true := by simp [ho]
        have HP : Hid (wrap64 (wrap64 (powV a (b / 2) * powV a (b / 2)) * a) = powV a b) := by
          show _ = _
          unfold powV
          rw [w_mull, Int.mul_assoc, w_mull, ← w_mulr, w_mull, w_mulr, show b.toNat = (b / 2).toNat + (b / 2).toNat + 1 from by omega, Int.pow_succ, Int.pow_add]
          congr 1
          grind
        clear ih hn ho hs
        go_enter Tryd.func48, Tryd.ntmps48
        go_wp2_with fail
        refine HI.out.mono ?_
        rintro e w1 ⟨rfl, hw⟩
        subst hw
        go_wp2_with fail
        go_ret
        exact ⟨ret1 HP.out, rfl⟩
      · have to : (b % 2 == 1) = false := by simp [ho]
        have HP : Hid (wrap64 (powV a (b / 2) * powV a (b / 2)) = powV a b) := by
          show _ = _
          unfold powV
          rw [w_mull, w_mulr, show b.toNat = (b / 2).toNat + (b / 2).toNat from by omega, Int.pow_add]
        clear ih hn ho hs
        go_enter Tryd.func48, Tryd.ntmps48
        go_wp2_with fail
        refine HI.out.mono ?_
        rintro e w1 ⟨rfl, hw⟩
        subst hw
        go_wp2_with fail
        go_ret
        exact ⟨ret1 HP.out, rfl⟩
end Go.Proofs.YtcpmendkocnlhaaDoor
/-! Rtwo: What the reference tells of two numbers, whatever the function. -/
namespace Go.Proofs.YtcpmendkocnlhaaDoor
open Go.RowKit
set_option linter.unusedVariables false

set_option maxHeartbeats 1000000 in
theorem truth_any (t : Bool) (w : World) : Calls Tryd.prog 36 #[.bool t] w fun e w' => e = .returned (.int .i64 (ifV t)) ∧ w' = w := by
  cases t
  · go_enter Tryd.func36, Tryd.ntmps36
    go_wp2_with fail
    go_ret
    exact ⟨rfl, rfl⟩
  · go_enter Tryd.func36, Tryd.ntmps36
    go_wp2_with fail
    go_ret
    exact ⟨rfl, rfl⟩
set_option maxRecDepth 100000 in
set_option maxHeartbeats 1000000 in
theorem ch_6 (a b : Int) (w : World) : Calls Tryd.prog 49 #[.int .i64 6, .int .i64 a, .int .i64 b] w fun e w' => e = .returned (.int .i64 (twoV 6 a b)) ∧ w' = w := by
  by_cases h : a < b
  · have tl : decide (a < b) = true := by simp [h]
    have HV : Hid (twoV 6 a b = b) := by show _ = _; rw [tv6]; omega
    clear h
    go_enter Tryd.func49, Tryd.ntmps49
    go_wp2_with fail
    go_ret
    exact ⟨ret1 HV.out.symm, rfl⟩
  · have tl : decide (a < b) = false := by simp [h]
    have HV : Hid (twoV 6 a b = a) := by show _ = _; rw [tv6]; omega
    clear h
    go_enter Tryd.func49, Tryd.ntmps49
    go_wp2_with fail
    go_ret
    exact ⟨ret1 HV.out.symm, rfl⟩
set_option maxRecDepth 100000 in
set_option maxHeartbeats 1000000 in
theorem ch_7 (a b : Int) (w : World) : Calls Tryd.prog 49 #[.int .i64 7, .int .i64 a, .int .i64 b] w fun e w' => e = .returned (.int .i64 (twoV 7 a b)) ∧ w' = w := by
  by_cases h : a < b
  · have tl : decide (a < b) = true := by simp [h]
    have HV : Hid (twoV 7 a b = a) := by show _ = _; rw [tv7]; omega
    clear h
    go_enter Tryd.func49, Tryd.ntmps49
    go_wp2_with fail
    go_ret
    exact ⟨ret1 HV.out.symm, rfl⟩
  · have tl : decide (a < b) = false := by simp [h]
    have HV : Hid (twoV 7 a b = b) := by show _ = _; rw [tv7]; omega
    clear h
    go_enter Tryd.func49, Tryd.ntmps49
    go_wp2_with fail
    go_ret
    exact ⟨ret1 HV.out.symm, rfl⟩
set_option maxRecDepth 100000 in
set_option maxHeartbeats 1000000 in
theorem ch_8 (a b : Int) (w : World) : Calls Tryd.prog 49 #[.int .i64 8, .int .i64 a, .int .i64 b] w fun e w' => e = .returned (.int .i64 (twoV 8 a b)) ∧ w' = w := by
  rcases (by omega : a < b ∨ a = b ∨ b < a) with h | h | h
  · have tl : decide (a < b) = true := by simp; omega
    have ts : (a == b) = false := by simp; omega
    have HV : Hid (ifV false = twoV 8 a b) := by
      show _ = _
      rw [tv8]
      congr 1
      symm
      simp
      omega
    clear h
    go_enter Tryd.func49, Tryd.ntmps49
    go_wp2_with fail
    refine (truth_any false w).mono ?_
    rintro e w1 ⟨rfl, hw⟩
    subst hw
    go_wp2_with fail
    go_ret
    exact ⟨ret1 HV.out, rfl⟩
  · have tl : decide (a < b) = false := by simp; omega
    have ts : (a == b) = true := by simp; omega
    have HV : Hid (ifV true = twoV 8 a b) := by
      show _ = _
      rw [tv8]
      congr 1
      symm
      simp
      omega
    clear h
    go_enter Tryd.func49, Tryd.ntmps49
    go_wp2_with fail
    refine (truth_any true w).mono ?_
    rintro e w1 ⟨rfl, hw⟩
    subst hw
    go_wp2_with fail
    go_ret
    exact ⟨ret1 HV.out, rfl⟩
  · have tl : decide (a < b) = false := by simp; omega
    have ts : (a == b) = false := by simp; omega
    have HV : Hid (ifV false = twoV 8 a b) := by
      show _ = _
      rw [tv8]
      congr 1
      symm
      simp
      omega
    clear h
    go_enter Tryd.func49, Tryd.ntmps49
    go_wp2_with fail
    refine (truth_any false w).mono ?_
    rintro e w1 ⟨rfl, hw⟩
    subst hw
    go_wp2_with fail
    go_ret
    exact ⟨ret1 HV.out, rfl⟩
set_option maxRecDepth 100000 in
set_option maxHeartbeats 1000000 in
theorem ch_9 (a b : Int) (w : World) : Calls Tryd.prog 49 #[.int .i64 9, .int .i64 a, .int .i64 b] w fun e w' => e = .returned (.int .i64 (twoV 9 a b)) ∧ w' = w := by
  rcases (by omega : a < b ∨ a = b ∨ b < a) with h | h | h
  · have tl : decide (a < b) = true := by simp; omega
    have ts : (a == b) = false := by simp; omega
    have HV : Hid (ifV true = twoV 9 a b) := by
      show _ = _
      rw [tv9]
      congr 1
      symm
      simp
      omega
    clear h
    go_enter Tryd.func49, Tryd.ntmps49
    go_wp2_with fail
    refine (truth_any true w).mono ?_
    rintro e w1 ⟨rfl, hw⟩
    subst hw
    go_wp2_with fail
    go_ret
    exact ⟨ret1 HV.out, rfl⟩
  · have tl : decide (a < b) = false := by simp; omega
    have ts : (a == b) = true := by simp; omega
    have HV : Hid (ifV false = twoV 9 a b) := by
      show _ = _
      rw [tv9]
      congr 1
      symm
      simp
      omega
    clear h
    go_enter Tryd.func49, Tryd.ntmps49
    go_wp2_with fail
    refine (truth_any false w).mono ?_
    rintro e w1 ⟨rfl, hw⟩
    subst hw
    go_wp2_with fail
    go_ret
    exact ⟨ret1 HV.out, rfl⟩
  · have tl : decide (a < b) = false := by simp; omega
    have ts : (a == b) = false := by simp; omega
    have HV : Hid (ifV true = twoV 9 a b) := by
      show _ = _
      rw [tv9]
      congr 1
      symm
      simp
      omega
    clear h
    go_enter Tryd.func49, Tryd.ntmps49
    go_wp2_with fail
    refine (truth_any true w).mono ?_
    rintro e w1 ⟨rfl, hw⟩
    subst hw
    go_wp2_with fail
    go_ret
    exact ⟨ret1 HV.out, rfl⟩
set_option maxRecDepth 100000 in
set_option maxHeartbeats 1000000 in
theorem ch_10 (a b : Int) (w : World) : Calls Tryd.prog 49 #[.int .i64 10, .int .i64 a, .int .i64 b] w fun e w' => e = .returned (.int .i64 (twoV 10 a b)) ∧ w' = w := by
  rcases (by omega : a < b ∨ a = b ∨ b < a) with h | h | h
  · have tl : decide (a < b) = true := by simp; omega
    have ts : (a == b) = false := by simp; omega
    have HV : Hid (ifV true = twoV 10 a b) := by
      show _ = _
      rw [tv10]
      congr 1
      symm
      simp
      omega
    clear h
    go_enter Tryd.func49, Tryd.ntmps49
    go_wp2_with fail
    refine (truth_any true w).mono ?_
    rintro e w1 ⟨rfl, hw⟩
    subst hw
    go_wp2_with fail
    go_ret
    exact ⟨ret1 HV.out, rfl⟩
  · have tl : decide (a < b) = false := by simp; omega
    have ts : (a == b) = true := by simp; omega
    have HV : Hid (ifV false = twoV 10 a b) := by
      show _ = _
      rw [tv10]
      congr 1
      symm
      simp
      omega
    clear h
    go_enter Tryd.func49, Tryd.ntmps49
    go_wp2_with fail
    refine (truth_any false w).mono ?_
    rintro e w1 ⟨rfl, hw⟩
    subst hw
    go_wp2_with fail
    go_ret
    exact ⟨ret1 HV.out, rfl⟩
  · have tl : decide (a < b) = false := by simp; omega
    have ts : (a == b) = false := by simp; omega
    have HV : Hid (ifV false = twoV 10 a b) := by
      show _ = _
      rw [tv10]
      congr 1
      symm
      simp
      omega
    clear h
    go_enter Tryd.func49, Tryd.ntmps49
    go_wp2_with fail
    refine (truth_any false w).mono ?_
    rintro e w1 ⟨rfl, hw⟩
    subst hw
    go_wp2_with fail
    go_ret
    exact ⟨ret1 HV.out, rfl⟩
set_option maxRecDepth 100000 in
set_option maxHeartbeats 1000000 in
theorem ch_11 (a b : Int) (w : World) : Calls Tryd.prog 49 #[.int .i64 11, .int .i64 a, .int .i64 b] w fun e w' => e = .returned (.int .i64 (twoV 11 a b)) ∧ w' = w := by
  rcases (by omega : a < b ∨ a = b ∨ b < a) with h | h | h
  · have tl : decide (a < b) = true := by simp; omega
    have ts : (a == b) = false := by simp; omega
    have HV : Hid (ifV true = twoV 11 a b) := by
      show _ = _
      rw [tv11]
      congr 1
      symm
      simp
      omega
    clear h
    go_enter Tryd.func49, Tryd.ntmps49
    go_wp2_with fail
    refine (truth_any true w).mono ?_
    rintro e w1 ⟨rfl, hw⟩
    subst hw
    go_wp2_with fail
    go_ret
    exact ⟨ret1 HV.out, rfl⟩
  · have tl : decide (a < b) = false := by simp; omega
    have ts : (a == b) = true := by simp; omega
    have HV : Hid (ifV true = twoV 11 a b) := by
      show _ = _
      rw [tv11]
      congr 1
      symm
      simp
      omega
    clear h
    go_enter Tryd.func49, Tryd.ntmps49
    go_wp2_with fail
    refine (truth_any true w).mono ?_
    rintro e w1 ⟨rfl, hw⟩
    subst hw
    go_wp2_with fail
    go_ret
    exact ⟨ret1 HV.out, rfl⟩
  · have tl : decide (a < b) = false := by simp; omega
    have ts : (a == b) = false := by simp; omega
    have HV : Hid (ifV false = twoV 11 a b) := by
      show _ = _
      rw [tv11]
      congr 1
      symm
      simp
      omega
    clear h
    go_enter Tryd.func49, Tryd.ntmps49
    go_wp2_with fail
    refine (truth_any false w).mono ?_
    rintro e w1 ⟨rfl, hw⟩
    subst hw
    go_wp2_with fail
    go_ret
    exact ⟨ret1 HV.out, rfl⟩
set_option maxRecDepth 100000 in
set_option maxHeartbeats 1000000 in
theorem ch_12 (a b : Int) (w : World) : Calls Tryd.prog 49 #[.int .i64 12, .int .i64 a, .int .i64 b] w fun e w' => e = .returned (.int .i64 (twoV 12 a b)) ∧ w' = w := by
  rcases (by omega : a < b ∨ a = b ∨ b < a) with h | h | h
  · have tl : decide (a < b) = true := by simp; omega
    have ts : (a == b) = false := by simp; omega
    have HV : Hid (ifV false = twoV 12 a b) := by
      show _ = _
      rw [tv12]
      congr 1
      symm
      simp
      omega
    clear h
    go_enter Tryd.func49, Tryd.ntmps49
    go_wp2_with fail
    refine (truth_any false w).mono ?_
    rintro e w1 ⟨rfl, hw⟩
    subst hw
    go_wp2_with fail
    go_ret
    exact ⟨ret1 HV.out, rfl⟩
  · have tl : decide (a < b) = false := by simp; omega
    have ts : (a == b) = true := by simp; omega
    have HV : Hid (ifV true = twoV 12 a b) := by
      show _ = _
      rw [tv12]
      congr 1
      symm
      simp
      omega
    clear h
    go_enter Tryd.func49, Tryd.ntmps49
    go_wp2_with fail
    refine (truth_any true w).mono ?_
    rintro e w1 ⟨rfl, hw⟩
    subst hw
    go_wp2_with fail
    go_ret
    exact ⟨ret1 HV.out, rfl⟩
  · have tl : decide (a < b) = false := by simp; omega
    have ts : (a == b) = false := by simp; omega
    have HV : Hid (ifV true = twoV 12 a b) := by
      show _ = _
      rw [tv12]
      congr 1
      symm
      simp
      omega
    clear h
    go_enter Tryd.func49, Tryd.ntmps49
    go_wp2_with fail
    refine (truth_any true w).mono ?_
    rintro e w1 ⟨rfl, hw⟩
    subst hw
    go_wp2_with fail
    go_ret
    exact ⟨ret1 HV.out, rfl⟩
set_option maxRecDepth 100000 in
set_option maxHeartbeats 1000000 in
theorem ch_13 (a b : Int) (w : World) : Calls Tryd.prog 49 #[.int .i64 13, .int .i64 a, .int .i64 b] w fun e w' => e = .returned (.int .i64 (twoV 13 a b)) ∧ w' = w := by
  rcases (by omega : a < b ∨ a = b ∨ b < a) with h | h | h
  · have tl : decide (a < b) = true := by simp; omega
    have ts : (a == b) = false := by simp; omega
    have HV : Hid (ifV false = twoV 13 a b) := by
      show _ = _
      rw [tv13]
      congr 1
      symm
      simp
      omega
    clear h
    go_enter Tryd.func49, Tryd.ntmps49
    go_wp2_with fail
    refine (truth_any false w).mono ?_
    rintro e w1 ⟨rfl, hw⟩
    subst hw
    go_wp2_with fail
    go_ret
    exact ⟨ret1 HV.out, rfl⟩
  · have tl : decide (a < b) = false := by simp; omega
    have ts : (a == b) = true := by simp; omega
    have HV : Hid (ifV false = twoV 13 a b) := by
      show _ = _
      rw [tv13]
      congr 1
      symm
      simp
      omega
    clear h
    go_enter Tryd.func49, Tryd.ntmps49
    go_wp2_with fail
    refine (truth_any false w).mono ?_
    rintro e w1 ⟨rfl, hw⟩
    subst hw
    go_wp2_with fail
    go_ret
    exact ⟨ret1 HV.out, rfl⟩
  · have tl : decide (a < b) = false := by simp; omega
    have ts : (a == b) = false := by simp; omega
    have HV : Hid (ifV true = twoV 13 a b) := by
      show _ = _
      rw [tv13]
      congr 1
      symm
      simp
      omega
    clear h
    go_enter Tryd.func49, Tryd.ntmps49
    go_wp2_with fail
    refine (truth_any true w).mono ?_
    rintro e w1 ⟨rfl, hw⟩
    subst hw
    go_wp2_with fail
    go_ret
    exact ⟨ret1 HV.out, rfl⟩
set_option maxRecDepth 100000 in
set_option maxHeartbeats 1000000 in
theorem ch_14 (a b : Int) (w : World) : Calls Tryd.prog 49 #[.int .i64 14, .int .i64 a, .int .i64 b] w fun e w' => e = .returned (.int .i64 (twoV 14 a b)) ∧ w' = w := by
  have HV : Hid (bitV a b true = twoV 14 a b) := (tv14 a b).symm
  go_enter Tryd.func49, Tryd.ntmps49
  go_wp2_with fail
  refine (rbit_any a b true w).mono ?_
  rintro e w1 ⟨rfl, hw⟩
  subst hw
  go_wp2_with fail
  go_ret
  exact ⟨ret1 HV.out, rfl⟩
set_option maxRecDepth 100000 in
set_option maxHeartbeats 1000000 in
theorem ch_15 (a b : Int) (w : World) : Calls Tryd.prog 49 #[.int .i64 15, .int .i64 a, .int .i64 b] w fun e w' => e = .returned (.int .i64 (twoV 15 a b)) ∧ w' = w := by
  have HV : Hid (bitV a b false = twoV 15 a b) := (tv15 a b).symm
  go_enter Tryd.func49, Tryd.ntmps49
  go_wp2_with fail
  refine (rbit_any a b false w).mono ?_
  rintro e w1 ⟨rfl, hw⟩
  subst hw
  go_wp2_with fail
  go_ret
  exact ⟨ret1 HV.out, rfl⟩
set_option maxRecDepth 100000 in
set_option maxHeartbeats 1000000 in
theorem rtwo_1 (a b : Int) (w : World) : Calls Tryd.prog 35 #[.int .i64 1, .int .i64 a, .int .i64 b] w fun e w' => e = .returned (.tuple #[.int .i64 (twoV 1 a b), .int .i64 (twoE 1 a b)]) ∧ w' = w := by
  go_enter Tryd.func35, Tryd.ntmps35
  go_wp2_with fail
  go_ret2
  exact ⟨ret2i (tv1 a b).symm (te0 (by decide) (by decide) (fun h => absurd h (by decide)) (fun h => absurd h (by decide))).symm, rfl⟩
set_option maxRecDepth 100000 in
set_option maxHeartbeats 1000000 in
theorem rtwo_2 (a b : Int) (w : World) : Calls Tryd.prog 35 #[.int .i64 2, .int .i64 a, .int .i64 b] w fun e w' => e = .returned (.tuple #[.int .i64 (twoV 2 a b), .int .i64 (twoE 2 a b)]) ∧ w' = w := by
  go_enter Tryd.func35, Tryd.ntmps35
  go_wp2_with fail
  go_ret2
  exact ⟨ret2i (tv2 a b).symm (te0 (by decide) (by decide) (fun h => absurd h (by decide)) (fun h => absurd h (by decide))).symm, rfl⟩
set_option maxRecDepth 100000 in
set_option maxHeartbeats 1000000 in
theorem rtwo_3 (a b : Int) (w : World) : Calls Tryd.prog 35 #[.int .i64 3, .int .i64 a, .int .i64 b] w fun e w' => e = .returned (.tuple #[.int .i64 (twoV 3 a b), .int .i64 (twoE 3 a b)]) ∧ w' = w := by
  go_enter Tryd.func35, Tryd.ntmps35
  go_wp2_with fail
  go_ret2
  exact ⟨ret2i (tv3 a b).symm (te0 (by decide) (by decide) (fun h => absurd h (by decide)) (fun h => absurd h (by decide))).symm, rfl⟩
set_option maxRecDepth 100000 in
set_option maxHeartbeats 1000000 in
theorem rtwo_4 (a b : Int) (ha : In64 a) (hb : In64 b) (w : World) : Calls Tryd.prog 35 #[.int .i64 4, .int .i64 a, .int .i64 b] w fun e w' => e = .returned (.tuple #[.int .i64 (twoV 4 a b), .int .i64 (twoE 4 a b)]) ∧ w' = w := by
  by_cases h : b = 0
  · subst h
    clear ha hb
    go_enter Tryd.func35, Tryd.ntmps35
    go_wp2_with fail
    go_ret2
    exact ⟨ret2i (by simp [twoV]) (by simp [twoE]), rfl⟩
  · have tz : (b == 0) = false := by simp [h]
    have HC : Hid (In64 a ∧ In64 b ∧ b ≠ 0) := ⟨ha, hb, h⟩
    clear h ha hb
    go_enter Tryd.func35, Tryd.ntmps35
    go_wp2_with fail
    refine (rquo_any a b HC.out.1 HC.out.2.1 HC.out.2.2 w).mono ?_
    rintro e w1 ⟨rfl, hw⟩
    subst hw
    go_wp2_with fail
    go_ret2
    exact ⟨ret2i (tv4 a b HC.out.2.2).symm (te0 (by decide) (by decide) (fun _ => HC.out.2.2) (fun h => absurd h (by decide))).symm, rfl⟩
set_option maxRecDepth 100000 in
set_option maxHeartbeats 1000000 in
theorem rtwo_5 (a b : Int) (ha : In64 a) (hb : In64 b) (w : World) : Calls Tryd.prog 35 #[.int .i64 5, .int .i64 a, .int .i64 b] w fun e w' => e = .returned (.tuple #[.int .i64 (twoV 5 a b), .int .i64 (twoE 5 a b)]) ∧ w' = w := by
  by_cases h : a = 0
  · subst h
    clear ha hb
    go_enter Tryd.func35, Tryd.ntmps35
    go_wp2_with fail
    go_ret2
    exact ⟨ret2i (by rw [tv5]; simp) (te0 (by decide) (by decide) (fun h => absurd h (by decide)) (fun h => absurd h (by decide))).symm, rfl⟩
  · have tz : (a == 0) = false := by simp [h]
    have HC : Hid (In64 a ∧ In64 b ∧ a ≠ 0) := ⟨ha, hb, h⟩
    have HE : Hid (wrap64 (b - wrap64 (a * divV b a)) = b.fmod a) := by
      show _ = _
      unfold divV
      rw [w_mulr, w_subr, fmod_is]
      exact (ha.fmod hb).same
    clear h ha hb
    go_enter Tryd.func35, Tryd.ntmps35
    go_wp2_with fail
    refine (rquo_any b a HC.out.2.1 HC.out.1 HC.out.2.2 w).mono ?_
    rintro e w1 ⟨rfl, hw⟩
    subst hw
    go_wp2_with fail
    go_ret2
    exact ⟨ret2i (HE.out.trans (tv5 a b).symm) (te0 (by decide) (by decide) (fun h => absurd h (by decide)) (fun h => absurd h (by decide))).symm, rfl⟩
set_option maxRecDepth 100000 in
set_option maxHeartbeats 1000000 in
theorem rtwo_6 (a b : Int) (w : World) : Calls Tryd.prog 35 #[.int .i64 6, .int .i64 a, .int .i64 b] w fun e w' => e = .returned (.tuple #[.int .i64 (twoV 6 a b), .int .i64 (twoE 6 a b)]) ∧ w' = w := by
  go_enter Tryd.func35, Tryd.ntmps35
  go_wp2_with fail
  refine (ch_6 a b w).mono ?_
  rintro e w1 ⟨rfl, hw⟩
  subst hw
  go_wp2_with fail
  go_ret2
  exact ⟨ret2i rfl (te0 (by decide) (by decide) (fun h => absurd h (by decide)) (fun h => absurd h (by decide))).symm, rfl⟩
set_option maxRecDepth 100000 in
set_option maxHeartbeats 1000000 in
theorem rtwo_7 (a b : Int) (w : World) : Calls Tryd.prog 35 #[.int .i64 7, .int .i64 a, .int .i64 b] w fun e w' => e = .returned (.tuple #[.int .i64 (twoV 7 a b), .int .i64 (twoE 7 a b)]) ∧ w' = w := by
  go_enter Tryd.func35, Tryd.ntmps35
  go_wp2_with fail
  refine (ch_7 a b w).mono ?_
  rintro e w1 ⟨rfl, hw⟩
  subst hw
  go_wp2_with fail
  go_ret2
  exact ⟨ret2i rfl (te0 (by decide) (by decide) (fun h => absurd h (by decide)) (fun h => absurd h (by decide))).symm, rfl⟩
set_option maxRecDepth 100000 in
set_option maxHeartbeats 1000000 in
theorem rtwo_8 (a b : Int) (w : World) : Calls Tryd.prog 35 #[.int .i64 8, .int .i64 a, .int .i64 b] w fun e w' => e = .returned (.tuple #[.int .i64 (twoV 8 a b), .int .i64 (twoE 8 a b)]) ∧ w' = w := by
  go_enter Tryd.func35, Tryd.ntmps35
  go_wp2_with fail
  refine (ch_8 a b w).mono ?_
  rintro e w1 ⟨rfl, hw⟩
  subst hw
  go_wp2_with fail
  go_ret2
  exact ⟨ret2i rfl (te0 (by decide) (by decide) (fun h => absurd h (by decide)) (fun h => absurd h (by decide))).symm, rfl⟩
set_option maxRecDepth 100000 in
set_option maxHeartbeats 1000000 in
theorem rtwo_9 (a b : Int) (w : World) : Calls Tryd.prog 35 #[.int .i64 9, .int .i64 a, .int .i64 b] w fun e w' => e = .returned (.tuple #[.int .i64 (twoV 9 a b), .int .i64 (twoE 9 a b)]) ∧ w' = w := by
  go_enter Tryd.func35, Tryd.ntmps35
  go_wp2_with fail
  refine (ch_9 a b w).mono ?_
  rintro e w1 ⟨rfl, hw⟩
  subst hw
  go_wp2_with fail
  go_ret2
  exact ⟨ret2i rfl (te0 (by decide) (by decide) (fun h => absurd h (by decide)) (fun h => absurd h (by decide))).symm, rfl⟩
set_option maxRecDepth 100000 in
set_option maxHeartbeats 1000000 in
theorem rtwo_10 (a b : Int) (w : World) : Calls Tryd.prog 35 #[.int .i64 10, .int .i64 a, .int .i64 b] w fun e w' => e = .returned (.tuple #[.int .i64 (twoV 10 a b), .int .i64 (twoE 10 a b)]) ∧ w' = w := by
  go_enter Tryd.func35, Tryd.ntmps35
  go_wp2_with fail
  refine (ch_10 a b w).mono ?_
  rintro e w1 ⟨rfl, hw⟩
  subst hw
  go_wp2_with fail
  go_ret2
  exact ⟨ret2i rfl (te0 (by decide) (by decide) (fun h => absurd h (by decide)) (fun h => absurd h (by decide))).symm, rfl⟩
set_option maxRecDepth 100000 in
set_option maxHeartbeats 1000000 in
theorem rtwo_11 (a b : Int) (w : World) : Calls Tryd.prog 35 #[.int .i64 11, .int .i64 a, .int .i64 b] w fun e w' => e = .returned (.tuple #[.int .i64 (twoV 11 a b), .int .i64 (twoE 11 a b)]) ∧ w' = w := by
  go_enter Tryd.func35, Tryd.ntmps35
  go_wp2_with fail
  refine (ch_11 a b w).mono ?_
  rintro e w1 ⟨rfl, hw⟩
  subst hw
  go_wp2_with fail
  go_ret2
  exact ⟨ret2i rfl (te0 (by decide) (by decide) (fun h => absurd h (by decide)) (fun h => absurd h (by decide))).symm, rfl⟩
set_option maxRecDepth 100000 in
set_option maxHeartbeats 1000000 in
theorem rtwo_12 (a b : Int) (w : World) : Calls Tryd.prog 35 #[.int .i64 12, .int .i64 a, .int .i64 b] w fun e w' => e = .returned (.tuple #[.int .i64 (twoV 12 a b), .int .i64 (twoE 12 a b)]) ∧ w' = w := by
  go_enter Tryd.func35, Tryd.ntmps35
  go_wp2_with fail
  refine (ch_12 a b w).mono ?_
  rintro e w1 ⟨rfl, hw⟩
  subst hw
  go_wp2_with fail
  go_ret2
  exact ⟨ret2i rfl (te0 (by decide) (by decide) (fun h => absurd h (by decide)) (fun h => absurd h (by decide))).symm, rfl⟩
set_option maxRecDepth 100000 in
set_option maxHeartbeats 1000000 in
theorem rtwo_13 (a b : Int) (w : World) : Calls Tryd.prog 35 #[.int .i64 13, .int .i64 a, .int .i64 b] w fun e w' => e = .returned (.tuple #[.int .i64 (twoV 13 a b), .int .i64 (twoE 13 a b)]) ∧ w' = w := by
  go_enter Tryd.func35, Tryd.ntmps35
  go_wp2_with fail
  refine (ch_13 a b w).mono ?_
  rintro e w1 ⟨rfl, hw⟩
  subst hw
  go_wp2_with fail
  go_ret2
  exact ⟨ret2i rfl (te0 (by decide) (by decide) (fun h => absurd h (by decide)) (fun h => absurd h (by decide))).symm, rfl⟩
set_option maxRecDepth 100000 in
set_option maxHeartbeats 1000000 in
theorem rtwo_14 (a b : Int) (w : World) : Calls Tryd.prog 35 #[.int .i64 14, .int .i64 a, .int .i64 b] w fun e w' => e = .returned (.tuple #[.int .i64 (twoV 14 a b), .int .i64 (twoE 14 a b)]) ∧ w' = w := by
  go_enter Tryd.func35, Tryd.ntmps35
  go_wp2_with fail
  refine (ch_14 a b w).mono ?_
  rintro e w1 ⟨rfl, hw⟩
  subst hw
  go_wp2_with fail
  go_ret2
  exact ⟨ret2i rfl (te0 (by decide) (by decide) (fun h => absurd h (by decide)) (fun h => absurd h (by decide))).symm, rfl⟩
set_option maxRecDepth 100000 in
set_option maxHeartbeats 1000000 in
theorem rtwo_15 (a b : Int) (w : World) : Calls Tryd.prog 35 #[.int .i64 15, .int .i64 a, .int .i64 b] w fun e w' => e = .returned (.tuple #[.int .i64 (twoV 15 a b), .int .i64 (twoE 15 a b)]) ∧ w' = w := by
  go_enter Tryd.func35, Tryd.ntmps35
  go_wp2_with fail
  refine (ch_15 a b w).mono ?_
  rintro e w1 ⟨rfl, hw⟩
  subst hw
  go_wp2_with fail
  go_ret2
  exact ⟨ret2i rfl (te0 (by decide) (by decide) (fun h => absurd h (by decide)) (fun h => absurd h (by decide))).symm, rfl⟩
set_option maxRecDepth 100000 in
set_option maxHeartbeats 1000000 in
theorem rtwo_16 (a b : Int) (ha : In64 a) (hb : In64 b) (w : World) : Calls Tryd.prog 35 #[.int .i64 16, .int .i64 a, .int .i64 b] w fun e w' => e = .returned (.tuple #[.int .i64 (twoV 16 a b), .int .i64 (twoE 16 a b)]) ∧ w' = w := by
  by_cases h : b < 0
  · have tz : decide (b < 0) = true := by simp [h]
    have HV : Hid (twoV 16 a b = 0 ∧ twoE 16 a b = 6) := by show _ ∧ _; simp [twoV, twoE, h]
    clear h ha hb
    go_enter Tryd.func35, Tryd.ntmps35
    go_wp2_with fail
    go_ret2
    exact ⟨ret2i HV.out.1.symm HV.out.2.symm, rfl⟩
  · have tz : decide (b < 0) = false := by simp [h]
    have HC : Hid (0 ≤ b ∧ b ≤ 9223372036854775807) := ⟨by omega, hb.2⟩
    have HV : Hid (powV a b = twoV 16 a b ∧ 0 = twoE 16 a b) := ⟨(tv16 a b h).symm, (te0 (by decide) (by decide) (fun h => absurd h (by decide)) (fun _ => h)).symm⟩
    clear h ha hb
    go_enter Tryd.func35, Tryd.ntmps35
    go_wp2_with fail
    refine (raised_any a b HC.out.1 HC.out.2 w).mono ?_
    rintro e w1 ⟨rfl, hw⟩
    subst hw
    go_wp2_with fail
    go_ret2
    exact ⟨ret2i HV.out.1 HV.out.2, rfl⟩
set_option maxRecDepth 100000 in
set_option maxHeartbeats 1000000 in
theorem rtwo_other (f a b : Int) (hf : f < 1 ∨ 16 < f) (w : World) : Calls Tryd.prog 35 #[.int .i64 f, .int .i64 a, .int .i64 b] w fun e w' => e = .returned (.tuple #[.int .i64 (twoV f a b), .int .i64 (twoE f a b)]) ∧ w' = w := by
  have HV : Hid (twoV f a b = 0 ∧ twoE f a b = 1) := by
    refine ⟨?_, by simp [twoE, hf]⟩
    unfold twoV
    repeat rw [if_neg (by omega)]
  by_cases h1 : f < 1
  · have t1 : decide (f < 1) = true := by simp [h1]
    clear h1 hf
    go_enter Tryd.func35, Tryd.ntmps35
    go_wp2_with fail
    go_ret2
    exact ⟨ret2i HV.out.1.symm HV.out.2.symm, rfl⟩
  · have t1 : decide (f < 1) = false := by simp [h1]
    have t2 : decide (16 < f) = true := by simp; omega
    clear h1 hf
    go_enter Tryd.func35, Tryd.ntmps35
    go_wp2_with fail
    go_ret2
    exact ⟨ret2i HV.out.1.symm HV.out.2.symm, rfl⟩
theorem rtwo_any (f a b : Int) (ha : In64 a) (hb : In64 b) (w : World) : Calls Tryd.prog 35 #[.int .i64 f, .int .i64 a, .int .i64 b] w fun e w' => e = .returned (.tuple #[.int .i64 (twoV f a b), .int .i64 (twoE f a b)]) ∧ w' = w := by
  by_cases hf : f < 1 ∨ 16 < f
  · exact rtwo_other f a b hf w
  · rcases (by omega : f = 1 ∨ f = 2 ∨ f = 3 ∨ f = 4 ∨ f = 5 ∨ f = 6 ∨ f = 7 ∨ f = 8 ∨ f = 9 ∨ f = 10 ∨ f = 11 ∨ f = 12 ∨ f = 13 ∨ f = 14 ∨ f = 15 ∨ f = 16) with rfl | rfl | rfl | rfl | rfl | rfl | rfl | rfl | rfl | rfl | rfl | rfl | rfl | rfl | rfl | rfl
    · exact rtwo_1 a b w
    · exact rtwo_2 a b w
    · exact rtwo_3 a b w
    · exact rtwo_4 a b ha hb w
    · exact rtwo_5 a b ha hb w
    · exact rtwo_6 a b w
    · exact rtwo_7 a b w
    · exact rtwo_8 a b w
    · exact rtwo_9 a b w
    · exact rtwo_10 a b w
    · exact rtwo_11 a b w
    · exact rtwo_12 a b w
    · exact rtwo_13 a b w
    · exact rtwo_14 a b w
    · exact rtwo_15 a b w
    · exact rtwo_16 a b ha hb w
end Go.Proofs.YtcpmendkocnlhaaDoor
