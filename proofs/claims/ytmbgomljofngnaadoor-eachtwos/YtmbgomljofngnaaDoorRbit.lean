/-
  What the reference tells of bits, one by one.
-/
import Derived.Test.YtmbgomljofngnaaDoorBitm
import Derived.Test.YtmbgomljofngnaaDoorRet
namespace Go.Proofs.YtmbgomljofngnaaDoor
open Go.RowKit
set_option linter.unusedVariables false

/-- A number's 64 bits as a natural number. -/
def na (a : Int) : Nat := (BitVec.ofInt 64 a).toNat
theorem na_lt (a : Int) : na a < 18446744073709551616 := (BitVec.ofInt 64 a).isLt
theorem na_is (a : Int) : IntKind.u64.wrap a = (na a : Int) := by
  unfold na
  rw [BitVec.toNat_ofInt, IntKind.wrap_u64]
  omega
theorem cast_bit (x j : Nat) : (((x : Int) / 2 ^ j).tmod 2 == 1) = decide (x / 2 ^ j % 2 = 1) := by
  have e : (x : Int) / 2 ^ j = ((x / 2 ^ j : Nat) : Int) := by rw [Int.natCast_ediv, Int.natCast_pow]; rfl
  rw [e]
  generalize x / 2 ^ j = m
  rw [Int.tmod_eq_emod_of_nonneg (Int.natCast_nonneg m)]
  by_cases h : m % 2 = 1
  · simp only [h, decide_true, beq_iff_eq]; omega
  · simp only [h, decide_false, beq_eq_false_iff_ne]; omega
def opN (t : Bool) (x y : Nat) : Nat := if t then x &&& y else x ||| y
theorem opN_lt (t : Bool) {x y : Nat} (hx : x < 18446744073709551616) (hy : y < 18446744073709551616) : opN t x y < 18446744073709551616 := by
  unfold opN
  split
  · exact Nat.lt_of_le_of_lt Nat.and_le_left hx
  · exact Nat.or_lt_two_pow (n := 64) hx hy
theorem opN_and (x y j : Nat) : opN true x y / 2 ^ j % 2 = 1 ↔ x / 2 ^ j % 2 = 1 ∧ y / 2 ^ j % 2 = 1 := by
  unfold opN
  rw [if_pos rfl, Nat.and_div_two_pow, Nat.and_mod_two_eq_one]
theorem opN_or (x y j : Nat) : opN false x y / 2 ^ j % 2 = 1 ↔ x / 2 ^ j % 2 = 1 ∨ y / 2 ^ j % 2 = 1 := by
  unfold opN
  rw [if_neg (by decide), Nat.or_div_two_pow, Nat.or_mod_two_eq_one]
theorem bit_step (X j : Nat) : X / 2 ^ j = 2 * (X / 2 ^ (j + 1)) + X / 2 ^ j % 2 := by
  rw [Nat.pow_succ, ← Nat.div_div_eq_div_mul]
  omega
theorem u64_small {n : Int} (h0 : 0 ≤ n) (h1 : n < 18446744073709551616) : IntKind.u64.wrap n = n := by rw [IntKind.wrap_u64]; omega
/-- A bit that is set, and one that is not. -/
theorem step_set {X j : Nat} (hX : X < 18446744073709551616) (h : X / 2 ^ j % 2 = 1) : IntKind.u64.wrap (IntKind.u64.wrap (((X / 2 ^ (j + 1) : Nat) : Int) * 2) + 1) = ((X / 2 ^ j : Nat) : Int) := by
  have h1 := bit_step X j
  have h2 : X / 2 ^ j ≤ X := Nat.div_le_self _ _
  rw [u64_small (n := ((X / 2 ^ (j + 1) : Nat) : Int) * 2) (by omega) (by omega), u64_small (by omega) (by omega)]
  omega
theorem step_not {X j : Nat} (hX : X < 18446744073709551616) (h : ¬ X / 2 ^ j % 2 = 1) : IntKind.u64.wrap (((X / 2 ^ (j + 1) : Nat) : Int) * 2) = ((X / 2 ^ j : Nat) : Int) := by
  have h1 := bit_step X j
  have h2 : X / 2 ^ j ≤ X := Nat.div_le_self _ _
  rw [u64_small (by omega) (by omega)]
  omega
def bitV (a b : Int) (t : Bool) : Int := if t then bandV a b else borV a b
theorem opN_is (a b : Int) (t : Bool) : wrap64 ((opN t (na a) (na b) : Nat) : Int) = bitV a b t := by
  unfold bitV opN bandV borV Go.bits na
  simp only [IntWalk.i64_left]
  cases t
  · rw [if_neg (by decide), if_neg (by decide)]
    show _ = wrap64 ((BitVec.ofInt 64 a ||| BitVec.ofInt 64 b).toNat : Int)
    rw [BitVec.toNat_or]
  · rw [if_pos rfl, if_pos rfl]
    show _ = wrap64 ((BitVec.ofInt 64 a &&& BitVec.ofInt 64 b).toNat : Int)
    rw [BitVec.toNat_and]
/-- How far the bits have come: behind those above place z. -/
def Bts (X : Nat) (z n : Int) : Prop := n = ((X / 2 ^ (z + 1).toNat : Nat) : Int)
set_option maxRecDepth 100000 in
set_option maxHeartbeats 1000000 in
theorem rbit_any (a b : Int) (t : Bool) (w : World) : Calls Tryd.prog 51 #[.int .i64 a, .int .i64 b, .bool t] w fun e w' => e = .returned (.int .i64 (bitV a b t)) ∧ w' = w := by
  have HX : Hid (opN t (na a) (na b) < 18446744073709551616) := opN_lt t (na_lt a) (na_lt b)
  have HO : Hid (wrap64 ((opN t (na a) (na b) : Nat) : Int) = bitV a b t) := opN_is a b t
  have HS : Hid (Bts (opN t (na a) (na b)) 63 0) := by
    show (0 : Int) = _
    have h := HX.out
    rw [show ((63 : Int) + 1).toNat = 64 from rfl, Nat.div_eq_of_lt (by simpa using h)]
    rfl
  go_enter Tryd.func51, Tryd.ntmps51
  go_wp2_with fail
  go_loop [7, 8] (fun o i => ∃ z n : Int, -1 ≤ z ∧ z ≤ 63 ∧ i = .int .i64 z ∧ o = .int .u64 n ∧ Hid (Bts (opN t (na a) (na b)) z n)) (fun _ i => (intOf i + 1).toNat)
  case atStart => exact ⟨63, 0, by omega, by omega, rfl, rfl, HS⟩
  case round =>
    obtain ⟨z, n, hz1, hz2, rfl, rfl, HB⟩ := hrel
    by_cases hz : 0 ≤ z
    · have tz : decide (0 ≤ z) = true := by simp [hz]
      have ex : ((IntKind.u64.wrap a / 2 ^ z.toNat).tmod 2 == 1) = decide (na a / 2 ^ z.toNat % 2 = 1) := by rw [na_is]; exact cast_bit _ _
      have ey : ((IntKind.u64.wrap b / 2 ^ z.toNat).tmod 2 == 1) = decide (na b / 2 ^ z.toNat % 2 = 1) := by rw [na_is]; exact cast_bit _ _
      have HJ : Hid ((z + 1).toNat = z.toNat + 1 ∧ (z - 1 + 1).toNat = z.toNat) := ⟨by omega, by omega⟩
      cases t
      · by_cases hx : na a / 2 ^ z.toNat % 2 = 1
        · by_cases hy : na b / 2 ^ z.toNat % 2 = 1
          · have tx : ((IntKind.u64.wrap a / 2 ^ z.toNat).tmod 2 == 1) = true := by rw [ex]; simp [hx]
            have ty : ((IntKind.u64.wrap b / 2 ^ z.toNat).tmod 2 == 1) = true := by rw [ey]; simp [hy]
            have HE : Hid (Bts (opN false (na a) (na b)) (z - 1) (IntKind.u64.wrap (IntKind.u64.wrap (n * 2) + 1))) := by
              show _ = _
              rw [HB.out, HJ.out.1, HJ.out.2]
              exact step_set HX.out ((opN_or _ _ _).2 (by simp [hx, hy]))
            clear ex ey hx hy
            go_wp2_with fail
            go_round
            case rel => exact ⟨z - 1, _, by omega, by omega, rfl, rfl, HE⟩
            case measure => simp [intOf]; omega
          · have tx : ((IntKind.u64.wrap a / 2 ^ z.toNat).tmod 2 == 1) = true := by rw [ex]; simp [hx]
            have ty : ((IntKind.u64.wrap b / 2 ^ z.toNat).tmod 2 == 1) = false := by rw [ey]; simp [hy]
            have HE : Hid (Bts (opN false (na a) (na b)) (z - 1) (IntKind.u64.wrap (IntKind.u64.wrap (n * 2) + 1))) := by
              show _ = _
              rw [HB.out, HJ.out.1, HJ.out.2]
              exact step_set HX.out ((opN_or _ _ _).2 (by simp [hx, hy]))
            clear ex ey hx hy
            go_wp2_with fail
            go_round
            case rel => exact ⟨z - 1, _, by omega, by omega, rfl, rfl, HE⟩
            case measure => simp [intOf]; omega
        · by_cases hy : na b / 2 ^ z.toNat % 2 = 1
          · have tx : ((IntKind.u64.wrap a / 2 ^ z.toNat).tmod 2 == 1) = false := by rw [ex]; simp [hx]
            have ty : ((IntKind.u64.wrap b / 2 ^ z.toNat).tmod 2 == 1) = true := by rw [ey]; simp [hy]
            have HE : Hid (Bts (opN false (na a) (na b)) (z - 1) (IntKind.u64.wrap (IntKind.u64.wrap (n * 2) + 1))) := by
              show _ = _
              rw [HB.out, HJ.out.1, HJ.out.2]
              exact step_set HX.out ((opN_or _ _ _).2 (by simp [hx, hy]))
            clear ex ey hx hy
            go_wp2_with fail
            go_round
            case rel => exact ⟨z - 1, _, by omega, by omega, rfl, rfl, HE⟩
            case measure => simp [intOf]; omega
          · have tx : ((IntKind.u64.wrap a / 2 ^ z.toNat).tmod 2 == 1) = false := by rw [ex]; simp [hx]
            have ty : ((IntKind.u64.wrap b / 2 ^ z.toNat).tmod 2 == 1) = false := by rw [ey]; simp [hy]
            have HE : Hid (Bts (opN false (na a) (na b)) (z - 1) (IntKind.u64.wrap (n * 2))) := by
              show _ = _
              rw [HB.out, HJ.out.1, HJ.out.2]
              exact step_not HX.out (fun h => by have := (opN_or _ _ _).1 h; simp [hx, hy] at this)
            clear ex ey hx hy
            go_wp2_with fail
            go_round
            case rel => exact ⟨z - 1, _, by omega, by omega, rfl, rfl, HE⟩
            case measure => simp [intOf]; omega
      · by_cases hx : na a / 2 ^ z.toNat % 2 = 1
        · by_cases hy : na b / 2 ^ z.toNat % 2 = 1
          · have tx : ((IntKind.u64.wrap a / 2 ^ z.toNat).tmod 2 == 1) = true := by rw [ex]; simp [hx]
            have ty : ((IntKind.u64.wrap b / 2 ^ z.toNat).tmod 2 == 1) = true := by rw [ey]; simp [hy]
            have HE : Hid (Bts (opN true (na a) (na b)) (z - 1) (IntKind.u64.wrap (IntKind.u64.wrap (n * 2) + 1))) := by
              show _ = _
              rw [HB.out, HJ.out.1, HJ.out.2]
              exact step_set HX.out ((opN_and _ _ _).2 (by simp [hx, hy]))
            clear ex ey hx hy
            go_wp2_with fail
            go_round
            case rel => exact ⟨z - 1, _, by omega, by omega, rfl, rfl, HE⟩
            case measure => simp [intOf]; omega
          · have tx : ((IntKind.u64.wrap a / 2 ^ z.toNat).tmod 2 == 1) = true := by rw [ex]; simp [hx]
            have ty : ((IntKind.u64.wrap b / 2 ^ z.toNat).tmod 2 == 1) = false := by rw [ey]; simp [hy]
            have HE : Hid (Bts (opN true (na a) (na b)) (z - 1) (IntKind.u64.wrap (n * 2))) := by
              show _ = _
              rw [HB.out, HJ.out.1, HJ.out.2]
              exact step_not HX.out (fun h => by have := (opN_and _ _ _).1 h; simp [hx, hy] at this)
            clear ex ey hx hy
            go_wp2_with fail
            go_round
            case rel => exact ⟨z - 1, _, by omega, by omega, rfl, rfl, HE⟩
            case measure => simp [intOf]; omega
        · by_cases hy : na b / 2 ^ z.toNat % 2 = 1
          · have tx : ((IntKind.u64.wrap a / 2 ^ z.toNat).tmod 2 == 1) = false := by rw [ex]; simp [hx]
            have ty : ((IntKind.u64.wrap b / 2 ^ z.toNat).tmod 2 == 1) = true := by rw [ey]; simp [hy]
            have HE : Hid (Bts (opN true (na a) (na b)) (z - 1) (IntKind.u64.wrap (n * 2))) := by
              show _ = _
              rw [HB.out, HJ.out.1, HJ.out.2]
              exact step_not HX.out (fun h => by have := (opN_and _ _ _).1 h; simp [hx, hy] at this)
            clear ex ey hx hy
            go_wp2_with fail
            go_round
            case rel => exact ⟨z - 1, _, by omega, by omega, rfl, rfl, HE⟩
            case measure => simp [intOf]; omega
          · have tx : ((IntKind.u64.wrap a / 2 ^ z.toNat).tmod 2 == 1) = false := by rw [ex]; simp [hx]
            have ty : ((IntKind.u64.wrap b / 2 ^ z.toNat).tmod 2 == 1) = false := by rw [ey]; simp [hy]
            have HE : Hid (Bts (opN true (na a) (na b)) (z - 1) (IntKind.u64.wrap (n * 2))) := by
              show _ = _
              rw [HB.out, HJ.out.1, HJ.out.2]
              exact step_not HX.out (fun h => by have := (opN_and _ _ _).1 h; simp [hx, hy] at this)
            clear ex ey hx hy
            go_wp2_with fail
            go_round
            case rel => exact ⟨z - 1, _, by omega, by omega, rfl, rfl, HE⟩
            case measure => simp [intOf]; omega
    · obtain rfl : z = -1 := by omega
      have HN : Hid (wrap64 n = wrap64 ((opN t (na a) (na b) : Nat) : Int)) := by
        show _ = _
        rw [HB.out]
        simp
      clear hz
      go_wp2_with fail
      go_ret
      exact ⟨ret1 (HN.out.trans HO.out), rfl⟩
end Go.Proofs.YtmbgomljofngnaaDoor
