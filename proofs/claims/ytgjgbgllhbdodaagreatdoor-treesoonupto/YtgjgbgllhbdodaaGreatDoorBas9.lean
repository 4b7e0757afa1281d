/-
  Num Errv Plain Isin Rowi Ints Help Till Abx Owns Newi, together.
-/
import Derived.WalkKit
import Derived.OpenShut
import Derived.Deep.QuietTactic
import Derived.BigQuiet
import Derived.Test.YtgjgbgllhbdodaaGreatDoorChecked
import Derived.Deep.OwnRows
import Derived.RangeFuncRecord
import Derived.OrdersHeld
import Derived.Deep.RegionWith
import Derived.Laws.Rows
import Derived.Maps.AppendAt
/-! Num: Plain mathematics of numbers that run round: sums, products, quotients cut downward, powers; nothing of the program. -/
namespace Go.Proofs.YtgjgbgllhbdodaaGreatDoor
open Go.RowKit
set_option linter.unusedVariables false

theorem w_small {n : Int} (h1 : -9223372036854775808 ≤ n) (h2 : n ≤ 9223372036854775807) : wrap64 n = n := by unfold wrap64; omega
theorem w_lo (n : Int) : -9223372036854775808 ≤ wrap64 n := by unfold wrap64; omega
theorem w_hi (n : Int) : wrap64 n ≤ 9223372036854775807 := by unfold wrap64; omega
theorem w_ex (n : Int) : ∃ k, wrap64 n = n + 18446744073709551616 * k := ⟨-((n + 9223372036854775808) / 18446744073709551616), by unfold wrap64; omega⟩
theorem w_cg {a b : Int} (k : Int) (h : a - b = 18446744073709551616 * k) : wrap64 a = wrap64 b := by unfold wrap64; omega
theorem w_gc {a b : Int} (h : wrap64 a = wrap64 b) : ∃ k, a - b = 18446744073709551616 * k := by
  obtain ⟨k, hk⟩ := w_ex a
  obtain ⟨l, hl⟩ := w_ex b
  exact ⟨l - k, by omega⟩
theorem w_w (a : Int) : wrap64 (wrap64 a) = wrap64 a := w_small (w_lo a) (w_hi a)
theorem w_addl (a b : Int) : wrap64 (wrap64 a + b) = wrap64 (a + b) := by unfold wrap64; omega
theorem w_addr (a b : Int) : wrap64 (a + wrap64 b) = wrap64 (a + b) := by unfold wrap64; omega
theorem w_subl (a b : Int) : wrap64 (wrap64 a - b) = wrap64 (a - b) := by unfold wrap64; omega
theorem w_subr (a b : Int) : wrap64 (a - wrap64 b) = wrap64 (a - b) := by unfold wrap64; omega
theorem w_neg (a : Int) : wrap64 (-wrap64 a) = wrap64 (-a) := by unfold wrap64; omega
theorem w_mull (a b : Int) : wrap64 (wrap64 a * b) = wrap64 (a * b) := by
  obtain ⟨k, hk⟩ := w_ex a
  rw [hk]
  exact w_cg (k * b) (by grind)
theorem w_mulr (a b : Int) : wrap64 (a * wrap64 b) = wrap64 (a * b) := by rw [Int.mul_comm, w_mull, Int.mul_comm]
theorem w_pow (a : Int) (n : Nat) : wrap64 (wrap64 a ^ n) = wrap64 (a ^ n) := by
  induction n with
  | zero => simp
  | succ n ih => rw [Int.pow_succ, Int.pow_succ, w_mulr, ← w_mull, ih, w_mull]

/-! ### Quotients that are cut downward, and what they leave -/
theorem tmod_neg_of {a b : Int} (ha : a < 0) : a.tmod b ≤ 0 := by
  have := Int.tmod_nonneg (a := -a) b (by omega)
  rw [Int.neg_tmod] at this
  omega
/-- Where the quotient that is cut toward 0 is one too high. -/
def hiB (a b : Int) : Bool := (a.tmod b != 0) && ((decide (a.tmod b < 0)) != (decide (b < 0)))
theorem floor_q (a b : Int) (hb : b ≠ 0) : a.fdiv b = if hiB a b = true then a.tdiv b - 1 else a.tdiv b := by
  rw [Int.fdiv_eq_tdiv]
  unfold hiB
  by_cases hd : b ∣ a
  · have h0 : a.tmod b = 0 := Int.tmod_eq_zero_of_dvd hd
    simp [hd, h0]
  · have h0 : a.tmod b ≠ 0 := fun h => hd (Int.dvd_of_tmod_eq_zero h)
    by_cases ha : 0 ≤ a
    · have h1 := Int.tmod_nonneg b ha
      by_cases hb' : 0 ≤ b
      · have e1 : ¬ a.tmod b < 0 := by omega
        have e2 : ¬ b < 0 := by omega
        simp [hd, ha, hb', e1, e2]
      · have e1 : ¬ a.tmod b < 0 := by omega
        have e2 : b < 0 := by omega
        simp [hd, ha, hb', h0, e1, e2]
    · have h1 := tmod_neg_of (a := a) (b := b) (by omega)
      have e1 : a.tmod b < 0 := by omega
      by_cases hb' : 0 ≤ b
      · have e2 : ¬ b < 0 := by omega
        have hs : b.sign = 1 := Int.sign_eq_one_of_pos (by omega)
        simp [hd, ha, hb', h0, e1, e2, hs]
      · have e2 : b < 0 := by omega
        have hs : b.sign = -1 := Int.sign_eq_neg_one_of_neg e2
        simp [hd, ha, hb', e1, e2, hs]
theorem fmod_is (a b : Int) : a - b * a.fdiv b = a.fmod b := by have := Int.fmod_add_mul_fdiv a b; omega
theorem fmod_pos {a b : Int} (hb : 0 < b) : 0 ≤ a.fmod b ∧ a.fmod b < b := ⟨Int.fmod_nonneg_of_pos a hb, Int.fmod_lt_of_pos a hb⟩
theorem fmod_neg {a b : Int} (hb : b < 0) : a.fmod b ≤ 0 ∧ b < a.fmod b := by
  have h := fmod_pos (a := -a) (b := -b) (by omega)
  rw [Int.neg_fmod_neg] at h
  omega

/-! ### What is told of two numbers -/
def bandV (a b : Int) : Int := Go.bits .and .i64 a b
def borV (a b : Int) : Int := Go.bits .or .i64 a b
def ifV (t : Bool) : Int := if t then 1 else 0
def powV (a b : Int) : Int := wrap64 (a ^ b.toNat)
def divV (a b : Int) : Int := wrap64 (a.fdiv b)
/-- The error of two numbers: 0: none. -/
def twoE (f a b : Int) : Int := if f < 1 ∨ 16 < f then 1 else if f = 4 ∧ b = 0 then 6 else if f = 16 ∧ b < 0 then 6 else 0
def twoV (f a b : Int) : Int :=
  if f = 1 then wrap64 (a + b) else if f = 2 then wrap64 (a - b) else if f = 3 then wrap64 (a * b)
  else if f = 4 then (if b = 0 then 0 else divV a b) else if f = 5 then b.fmod a
  else if f = 6 then max a b else if f = 7 then min a b
  else if f = 8 then ifV (a == b) else if f = 9 then ifV (a != b) else if f = 10 then ifV (decide (a < b)) else if f = 11 then ifV (decide (a ≤ b))
  else if f = 12 then ifV (decide (b ≤ a)) else if f = 13 then ifV (decide (b < a)) else if f = 14 then bandV a b else if f = 15 then borV a b
  else if f = 16 then (if b < 0 then 0 else powV a b) else 0
theorem twoE_cases (f a b : Int) : twoE f a b = 0 ∨ twoE f a b = 1 ∨ twoE f a b = 6 := by
  unfold twoE
  repeat' split
  all_goals simp
/-- In range. -/
def In64 (a : Int) : Prop := -9223372036854775808 ≤ a ∧ a ≤ 9223372036854775807
theorem In64.wf {a : Int} (h : (Lit.int .i64 a).wf = true) : In64 a := bounds_i64 h
theorem In64.w (n : Int) : In64 (wrap64 n) := ⟨w_lo n, w_hi n⟩
theorem In64.same {n : Int} (h : In64 n) : wrap64 n = n := w_small h.1 h.2
theorem In64.fmod {a b : Int} (ha : In64 a) (hb : In64 b) : In64 (b.fmod a) := by
  unfold In64 at *
  by_cases h0 : a = 0
  · subst h0; rw [Int.fmod_zero]; exact hb
  · by_cases h1 : 0 < a
    · have := fmod_pos (a := b) h1; omega
    · have := fmod_neg (a := b) (b := a) (by omega); omega
theorem In64.ifV (t : Bool) : In64 (ifV t) := by cases t <;> (unfold In64; decide)
theorem bits_bnd (op : BinOp) (a b : Int) : In64 (Go.bits op .i64 a b) := by
  unfold Go.bits
  simp only [IntWalk.i64_left]
  exact In64.w _
theorem In64.ite {c : Prop} [Decidable c] {x y : Int} (h1 : In64 x) (h2 : In64 y) : In64 (if c then x else y) := by by_cases h : c <;> simp [h, h1, h2]
theorem In64.two {f a b : Int} (ha : In64 a) (hb : In64 b) : In64 (twoV f a b) := by
  have h0 : In64 0 := by unfold In64; decide
  have h1 : In64 (max a b) := by unfold In64 at *; omega
  have h2 : In64 (min a b) := by unfold In64 at *; omega
  unfold twoV bandV borV powV divV
  repeat' (with_reducible refine In64.ite ?_ ?_)
  all_goals first | exact In64.w _ | exact h0 | exact h1 | exact h2 | exact ha.fmod hb | exact In64.ifV _ | exact bits_bnd _ _ _
theorem tv1 (a b : Int) : twoV 1 a b = wrap64 (a + b) := by simp [twoV]
theorem tv2 (a b : Int) : twoV 2 a b = wrap64 (a - b) := by simp [twoV]
theorem tv3 (a b : Int) : twoV 3 a b = wrap64 (a * b) := by simp [twoV]
theorem tv4 (a b : Int) (h : b ≠ 0) : twoV 4 a b = divV a b := by simp [twoV, h]
theorem tv5 (a b : Int) : twoV 5 a b = b.fmod a := by simp [twoV]
theorem tv6 (a b : Int) : twoV 6 a b = max a b := by simp [twoV]
theorem tv7 (a b : Int) : twoV 7 a b = min a b := by simp [twoV]
theorem tv8 (a b : Int) : twoV 8 a b = ifV (a == b) := by simp [twoV]
theorem tv9 (a b : Int) : twoV 9 a b = ifV (a != b) := by simp [twoV]
theorem tv10 (a b : Int) : twoV 10 a b = ifV (decide (a < b)) := by simp [twoV]
theorem tv11 (a b : Int) : twoV 11 a b = ifV (decide (a ≤ b)) := by simp [twoV]
theorem tv12 (a b : Int) : twoV 12 a b = ifV (decide (b ≤ a)) := by simp [twoV]
theorem tv13 (a b : Int) : twoV 13 a b = ifV (decide (b < a)) := by simp [twoV]
theorem tv14 (a b : Int) : twoV 14 a b = bandV a b := by simp [twoV]
theorem tv15 (a b : Int) : twoV 15 a b = borV a b := by simp [twoV]
theorem tv16 (a b : Int) (h : ¬ b < 0) : twoV 16 a b = powV a b := by simp [twoV, h]
theorem te0 {f a b : Int} (h1 : 1 ≤ f) (h2 : f ≤ 16) (h3 : f = 4 → b ≠ 0) (h4 : f = 16 → ¬ b < 0) : twoE f a b = 0 := by
  unfold twoE
  rw [if_neg (by omega), if_neg (fun h => h3 h.1 h.2), if_neg (fun h => h4 h.1 h.2)]
/-- What the helper of the statements tells: -77 for an error. -/
def tw (f a b : Int) : Int := if twoE f a b = 0 then twoV f a b else -77
theorem In64.tw {f a b : Int} (ha : In64 a) (hb : In64 b) : In64 (tw f a b) := by
  unfold Go.Proofs.YtgjgbgllhbdodaaGreatDoor.tw
  split
  · exact ha.two hb
  · unfold In64; decide
theorem tw_ok {f a b : Int} (h1 : 1 ≤ f) (h2 : f ≤ 16) (h3 : f ≠ 4) (h4 : f ≠ 16) : tw f a b = twoV f a b := by
  unfold tw; rw [if_pos (te0 h1 h2 (fun h => absurd h h3) (fun h => absurd h h4))]
theorem tw1 (a b : Int) : tw 1 a b = wrap64 (a + b) := (tw_ok (by decide) (by decide) (by decide) (by decide)).trans (tv1 a b)
theorem tw2 (a b : Int) : tw 2 a b = wrap64 (a - b) := (tw_ok (by decide) (by decide) (by decide) (by decide)).trans (tv2 a b)
theorem tw3 (a b : Int) : tw 3 a b = wrap64 (a * b) := (tw_ok (by decide) (by decide) (by decide) (by decide)).trans (tv3 a b)
theorem tw4 (a b : Int) (h : b ≠ 0) : tw 4 a b = divV a b := by unfold tw; rw [if_pos (te0 (by decide) (by decide) (fun _ => h) (fun h => absurd h (by decide))), tv4 a b h]
theorem tw5 (a b : Int) : tw 5 a b = b.fmod a := (tw_ok (by decide) (by decide) (by decide) (by decide)).trans (tv5 a b)
theorem tw6 (a b : Int) : tw 6 a b = max a b := (tw_ok (by decide) (by decide) (by decide) (by decide)).trans (tv6 a b)
theorem tw7 (a b : Int) : tw 7 a b = min a b := (tw_ok (by decide) (by decide) (by decide) (by decide)).trans (tv7 a b)
theorem tw8 (a b : Int) : tw 8 a b = ifV (a == b) := (tw_ok (by decide) (by decide) (by decide) (by decide)).trans (tv8 a b)
theorem tw9 (a b : Int) : tw 9 a b = ifV (a != b) := (tw_ok (by decide) (by decide) (by decide) (by decide)).trans (tv9 a b)
theorem tw10 (a b : Int) : tw 10 a b = ifV (decide (a < b)) := (tw_ok (by decide) (by decide) (by decide) (by decide)).trans (tv10 a b)
theorem tw11 (a b : Int) : tw 11 a b = ifV (decide (a ≤ b)) := (tw_ok (by decide) (by decide) (by decide) (by decide)).trans (tv11 a b)
theorem tw12 (a b : Int) : tw 12 a b = ifV (decide (b ≤ a)) := (tw_ok (by decide) (by decide) (by decide) (by decide)).trans (tv12 a b)
theorem tw13 (a b : Int) : tw 13 a b = ifV (decide (b < a)) := (tw_ok (by decide) (by decide) (by decide) (by decide)).trans (tv13 a b)
theorem tw14 (a b : Int) : tw 14 a b = bandV a b := (tw_ok (by decide) (by decide) (by decide) (by decide)).trans (tv14 a b)
theorem tw15 (a b : Int) : tw 15 a b = borV a b := (tw_ok (by decide) (by decide) (by decide) (by decide)).trans (tv15 a b)
theorem tw16 (a b : Int) (h : ¬ b < 0) : tw 16 a b = powV a b := by unfold tw; rw [if_pos (te0 (by decide) (by decide) (fun h => absurd h (by decide)) (fun _ => h)), tv16 a b h]
theorem beq_of {x y : Int} (h : x = y) : (x == y) = true := by simp [h]
theorem bne_of {x y : Int} (h : x = y) : (x != y) = false := by simp [h]
end Go.Proofs.YtgjgbgllhbdodaaGreatDoor
/-! Errv: An error's value. -/
namespace Go.Proofs.YtgjgbgllhbdodaaGreatDoor
open Go.RowKit
set_option linter.unusedVariables false

/-- An error's value: nil, or the number told. -/
def errV (e : Int) : Value := if e = 0 then .nilIface else .iface 36 (.int .i64 e)
theorem errV_zero : errV 0 = .nilIface := rfl
theorem errV_pos {e : Int} (h : e ≠ 0) : errV e = .iface 36 (.int .i64 e) := by simp [errV, h]
theorem ret2 {a b : Int} {v u : Value} (h : a = b) (h2 : v = u) : Ending.returned (.tuple #[.int .i64 a, v]) = .returned (.tuple #[.int .i64 b, u]) := by rw [h, h2]
theorem ret1 {a b : Int} (h : a = b) : Ending.returned (.int .i64 a) = .returned (.int .i64 b) := by rw [h]
theorem ret_bool {a b : Bool} (h : a = b) : Ending.returned (.bool a) = .returned (.bool b) := by rw [h]
theorem bel_drewN {B : Nat} {a w : World} (h : Below B a w) (n : Nat) : Below B a (w.drewN n) := ⟨h.os, h.tape, h.output, h.size, h.block⟩
end Go.Proofs.YtgjgbgllhbdodaaGreatDoor
/-! Plain: Plain mathematics of shapes: lengths, their product, places and indices, an order of axes; nothing of the program. -/
namespace Go.Proofs.YtgjgbgllhbdodaaGreatDoor
open Go.RowKit

/-- The number at a place of a list; 0 behind its end. -/
def nth (zs : List Int) (j : Nat) : Int := zs.getD j 0
theorem nth_zero (x : Int) (r : List Int) : nth (x :: r) 0 = x := rfl
theorem nth_succ (x : Int) (r : List Int) (j : Nat) : nth (x :: r) (j + 1) = nth r j := by simp [nth]
theorem nth_nil (j : Nat) : nth [] j = 0 := by simp [nth]
theorem nth_get (zs : List Int) (j : Nat) (h : j < zs.length) : nth zs j = zs[j] := by simp [nth, h]
theorem nth_mem (zs : List Int) (j : Nat) (h : j < zs.length) : nth zs j ∈ zs := by rw [nth_get zs j h]; exact List.getElem_mem h
theorem drop_nth (zs : List Int) (j : Nat) (h : j < zs.length) : zs.drop j = nth zs j :: zs.drop (j + 1) := by
  rw [nth_get zs j h]; exact List.drop_eq_getElem_cons h
theorem nth_ext {a b : List Int} (hl : a.length = b.length) (h : ∀ j, j < a.length → nth a j = nth b j) : a = b := by
  apply List.ext_getElem hl
  intro i h1 h2
  have := h i h1
  rwa [nth_get a i h1, nth_get b i h2] at this
theorem nth_set (zs : List Int) (i j : Nat) (v : Int) (h : i < zs.length) : nth (zs.set i v) j = if j = i then v else nth zs j := by
  by_cases e : j = i
  · subst e; simp [nth, h]
  · simp [nth, e, Ne.symm e]
theorem nth_append_left (a b : List Int) (j : Nat) (h : j < a.length) : nth (a ++ b) j = nth a j := by simp [nth, List.getElem?_append, h]
theorem nth_take (zs : List Int) (n j : Nat) (h : j < n) : nth (zs.take n) j = nth zs j := by simp [nth, h]

/-- The fault of the first axis that has one: 0: none. -/
def bad : List Int → Int
  | [] => 0
  | x :: r => if x < 0 then 4 else if 4096 < x then 7 else bad r
/-- The product of all lengths. -/
def prod : List Int → Int
  | [] => 1
  | x :: r => x * prod r
/-- The product as it is reckoned from the last axis on, held at 4097. -/
def clp : List Int → Int
  | [] => 1
  | x :: r => min (clp r * x) 4097
/-- The error of a shape: 0: none. -/
def errOf (s : List Int) : Int := if 6 < s.length then 3 else if bad s ≠ 0 then bad s else if 4096 < prod s then 7 else 0
def cntOf (s : List Int) : Int := if errOf s = 0 then prod s else 0

def AllIn (s : List Int) : Prop := ∀ x ∈ s, 0 ≤ x ∧ x ≤ 4096
theorem AllIn.nth {s : List Int} (h : AllIn s) (j : Nat) : 0 ≤ nth s j ∧ nth s j ≤ 4096 := by
  by_cases hj : j < s.length
  · exact h _ (nth_mem s j hj)
  · have : Go.Proofs.YtgjgbgllhbdodaaGreatDoor.nth s j = 0 := by simp [Go.Proofs.YtgjgbgllhbdodaaGreatDoor.nth, Nat.le_of_not_lt hj]
    omega
theorem bad_iff (s : List Int) : bad s = 0 ↔ AllIn s := by
  induction s with
  | nil => simp [bad, AllIn]
  | cons x r ih =>
    simp only [bad, AllIn, List.mem_cons, forall_eq_or_imp]
    by_cases h1 : x < 0
    · simp [h1]; omega
    · by_cases h2 : 4096 < x
      · simp [h1, h2]; omega
      · simp only [h1, h2, if_false, ih]
        exact ⟨fun h => ⟨⟨by omega, by omega⟩, h⟩, fun h => h.2⟩
theorem AllIn.tail {x : Int} {r : List Int} (h : AllIn (x :: r)) : AllIn r := fun y hy => h y (List.mem_cons_of_mem _ hy)
theorem AllIn.drop {s : List Int} (h : AllIn s) (j : Nat) : AllIn (s.drop j) := fun y hy => h y (List.mem_of_mem_drop hy)
theorem prod_nonneg {s : List Int} (h : AllIn s) : 0 ≤ prod s := by
  induction s with
  | nil => simp [prod]
  | cons x r ih => exact Int.mul_nonneg (h x List.mem_cons_self).1 (ih h.tail)
theorem clp_eq {s : List Int} (h : AllIn s) : clp s = min (prod s) 4097 := by
  induction s with
  | nil => simp only [clp, prod]; omega
  | cons x r ih =>
    have hx := h x List.mem_cons_self
    have hp := prod_nonneg h.tail
    simp only [clp, prod, ih h.tail]
    by_cases hc : prod r ≤ 4097
    · rw [Int.min_eq_left hc, Int.mul_comm]
    · rw [show min (prod r) 4097 = 4097 from by omega]
      by_cases h0 : x = 0
      · subst h0; simp only [Int.mul_zero, Int.zero_mul]
      · have e1 : 4097 * 1 ≤ 4097 * x := Int.mul_le_mul_of_nonneg_left (by omega) (by omega)
        have e2 : 4097 * 1 ≤ prod r * x := Int.mul_le_mul (by omega) (by omega) (by omega) (by omega)
        have e3 : 4097 ≤ x * prod r := by rw [Int.mul_comm]; omega
        omega
theorem clp_bd {s : List Int} (h : AllIn s) : 0 ≤ clp s ∧ clp s ≤ 4097 := by
  rw [clp_eq h]; have := prod_nonneg h; omega
theorem errOf_zero {s : List Int} : errOf s = 0 ↔ s.length ≤ 6 ∧ AllIn s ∧ prod s ≤ 4096 := by
  unfold errOf
  by_cases h1 : 6 < s.length
  · rw [if_pos h1]; exact ⟨fun h => absurd h (by decide), fun h => by omega⟩
  · rw [if_neg h1]
    by_cases h2 : bad s = 0
    · rw [if_neg (by simpa using h2)]
      have := (bad_iff s).1 h2
      by_cases h3 : 4096 < prod s
      · rw [if_pos h3]; exact ⟨fun h => absurd h (by decide), fun h => by omega⟩
      · rw [if_neg h3]; exact ⟨fun _ => ⟨by omega, this, by omega⟩, fun _ => rfl⟩
    · rw [if_pos h2]
      exact ⟨fun h => absurd h h2, fun h => absurd ((bad_iff s).2 h.2.1) h2⟩
theorem cntOf_ok {s : List Int} (h : errOf s = 0) : cntOf s = prod s := by simp [cntOf, h]
theorem bad_cases (s : List Int) : bad s = 0 ∨ bad s = 4 ∨ bad s = 7 := by
  induction s with
  | nil => simp [bad]
  | cons x r ih => simp only [bad]; split; · simp
                   split; · simp
                   exact ih
theorem errOf_cases (s : List Int) : errOf s = 0 ∨ errOf s = 3 ∨ errOf s = 4 ∨ errOf s = 7 := by
  unfold errOf
  have := bad_cases s
  split; · simp
  split; · omega
  split <;> simp

/-! ### Places -/
def place : List Int → List Int → Int
  | _ :: s, a :: t => a * prod s + place s t
  | _, _ => 0
def insB : List Int → List Int → Bool
  | x :: s, a :: t => decide (0 ≤ a ∧ a < x) && insB s t
  | [], [] => true
  | _, _ => false
def plErr (s t : List Int) : Int := if errOf s ≠ 0 then errOf s else if t.length ≠ s.length then 3 else if insB s t = true then 0 else 5
def plVal (s t : List Int) : Int := if plErr s t = 0 then place s t else 0
theorem insB_len : ∀ {s t : List Int}, insB s t = true → t.length = s.length
  | [], [], _ => rfl
  | [], _ :: _, h => by simp [insB] at h
  | _ :: _, [], h => by simp [insB] at h
  | _ :: s, _ :: t, h => by simp only [insB, Bool.and_eq_true] at h; simp [insB_len h.2]
theorem insB_iff : ∀ {s t : List Int}, t.length = s.length → (insB s t = true ↔ ∀ k, k < s.length → 0 ≤ nth t k ∧ nth t k < nth s k)
  | [], [], _ => by simp [insB]
  | [], _ :: _, h => by simp at h
  | _ :: _, [], h => by simp at h
  | x :: s, a :: t, h => by
    simp only [insB, Bool.and_eq_true, decide_eq_true_eq]
    rw [insB_iff (s := s) (t := t) (by simpa using h)]
    constructor
    · rintro ⟨h1, h2⟩ k hk
      cases k with
      | zero => exact h1
      | succ k => rw [nth_succ, nth_succ]; exact h2 k (by simpa using hk)
    · intro h3
      exact ⟨h3 0 (by simp), fun k hk => by have := h3 (k + 1) (by simpa using hk); rwa [nth_succ, nth_succ] at this⟩
theorem place_bd : ∀ {s t : List Int}, insB s t = true → 0 ≤ place s t ∧ place s t < prod s
  | [], [], _ => by simp [place, prod]
  | [], _ :: _, h => by simp [insB] at h
  | _ :: _, [], h => by simp [insB] at h
  | x :: s, a :: t, h => by
    simp only [insB, Bool.and_eq_true, decide_eq_true_eq] at h
    have ih := place_bd h.2
    simp only [place, prod]
    have h1 : 0 ≤ a * prod s := Int.mul_nonneg h.1.1 (by omega)
    have h2 : (a + 1) * prod s ≤ x * prod s := Int.mul_le_mul_of_nonneg_right (by omega) (by omega)
    rw [Int.add_mul] at h2
    omega
/-- The indices of a place, from the last axis on; and what is left of it. -/
def crd : List Int → Int → List Int × Int
  | [], p => ([], p)
  | x :: s, p => (((crd s p).2.tmod x) :: (crd s p).1, (crd s p).2.tdiv x)
theorem crd_len : ∀ (s : List Int) (p : Int), (crd s p).1.length = s.length
  | [], _ => rfl
  | _ :: s, p => by simp [crd, crd_len s p]
def AllPos (s : List Int) : Prop := ∀ x ∈ s, 0 < x
theorem AllPos.tail {x : Int} {r : List Int} (h : AllPos (x :: r)) : AllPos r := fun y hy => h y (List.mem_cons_of_mem _ hy)
theorem crd_fact : ∀ {s : List Int} {p : Int}, AllPos s → 0 ≤ p → 0 ≤ (crd s p).2 ∧ (crd s p).2 ≤ p ∧ insB s (crd s p).1 = true ∧ p = (crd s p).2 * prod s + place s (crd s p).1
  | [], p, _, h => by simp [crd, insB, prod, place]; omega
  | x :: s, p, hs, h => by
    obtain ⟨h1, h2, h3, h4⟩ := crd_fact hs.tail h
    have hx := hs x List.mem_cons_self
    simp only [crd, insB, prod, place, Bool.and_eq_true, decide_eq_true_eq]
    have em := Int.tmod_nonneg x h1
    have el := Int.tmod_lt_of_pos (crd s p).2 hx
    have ed := Int.tmod_add_mul_tdiv (crd s p).2 x
    have eq : 0 ≤ (crd s p).2.tdiv x := Int.tdiv_nonneg h1 (by omega)
    refine ⟨eq, ?_, ⟨⟨em, el⟩, h3⟩, ?_⟩
    · have : 1 * (crd s p).2.tdiv x ≤ x * (crd s p).2.tdiv x := Int.mul_le_mul_of_nonneg_right (by omega) eq
      omega
    · have e5 : (crd s p).2.tdiv x * (x * prod s) + (crd s p).2.tmod x * prod s = (crd s p).2 * prod s := by
        rw [← Int.mul_assoc, ← Int.add_mul, Int.mul_comm ((crd s p).2.tdiv x) x, Int.add_comm, ed]
      rw [← Int.add_assoc, e5]; exact h4
theorem allPos_of_prod {s : List Int} (h : AllIn s) (hp : 0 < prod s) : AllPos s := by
  induction s with
  | nil => intro x hx; cases hx
  | cons x r ih =>
    have hx := h x List.mem_cons_self
    have hr := prod_nonneg h.tail
    simp only [prod] at hp
    have h0 : x ≠ 0 := by rintro rfl; simp at hp
    have h1 : prod r ≠ 0 := by intro e; rw [e] at hp; simp at hp
    intro y hy
    rcases List.mem_cons.1 hy with rfl | hy
    · omega
    · exact ih h.tail (by omega) y hy
def atErr (s : List Int) (p : Int) : Int := if errOf s ≠ 0 then errOf s else if p < 0 ∨ prod s ≤ p then 5 else 0
def atVal (s : List Int) (p : Int) : List Int := if atErr s p = 0 then (crd s p).1 else []
theorem atErr_zero {s : List Int} {p : Int} : atErr s p = 0 ↔ errOf s = 0 ∧ 0 ≤ p ∧ p < prod s := by
  unfold atErr
  by_cases h : errOf s = 0
  · rw [if_neg (by simpa using h)]
    by_cases h2 : p < 0 ∨ prod s ≤ p
    · rw [if_pos h2]; exact ⟨fun h => absurd h (by decide), fun h => by omega⟩
    · rw [if_neg h2]; exact ⟨fun _ => ⟨h, by omega, by omega⟩, fun _ => rfl⟩
  · rw [if_pos h]; exact ⟨fun e => absurd e h, fun e => absurd e.1 h⟩
theorem plErr_zero {s t : List Int} : plErr s t = 0 ↔ errOf s = 0 ∧ insB s t = true := by
  unfold plErr
  by_cases h : errOf s = 0
  · rw [if_neg (by simpa using h)]
    by_cases h1 : t.length = s.length
    · rw [if_neg (by simpa using h1)]
      cases h2 : insB s t <;> simp [h]
    · rw [if_pos h1]; exact ⟨fun e => absurd e (by decide), fun e => absurd (insB_len e.2) h1⟩
  · rw [if_pos h]; exact ⟨fun e => absurd e h, fun e => absurd e.1 h⟩
theorem plVal_ok {s t : List Int} (h : plErr s t = 0) : plVal s t = place s t := by simp [plVal, h]
theorem atVal_ok {s : List Int} {p : Int} (h : atErr s p = 0) : atVal s p = (crd s p).1 := by simp [atVal, h]
theorem atVal_len {s : List Int} {p : Int} (h : atErr s p = 0) : (atVal s p).length = s.length := by rw [atVal_ok h, crd_len]
/-- A place's indices lie on their axes, and their place is it. -/
theorem at_back {s : List Int} {p : Int} (h : atErr s p = 0) : plErr s (atVal s p) = 0 ∧ place s (atVal s p) = p := by
  have h' := atErr_zero.1 h
  have he := errOf_zero.1 h'.1
  obtain ⟨h1, h2, h3, h4⟩ := crd_fact (allPos_of_prod he.2.1 (by omega)) h'.2.1
  rw [atVal_ok h]
  refine ⟨plErr_zero.2 ⟨h'.1, h3⟩, ?_⟩
  have hb := place_bd h3
  by_cases e : (crd s p).2 = 0
  · rw [e] at h4; omega
  · have : 1 * prod s ≤ (crd s p).2 * prod s := Int.mul_le_mul_of_nonneg_right (by omega) (by omega)
    omega
/-- Two lists of indices of one place are one. -/
theorem place_inj : ∀ {s t u : List Int}, insB s t = true → insB s u = true → place s t = place s u → t = u
  | [], [], [], _, _, _ => rfl
  | [], _ :: _, _, h, _, _ => by simp [insB] at h
  | [], _, _ :: _, _, h, _ => by simp [insB] at h
  | _ :: _, [], _, h, _, _ => by simp [insB] at h
  | _ :: _, _, [], _, h, _ => by simp [insB] at h
  | x :: s, a :: t, b :: u, h1, h2, h3 => by
    simp only [insB, Bool.and_eq_true, decide_eq_true_eq] at h1 h2
    have e1 := place_bd h1.2
    have e2 := place_bd h2.2
    simp only [place] at h3
    have hab : a = b := by
      by_cases hl : a < b
      · have : (a + 1) * prod s ≤ b * prod s := Int.mul_le_mul_of_nonneg_right (by omega) (by omega)
        rw [Int.add_mul] at this; omega
      · by_cases hg : b < a
        · have : (b + 1) * prod s ≤ a * prod s := Int.mul_le_mul_of_nonneg_right (by omega) (by omega)
          rw [Int.add_mul] at this; omega
        · omega
    subst hab
    rw [place_inj h1.2 h2.2 (by omega)]
theorem pl_back {s t : List Int} (h : plErr s t = 0) : atErr s (place s t) = 0 ∧ atVal s (place s t) = t ∧ 0 ≤ place s t ∧ place s t < prod s := by
  have h' := plErr_zero.1 h
  have hb := place_bd h'.2
  have ha : atErr s (place s t) = 0 := atErr_zero.2 ⟨h'.1, hb.1, hb.2⟩
  refine ⟨ha, ?_, hb⟩
  have hk := at_back ha
  exact place_inj (plErr_zero.1 hk.1).2 h'.2 hk.2
theorem place_small {s t : List Int} (h : plErr s t = 0) : 0 ≤ place s t ∧ place s t < 4096 := by
  have h' := plErr_zero.1 h
  have hb := place_bd h'.2
  have he := errOf_zero.1 h'.1
  omega
/-- Row by row. -/
theorem place_order : ∀ {s t u : List Int} (k : Nat), insB s t = true → insB s u = true → k < s.length → (∀ j, j < k → nth t j = nth u j) → nth t k ≠ nth u k → (place s t < place s u ↔ nth t k < nth u k)
  | [], _, _, _, _, _, h, _, _ => by simp at h
  | _ :: _, [], _, _, h, _, _, _, _ => by simp [insB] at h
  | _ :: _, _, [], _, _, h, _, _, _ => by simp [insB] at h
  | x :: s, a :: t, b :: u, 0, h1, h2, _, _, hne => by
    simp only [insB, Bool.and_eq_true, decide_eq_true_eq] at h1 h2
    have e1 := place_bd h1.2
    have e2 := place_bd h2.2
    rw [nth_zero, nth_zero] at hne ⊢
    simp only [place]
    by_cases hl : a < b
    · have : (a + 1) * prod s ≤ b * prod s := Int.mul_le_mul_of_nonneg_right (by omega) (by omega)
      rw [Int.add_mul] at this; omega
    · have : (b + 1) * prod s ≤ a * prod s := Int.mul_le_mul_of_nonneg_right (by omega) (by omega)
      rw [Int.add_mul] at this; omega
  | x :: s, a :: t, b :: u, k + 1, h1, h2, hk, hj, hne => by
    simp only [insB, Bool.and_eq_true, decide_eq_true_eq] at h1 h2
    have e0 := hj 0 (by omega)
    rw [nth_zero, nth_zero] at e0
    subst e0
    rw [nth_succ, nth_succ] at hne ⊢
    have ih := place_order (s := s) (t := t) (u := u) k h1.2 h2.2 (by simpa using hk) (fun j hj' => by have := hj (j + 1) (by omega); rwa [nth_succ, nth_succ] at this) hne
    simp only [place]
    omega

/-! ### Two shapes joined -/
theorem prod_append (s t : List Int) : prod (s ++ t) = prod s * prod t := by
  induction s with
  | nil => simp [prod]
  | cons x r ih => simp [prod, ih, Int.mul_assoc]
theorem insB_append : ∀ {s a : List Int} {t b : List Int}, a.length = s.length → insB (s ++ t) (a ++ b) = true → insB s a = true ∧ insB t b = true
  | [], [], _, _, _, h => ⟨by simp [insB], by simpa using h⟩
  | [], _ :: _, _, _, h, _ => by simp at h
  | _ :: _, [], _, _, h, _ => by simp at h
  | x :: s, y :: a, t, b, h, h2 => by
    simp only [List.cons_append, insB, Bool.and_eq_true, decide_eq_true_eq] at h2 ⊢
    have ih := insB_append (s := s) (a := a) (by simpa using h) h2.2
    exact ⟨⟨h2.1, ih.1⟩, ih.2⟩
theorem place_append : ∀ {s a : List Int} (t b : List Int), a.length = s.length → place (s ++ t) (a ++ b) = place s a * prod t + place t b
  | [], [], _, _, _ => by simp [place]
  | [], _ :: _, _, _, h => by simp at h
  | _ :: _, [], _, _, h => by simp at h
  | x :: s, y :: a, t, b, h => by
    simp only [List.cons_append, place, prod_append, place_append (s := s) (a := a) t b (by simpa using h), Int.add_mul, Int.mul_assoc, Int.add_assoc]
theorem join_fact {s t a b : List Int} (hs : s.length ≤ 6) (ht : t.length ≤ 6) (ha : a.length = s.length) (h : plErr (s ++ t) (a ++ b) = 0) :
    plErr s a = 0 ∧ plErr t b = 0 ∧ errOf s = 0 ∧ errOf t = 0 ∧ errOf (s ++ t) = 0 ∧ prod (s ++ t) = prod s * prod t ∧ place (s ++ t) (a ++ b) = place s a * prod t + place t b := by
  have h' := plErr_zero.1 h
  have he := errOf_zero.1 h'.1
  obtain ⟨i1, i2⟩ := insB_append ha h'.2
  have b1 := place_bd i1
  have b2 := place_bd i2
  have hp := prod_append s t
  have q1 : prod s * 1 ≤ prod s * prod t := Int.mul_le_mul_of_nonneg_left (by omega) (by omega)
  have q2 : 1 * prod t ≤ prod s * prod t := Int.mul_le_mul_of_nonneg_right (by omega) (by omega)
  have e1 : errOf s = 0 := errOf_zero.2 ⟨hs, fun x hx => he.2.1 x (List.mem_append_left _ hx), by omega⟩
  have e2 : errOf t = 0 := errOf_zero.2 ⟨ht, fun x hx => he.2.1 x (List.mem_append_right _ hx), by omega⟩
  exact ⟨plErr_zero.2 ⟨e1, i1⟩, plErr_zero.2 ⟨e2, i2⟩, e1, e2, h'.1, hp, place_append t b ha⟩

/-! ### Axes from the last one on -/
abbrev Ax (len : Nat) : Type := { j : Nat // j < len }
def dn (len : Nat) : Nat → List (Ax len)
  | 0 => []
  | k + 1 => if h : len - 1 - k < len then dn len k ++ [⟨len - 1 - k, h⟩] else dn len k
theorem dn_succ (len k : Nat) (h : k < len) : dn len (k + 1) = dn len k ++ [⟨len - 1 - k, by omega⟩] := by
  have : len - 1 - k < len := by omega
  simp [dn, this]
theorem dn_length (len : Nat) : ∀ k, k ≤ len → (dn len k).length = k
  | 0, _ => rfl
  | k + 1, h => by rw [dn_succ len k (by omega), List.length_append, dn_length len k (by omega)]; rfl
theorem dn_mem (len : Nat) (j : Ax len) : ∀ k, k ≤ len → len - k ≤ j.1 → j ∈ dn len k
  | 0, _, h => by have := j.2; omega
  | k + 1, h, hj => by
    rw [dn_succ len k (by omega)]
    by_cases e : j.1 = len - 1 - k
    · exact List.mem_append_right _ (by rw [List.mem_singleton]; exact Subtype.ext e)
    · exact List.mem_append_left _ (dn_mem len j k (by omega) (by omega))
theorem fold_dn {σ : Type} (len : Nat) (step : σ → Ax len → σ) (G : Nat → σ) (h : ∀ k (hk : k < len), step (G (k + 1)) ⟨k, hk⟩ = G k) :
    ∀ k, k ≤ len → (dn len k).foldl step (G len) = G (len - k)
  | 0, _ => by simp [dn]
  | k + 1, hk => by
    rw [dn_succ len k (by omega), List.foldl_append, fold_dn len step G h k (by omega)]
    simp only [List.foldl_cons, List.foldl_nil]
    have e : len - k = (len - 1 - k) + 1 := by omega
    rw [e, h (len - 1 - k) (by omega)]
    congr 1
    omega
end Go.Proofs.YtgjgbgllhbdodaaGreatDoor
/-! Isin: A slice's value that leads to these integers. -/
namespace Go.Proofs.YtgjgbgllhbdodaaGreatDoor
open Go.RowKit
set_option linter.unusedVariables false

/-- A slice's value leads to these integers, in a block below n₀ (or there are none). -/
def IsInts (n₀ : Nat) (W : World) (a : Option Addr) (zs : List Int) : Prop :=
  zs = [] ∨ ∃ b off, a = some ⟨b, off, none⟩ ∧ b < n₀ ∧ ∀ j, j < zs.length → W.cell? ⟨b, off + j, none⟩ = some (.int .i64 (nth zs j))
theorem IsInts.below {n₀ : Nat} {A B : World} (h : Below n₀ A B) {a : Option Addr} {zs : List Int} : IsInts n₀ A a zs → IsInts n₀ B a zs
  | .inl e => .inl e
  | .inr ⟨b, off, e, hb, hc⟩ => .inr ⟨b, off, e, hb, fun j hj => (h.cell (p := ⟨b, off + j, none⟩) hb).trans (hc j hj)⟩
theorem IsInts.mono {n₀ n₁ : Nat} {A : World} (h : n₀ ≤ n₁) {a : Option Addr} {zs : List Int} : IsInts n₀ A a zs → IsInts n₁ A a zs
  | .inl e => .inl e
  | .inr ⟨b, off, e, hb, hc⟩ => .inr ⟨b, off, e, by omega, hc⟩
/-- Where there is an integer, the slice leads to it. -/
theorem IsInts.at {n₀ : Nat} {A : World} {a : Option Addr} {zs : List Int} {q : Nat} (h : IsInts n₀ A a zs) (hq : q < zs.length) :
    ∃ b off, a = some ⟨b, off, none⟩ ∧ b < n₀ ∧ ∀ j, j < zs.length → A.cell? ⟨b, off + j, none⟩ = some (.int .i64 (nth zs j)) := by
  rcases h with e | h
  · rw [e] at hq; cases hq
  · exact h
theorem int_eq {k : IntKind} {a b : Int} (h : a = b) : Value.int k a = .int k b := by rw [h]
theorem ret_int {k : IntKind} {a b : Int} (h : a = b) : Ending.returned (.int k a) = .returned (.int k b) := by rw [h]
end Go.Proofs.YtgjgbgllhbdodaaGreatDoor
/-! Rowi: A slice of integers that came in, as the walks take it. -/
namespace Go.Proofs.YtgjgbgllhbdodaaGreatDoor
open Go.RowKit

theorem row_ints {w : World} {a : Option Addr} {len cap : Nat} {z : List Int}
    (h : (a = none ∧ len = 0 ∧ cap = 0 ∧ z = []) ∨ ∃ x, a = some x ∧ len ≤ cap ∧ cap ≤ maxLen ∧ z.length = cap ∧ (∀ i, i < z.length → w.cell? (x.add i) = some (.int .i64 (z.getD i 0))) ∧ ∀ n ∈ z, (Lit.int .i64 n).wf = true) :
    ∃ zs : List Int, zs.length = len ∧ zs.length ≤ 9223372036854775807 ∧ IsInts w.heap.size w a zs ∧ ∀ j, -9223372036854775808 ≤ nth zs j ∧ nth zs j ≤ 9223372036854775807 := by
  rcases h with ⟨rfl, rfl, rfl, rfl⟩ | ⟨x, rfl, hl, hm, hz, hc, hw⟩
  · exact ⟨[], rfl, by simp, .inl rfl, fun j => by rw [nth_nil]; omega⟩
  · refine ⟨z.take len, by simp; omega, by simp only [List.length_take]; unfold maxLen at hm; omega, ?_, fun j => ?_⟩
    · by_cases h0 : len = 0
      · left; rw [h0]; simp
      · right
        obtain ⟨b, off, rfl, hc'⟩ := ints_at hc (by omega)
        refine ⟨b, off, rfl, ?_, fun j hj => ?_⟩
        · exact World.block_lt_of_cell? w _ (hc' 0 (by omega))
        · simp only [List.length_take] at hj
          rw [nth_take z len j (by omega)]
          exact hc' j (by omega)
    · by_cases hj : j < len
      · rw [nth_take z len j hj]
        have := range_i64 hw j
        simpa [nth] using this
      · have : nth (z.take len) j = 0 := by simp [nth, List.getElem?_take, hj]
        rw [this]; omega
end Go.Proofs.YtgjgbgllhbdodaaGreatDoor
/-! Ints: Are two lists the same? What the comparison of two slices tells. -/
namespace Go.Proofs.YtgjgbgllhbdodaaGreatDoor
open Go.RowKit
set_option linter.unusedVariables false

def eqB (a b : List Int) : Bool := decide (a = b)
theorem eqB_true {a b : List Int} (h : a = b) : eqB a b = true := decide_eq_true h
theorem eqB_false {a b : List Int} (h : a ≠ b) : eqB a b = false := decide_eq_false h

set_option maxRecDepth 100000 in
set_option maxHeartbeats 1000000 in
theorem ints_any (a : Option Addr) (cap : Nat) (zs : List Int) (a' : Option Addr) (cap' : Nat) (us : List Int) (hreach : zs.length ≤ 9223372036854775807) (n₀ : Nat) (w : World) (hI : IsInts n₀ w a zs) (hI' : IsInts n₀ w a' us) :
    Calls Tryz.prog 25 #[.slice a zs.length cap, .slice a' us.length cap'] w fun e w' => e = .returned (.bool (eqB zs us)) ∧ Below w.heap.size w w' := by
  by_cases hlen : zs.length = us.length
  · have hl : ((zs.length : Int) != (us.length : Int)) = false := by simp [hlen]
    have H : Hid (zs.length = us.length) := hlen
    clear hlen
    go_enter Tryz.func25, Tryz.ntmps25
    go_wp2_with fail
    go_loopw [5] (fun i wr => ∃ k : Nat, k ≤ zs.length ∧ i = .int .i64 k ∧ (∀ j, j < k → nth zs j = nth us j) ∧ ∃ m, wr = w.drewN m) (fun i _ => zs.length - (intOf i).toNat)
    case atStart => exact ⟨0, Nat.zero_le _, rfl, fun j hj => by omega, 0, rfl⟩
    case round =>
      obtain ⟨k, hk, rfl, hsame, m, rfl⟩ := hrel
      have HS : Hid (∀ j, j < k → nth zs j = nth us j) := hsame
      clear hsame
      by_cases hlt : k < zs.length
      · obtain ⟨b, off, rfl, hb, hcell⟩ := hI.at hlt
        obtain ⟨b', off', rfl, hb', hcell'⟩ := hI'.at (q := k) (by rw [← H.out]; exact hlt)
        have hlt' : k < us.length := by rw [← H.out]; exact hlt
        have hc := hcell k hlt
        have hc' := hcell' k hlt'
        clear hcell hcell'
        by_cases he : nth zs k = nth us k
        · have hne : (nth zs k != nth us k) = false := by simp [he]
          have HE : Hid (nth zs k = nth us k) := he
          clear he
          go_wp2_with fail
          go_quiet (fail)
          go_wp2
          go_roundw
          case rel => exact ⟨k + 1, by omega, by go_num, fun j hj => by by_cases e : j = k; · rw [e]; exact HE.out
                                                                        · exact HS.out j (by omega), _, rfl⟩
          case measure => simp [intOf]; omega
        · have hne : (nth zs k != nth us k) = true := by simp [he]
          have hfin : Hid (eqB zs us = false) := eqB_false (fun e => he (by rw [e]))
          go_wp2_with fail
          go_quiet (fail)
          go_wp2
          go_ret
          exact ⟨ret_bool hfin.out.symm, bel_drewN (bel_drewN (Below.refl _ _) _) _⟩
      · obtain rfl : k = zs.length := by omega
        have hfin : Hid (eqB zs us = true) := eqB_true (nth_ext H.out HS.out)
        go_wp2_with fail
        go_ret
        exact ⟨ret_bool hfin.out.symm, bel_drewN (Below.refl _ _) _⟩
  · have hl : ((zs.length : Int) != (us.length : Int)) = true := by simp; omega
    have hfin : Hid (eqB zs us = false) := eqB_false (fun e => hlen (by rw [e]))
    go_enter Tryz.func25, Tryz.ntmps25
    go_wp2_with fail
    go_ret
    exact ⟨ret_bool hfin.out.symm, Below.refl _ _⟩
end Go.Proofs.YtgjgbgllhbdodaaGreatDoor
/-! Help: Small facts that several walks use: the count of a shape, case by case; boxes and rows of the call's own. -/
namespace Go.Proofs.YtgjgbgllhbdodaaGreatDoor
set_option linter.unusedVariables false

theorem ret2s {a : Option Addr} {n m cap : Nat} {v u : Value} (h : n = m) (h2 : v = u) : Ending.returned (.tuple #[.slice a n cap, v]) = .returned (.tuple #[.slice a m cap, u]) := by rw [h, h2]
theorem Tryz.infoInt : (Tryz.prog.info? 3).map (fun i => (i.zero, i.size, i.bytes)) = some (some (.int .i64 0), 1, 8) := by kernel_rfl
theorem nth_replicate (n j : Nat) : nth (List.replicate n 0) j = 0 := by
  by_cases h : j < n
  · simp [nth, h]
  · simp [nth, Nat.le_of_not_lt h]

end Go.Proofs.YtgjgbgllhbdodaaGreatDoor
/-! Till: A region that draws its order: a load may be taken first where the first store waits for it and what it reads is kept till then. -/
namespace Go.Proofs.YtgjgbgllhbdodaaGreatDoor
set_option linter.unusedVariables false

section
variable {P : Program} {ops : Array Oper} {Q : Exit → Act → World → Prop} {md : Region.Mode} {s : Nat} {C : World → Prop}

/-- As long as operation s has not come up, C holds. -/
def Till (s : Nat) (C : World → Prop) (l : Array Bool) (w : World) : Prop := l.getD s true = false → C w
/-- Any order from here on; behind each operation C holds as long as s has not come up. -/
def anyT (P : Program) (md : Region.Mode) (ops : Array Oper) (Q : Exit → Act → World → Prop) (s : Nat) (C : World → Prop) : Nat → Array Bool → Act → World → Prop
  | 0, l, a, w => Region.ready md ops l = [] ∧ Q .normal a w
  | n + 1, l, a, w => (Region.ready md ops l = [] → Q .normal a w) ∧ ∀ i, i ∈ Region.ready md ops l →
      wpOp P ops Q i (fun a' w' => Till s C (l.setIfInBounds i true) w' ∧ anyT P md ops Q s C n (l.setIfInBounds i true) a' w') a w
theorem anyT.plain {n : Nat} : ∀ {l : Array Bool} {a : Act} {w : World}, anyT P md ops Q s C n l a w → wpAny P md ops Q n l a w := by
  induction n with
  | zero => exact fun h => h
  | succ n ih => exact fun h => ⟨h.1, fun i hi => wpOp_mono (fun _ _ k => ih k.2) (h.2 i hi)⟩
theorem till_back {l : Array Bool} {i j : Nat} {w : World} (hi : i ≠ s) (h : Till s C ((l.setIfInBounds i true).setIfInBounds j true) w) : Till s C (l.setIfInBounds j true) w := by
  intro h0
  refine h ?_
  by_cases hj : j = s
  · subst hj
    rw [Array.setIfInBounds_comm _ _ hi, getD_set_ne true hi]
    exact h0
  · rw [getD_set_ne true hj, getD_set_ne true hi]
    rwa [getD_set_ne true hj] at h0
/-- s waits for i. -/
def Waits (md : Region.Mode) (ops : Array Oper) (s i : Nat) : Prop := ∃ os, ops[s]? = some os ∧ ∃ e ∈ os.after, Region.binds md e = true ∧ e.on = i
theorem Waits.not_ready {i : Nat} (h : Waits md ops s i) {l : Array Bool} (hl : l.getD i true = false) : s ∉ Region.ready md ops l := by
  obtain ⟨os, ho, e, he, hb, rfl⟩ := h
  intro hr
  obtain ⟨_, o, ho', hall⟩ := mem_ready.1 hr
  rw [ho] at ho'
  obtain rfl := Option.some.inj ho'
  have h1 := hall e he hb
  simp only [Array.getD_eq_getD_getElem?] at h1 hl
  cases hx : l[e.on]? with
  | none => simp [hx] at h1
  | some b => simp only [hx, Option.getD_some] at h1 hl; rw [h1] at hl; cases hl
def waitsB (md : Region.Mode) (ops : Array Oper) (s i : Nat) : Bool := match ops[s]? with
  | some os => os.after.any fun e => Region.binds md e && e.on == i
  | none => false
theorem Waits.of {i : Nat} (h : waitsB md ops s i = true) : Waits md ops s i := by
  unfold waitsB at h
  split at h
  · rename_i os ho
    obtain ⟨k, hk, hx⟩ := Array.any_eq_true.1 h
    rw [Bool.and_eq_true, beq_iff_eq] at hx
    exact ⟨os, ho, os.after[k], Array.getElem_mem hk, hx.1, hx.2⟩
  · cases h
/-- A load, or the like, taken first: in every world that meets C it yields its value, and s waits for it. -/
theorem anyT_load {i : Nat} {oi : Oper} {v : Value} (hi : ops[i]? = some oi) (hsel : ∀ (j : Nat) (o : Oper) cs b, ops[j]? = some o → o.op ≠ .select cs b)
    (hQ : ∀ c a w, Q (.panic c) (a.put oi.dst v) w → Q (.panic c) a w) (hw : Waits md ops s i) (his : i ≠ s) (n : Nat) :
    ∀ (l : Array Bool) (a : Act) (w : World),
      (∀ j oj, ops[j]? = some oj → j ≠ i → l.getD j true = false → (∀ e ∈ oj.after, Region.binds md e = true → e.on ≠ i) → oi.apart ops oj = true) →
      i ∈ Region.ready md ops l → YieldsIf P ops C oi v a → l.getD s true = false → C w →
      anyT P md ops Q s C n (l.setIfInBounds i true) (a.put oi.dst v) w → anyT P md ops Q s C (n + 1) l a w := by
  induction n with
  | zero =>
    intro l a w _ hr hy hl hC H
    refine ⟨fun h => absurd hr (by rw [h]; simp), fun j hj => ?_⟩
    by_cases hji : j = i
    · subst hji; exact hy.wpOp hi hC ⟨fun _ => hC, H⟩
    · exact absurd (ready_mono hj hji) (by rw [H.1]; simp)
  | succ n ih =>
    intro l a w hfree hr hy hl hC H
    refine ⟨fun h => absurd hr (by rw [h]; simp), fun j hj => ?_⟩
    by_cases hji : j = i
    · subst hji; exact hy.wpOp hi hC ⟨fun _ => hC, H⟩
    · have hli := (mem_ready.1 hr).1
      have hjs : j ≠ s := fun e => hw.not_ready hli (e ▸ hj)
      obtain ⟨hjl, oj, hoj, hall⟩ := mem_ready.1 hj
      have hnot : ∀ e ∈ oj.after, Region.binds md e = true → e.on ≠ i := fun e he hb heq => (Waits.not_ready ⟨oj, hoj, e, he, hb, heq⟩ hli) hj
      refine wpOp_mono (fun a' w' k => ?_) (wpOp_putIf hoj (hfree j oj hoj hji hjl hnot) (fun cs b => hsel i oi cs b hi) (fun cs b => hsel j oj cs b hoj) hQ hy (H.2 j (ready_mono hj hji)))
      obtain ⟨hy', hT, hrest⟩ := k
      have hT' := till_back his hT
      have hl' : (l.setIfInBounds j true).getD s true = false := by rw [getD_set_ne true hjs]; exact hl
      refine ⟨hT', ih (l.setIfInBounds j true) a' w' ?_ (ready_mono hr (Ne.symm hji)) hy' hl' (hT' hl') ?_⟩
      · intro k ok hk hki hun hno
        refine hfree k ok hk hki ?_ hno
        by_cases hjk : j = k
        · subst hjk; exact hjl
        · rwa [getD_set_ne true hjk] at hun
      · rw [Array.setIfInBounds_comm _ _ hji]; exact hrest
theorem anyT_take (i d : Nat) (v : Value) (l' : Array Bool) {oi : Oper} {n : Nat} {l : Array Bool} {a : Act} {w : World} (hi : ops[i]? = some oi) (hd : oi.dst = some d) (hl' : l.setIfInBounds i true = l')
    (hs : Region.noSelect ops = true) (hf : Region.free md ops l i = true) (hr : (Region.ready md ops l).contains i = true)
    (hQ : ∀ c a w, Q (.panic c) (a.put oi.dst v) w → Q (.panic c) a w) (hw : waitsB md ops s i = true) (his : i ≠ s) (hl : l.getD s true = false) (hy : YieldsIf P ops C oi v a) (hC : C w)
    (h : anyT P md ops Q s C n l' (a.put (some d) v) w) : anyT P md ops Q s C (n + 1) l a w :=
  anyT_load hi (Region.noSelect_spec hs) hQ (Waits.of hw) his n l a w (Region.free_spec hi hf) (by simpa using hr) hy hl hC (by rw [hd, hl']; exact h)
theorem anyT_all {rs : List Nat} {n : Nat} {l : Array Bool} {a : Act} {w : World} (hr : Region.ready md ops l = rs) (hne : rs ≠ [])
    (h : ∀ i ∈ rs, wpOp P ops Q i (fun a' w' => Till s C (l.setIfInBounds i true) w' ∧ anyT P md ops Q s C n (l.setIfInBounds i true) a' w') a w) : anyT P md ops Q s C (n + 1) l a w :=
  ⟨fun h0 => absurd (hr ▸ h0) hne, hr ▸ h⟩
theorem anyT_begin (s : Nat) (C : World → Prop) (n : Nat) (l : Array Bool) {id : Nat} {a : Act} {w : World} (hm : P.follows .mixedOrders = true) (hn : ops.size = n) (hl : Array.replicate ops.size false = l)
    (h : anyT P .any ops Q s C n l a w.drew) : (Code.region id ops true).wp P Q a w := wp_region_any hm (by rw [hl, hn]; exact h.plain)
/-- An operation that yields its value in whatever world is taken first. -/
theorem anyT_pure {i : Nat} {oi : Oper} {v : Value} (hi : ops[i]? = some oi) (hsel : ∀ (j : Nat) (o : Oper) cs b, ops[j]? = some o → o.op ≠ .select cs b)
    (hQ : ∀ c a w, Q (.panic c) (a.put oi.dst v) w → Q (.panic c) a w) (his : i ≠ s) (n : Nat) :
    ∀ (l : Array Bool) (a : Act) (w : World),
      (∀ j oj, ops[j]? = some oj → j ≠ i → l.getD j true = false → (∀ e ∈ oj.after, Region.binds md e = true → e.on ≠ i) → oi.apart ops oj = true) →
      i ∈ Region.ready md ops l → Yields P ops oi v a → Till s C l w →
      anyT P md ops Q s C n (l.setIfInBounds i true) (a.put oi.dst v) w → anyT P md ops Q s C (n + 1) l a w := by
  have up : ∀ {l : Array Bool} {w : World}, Till s C l w → Till s C (l.setIfInBounds i true) w := fun h h0 => h (by rwa [getD_set_ne true his] at h0)
  induction n with
  | zero =>
    intro l a w _ hr hy hC H
    refine ⟨fun h => absurd hr (by rw [h]; simp), fun j hj => ?_⟩
    by_cases hji : j = i
    · subst hji; exact hy.wpOp hi ⟨up hC, H⟩
    · exact absurd (ready_mono hj hji) (by rw [H.1]; simp)
  | succ n ih =>
    intro l a w hfree hr hy hC H
    refine ⟨fun h => absurd hr (by rw [h]; simp), fun j hj => ?_⟩
    by_cases hji : j = i
    · subst hji; exact hy.wpOp hi ⟨up hC, H⟩
    · have hli := (mem_ready.1 hr).1
      obtain ⟨hjl, oj, hoj, hall⟩ := mem_ready.1 hj
      have hnot : ∀ e ∈ oj.after, Region.binds md e = true → e.on ≠ i := fun e he hb heq => (Waits.not_ready ⟨oj, hoj, e, he, hb, heq⟩ hli) hj
      refine wpOp_mono (fun a' w' k => ?_) (wpOp_put hoj (hfree j oj hoj hji hjl hnot) (fun cs b => hsel i oi cs b hi) (fun cs b => hsel j oj cs b hoj) hQ hy (H.2 j (ready_mono hj hji)))
      obtain ⟨hy', hT, hrest⟩ := k
      have hT' := till_back his hT
      refine ⟨hT', ih (l.setIfInBounds j true) a' w' ?_ (ready_mono hr (Ne.symm hji)) hy' hT' ?_⟩
      · intro k ok hk hki hun hno
        refine hfree k ok hk hki ?_ hno
        by_cases hjk : j = k
        · subst hjk; exact hjl
        · rwa [getD_set_ne true hjk] at hun
      · rw [Array.setIfInBounds_comm _ _ hji]; exact hrest
theorem anyT_put (i d : Nat) (v : Value) (l' : Array Bool) {oi : Oper} {n : Nat} {l : Array Bool} {a : Act} {w : World} (hi : ops[i]? = some oi) (hd : oi.dst = some d) (hl' : l.setIfInBounds i true = l')
    (hs : Region.noSelect ops = true) (hf : Region.free md ops l i = true) (hr : (Region.ready md ops l).contains i = true)
    (hQ : ∀ c a w, Q (.panic c) (a.put oi.dst v) w → Q (.panic c) a w) (his : i ≠ s) (hy : Yields P ops oi v a) (hC : Till s C l w)
    (h : anyT P md ops Q s C n l' (a.put (some d) v) w) : anyT P md ops Q s C (n + 1) l a w :=
  anyT_pure hi (Region.noSelect_spec hs) hQ his n l a w (Region.free_spec hi hf) (by simpa using hr) hy hC (by rw [hd, hl']; exact h)
/-- One operation alone may come up: it is carried out. -/
theorem anyT_one (i : Nat) (l' : Array Bool) {o : Oper} {n : Nat} {l : Array Bool} {a : Act} {w : World} (hr : Region.ready md ops l = [i]) (ho : ops[i]? = some o) (hl' : l.setIfInBounds i true = l')
    (h : ∀ K : Act → World → Prop, RowKit.Hid (∀ a w, Till s C l' w → anyT P md ops Q s C n l' a w → K a w) → if Region.wanted o (yielded ops a.tmps) = true then Oper.wp P o a w K Q else K (a.put o.dst undef) w) : anyT P md ops Q s C (n + 1) l a w := by
  refine anyT_all hr (by simp) fun j hj => ?_
  obtain rfl := List.mem_singleton.1 hj
  exact wpOp_step ho fun K hK => h K fun a w h1 h2 => hK a w (by rw [hl']; exact ⟨h1, h2⟩)
/-- Two may come up: each that reads alone, in the world at hand. -/
theorem anyT_two (i j d e : Nat) (v u : Value) (li lj : Array Bool) {oi oj : Oper} {n : Nat} {l : Array Bool} {a : Act} {w : World} (hr : Region.ready md ops l = [i, j]) (hi : ops[i]? = some oi) (hj : ops[j]? = some oj) (hd : oi.dst = some d) (he : oj.dst = some e)
    (hli : l.setIfInBounds i true = li) (hlj : l.setIfInBounds j true = lj) (hyi : YieldsIf P ops C oi v a) (hyj : YieldsIf P ops C oj u a) (hC : C w)
    (h1 : anyT P md ops Q s C n li (a.put (some d) v) w) (h2 : anyT P md ops Q s C n lj (a.put (some e) u) w) : anyT P md ops Q s C (n + 1) l a w := by
  refine anyT_all hr (by simp) fun k hk => ?_
  rcases List.mem_cons.1 hk with rfl | hk
  · exact hyi.wpOp hi hC ⟨fun _ => hC, by rw [hd, hli]; exact h1⟩
  · obtain rfl := List.mem_singleton.1 hk
    exact hyj.wpOp hj hC ⟨fun _ => hC, by rw [he, hlj]; exact h2⟩
/-- Either of two may come up: each is carried out. -/
theorem anyT_br2 (i j : Nat) (li lj : Array Bool) {oi oj : Oper} {n : Nat} {l : Array Bool} {a : Act} {w : World} (hr : Region.ready md ops l = [i, j]) (hoi : ops[i]? = some oi) (hoj : ops[j]? = some oj) (hli : l.setIfInBounds i true = li) (hlj : l.setIfInBounds j true = lj)
    (h1 : ∀ K : Act → World → Prop, RowKit.Hid (∀ a w, Till s C li w → anyT P md ops Q s C n li a w → K a w) → if Region.wanted oi (yielded ops a.tmps) = true then Oper.wp P oi a w K Q else K (a.put oi.dst undef) w)
    (h2 : ∀ K : Act → World → Prop, RowKit.Hid (∀ a w, Till s C lj w → anyT P md ops Q s C n lj a w → K a w) → if Region.wanted oj (yielded ops a.tmps) = true then Oper.wp P oj a w K Q else K (a.put oj.dst undef) w) : anyT P md ops Q s C (n + 1) l a w := by
  refine anyT_all hr (by simp) fun k hk => ?_
  rcases List.mem_cons.1 hk with rfl | hk
  · exact wpOp_step hoi fun K hK => h1 K fun a w q1 q2 => hK a w (by rw [hli]; exact ⟨q1, q2⟩)
  · obtain rfl := List.mem_singleton.1 hk
    exact wpOp_step hoj fun K hK => h2 K fun a w q1 q2 => hK a w (by rw [hlj]; exact ⟨q1, q2⟩)
theorem anyT_read (i d : Nat) (v : Value) (l' : Array Bool) {oi : Oper} {n : Nat} {l : Array Bool} {a : Act} {w : World} (hr : Region.ready md ops l = [i]) (hi : ops[i]? = some oi) (hd : oi.dst = some d)
    (hli : l.setIfInBounds i true = l') (hyi : YieldsIf P ops C oi v a) (hC : C w) (h1 : anyT P md ops Q s C n l' (a.put (some d) v) w) : anyT P md ops Q s C (n + 1) l a w := by
  refine anyT_all hr (by simp) fun k hk => ?_
  obtain rfl := List.mem_singleton.1 hk
  exact hyi.wpOp hi hC ⟨fun _ => hC, by rw [hd, hli]; exact h1⟩
theorem anyT_done {l : Array Bool} {a : Act} {w : World} (hr : Region.ready md ops l = []) (h : Q .normal a w) : anyT P md ops Q s C 0 l a w := ⟨hr, h⟩
end
end Go.Proofs.YtgjgbgllhbdodaaGreatDoor
/-! Abx: A block that holds an array: its mark and its two lists. -/
namespace Go.Proofs.YtgjgbgllhbdodaaGreatDoor
open Go.RowKit
set_option linter.unusedVariables false

theorem bel_set3 {B b : Nat} {a w : World} (h : Below B a w) (hb : B ≤ b) (x y z : Value) : Below B a (((w.setCell ⟨b, 0, none⟩ x).setCell ⟨b, 1, none⟩ y).setCell ⟨b, 2, none⟩ z) :=
  ((h.setCell (p := ⟨b, 0, none⟩) hb _).setCell (p := ⟨b, 1, none⟩) hb _).setCell (p := ⟨b, 2, none⟩) hb _
theorem size_set3 {b : Nat} {w : World} (x y z : Value) : (((w.setCell ⟨b, 0, none⟩ x).setCell ⟨b, 1, none⟩ y).setCell ⟨b, 2, none⟩ z).heap.size = w.heap.size := by simp [World.setCell]
end Go.Proofs.YtgjgbgllhbdodaaGreatDoor
/-! Owns: A slice that the call itself has made by appends, and the integers that it leads to. -/
namespace Go.Proofs.YtgjgbgllhbdodaaGreatDoor
open Go.RowKit
set_option linter.unusedVariables false

theorem take_snoc (zs : List Int) (k : Nat) (h : k < zs.length) : zs.take (k + 1) = zs.take k ++ [nth zs k] := by
  rw [List.take_succ_eq_append_getElem h, nth_get zs k h]
/-- A slice that owns its integers leads to them. -/
theorem owns_ints {w : World} {base : Nat} {e : TypeId} {v : Value} {n : Nat} {xs : List Int} (h : w.ownsRow base e 1 v n (xs.map (Value.int .i64))) :
    ∃ g cap, v = .slice g xs.length cap ∧ IsInts w.heap.size w g xs := by
  obtain ⟨hl, hc⟩ := h
  simp only [List.length_map, Nat.mul_one] at hl
  subst hl
  rcases hc with ⟨rfl, h0⟩ | ⟨g, cap, cur, rfl, _, hg, h1, _, h2, h3⟩
  · have : xs = [] := List.eq_nil_of_length_eq_zero h0
    subst this
    exact ⟨none, 0, rfl, .inl rfl⟩
  · refine ⟨_, cap, rfl, .inr ⟨g, 0, rfl, (Array.getElem?_eq_some_iff.1 hg).1, fun j hj => ?_⟩⟩
    have e1 : (cur.toList.take (xs.length * 1))[j]? = (xs.map (Value.int .i64))[j]? := by rw [h3]
    rw [List.getElem?_take, if_pos (by omega), Array.getElem?_toList, List.getElem?_map] at e1
    simp only [World.cell?, hg, Nat.zero_add]
    rw [e1, nth_get xs j hj]
    simp [hj]

theorem own_ge {w : World} {base : Nat} {e : TypeId} {size : Nat} {v : Value} {n : Nat} {xs : List Value} (h : w.ownsRow base e size v n xs) (j : Nat) (hj : v.ownBlock = some j) : base ≤ j := by
  rcases h.2 with ⟨rfl, _⟩ | ⟨g, cap, cur, rfl, hg, _⟩
  · simp [Value.ownBlock] at hj
  · simp [Value.ownBlock] at hj; omega
theorem owns_below {w wr w3 : World} {B : Nat} {e : TypeId} {size : Nat} {v : Value} {n : Nat} {xs : List Value} {o : Obj} (hB : Below B w wr) (hs : B ≤ wr.heap.size) (h : wr.ownsRow B e size v n xs) (hg : (wr.alloc o).grownBy w3 v.ownBlock) : Below B w w3 :=
  (hB.alloc hs o).grown hg (by simp; omega) (own_ge h)

end Go.Proofs.YtgjgbgllhbdodaaGreatDoor
/-! Newi: A slice's value that leads to these integers, in memory made from block lo on. -/
namespace Go.Proofs.YtgjgbgllhbdodaaGreatDoor
open Go.RowKit
set_option linter.unusedVariables false

theorem frozen_row {W : World} {b : Nat} {c : Array Value} {t : TypeId} (h : W.heap[b]? = some (.cells c t (0, 0))) (j : Nat) : W.frozen? ⟨b, j, none⟩ = false := by simp [World.frozen?, h]
def NewInts (lo : Nat) (W : World) (a : Option Addr) (zs : List Int) : Prop :=
  zs = [] ∨ ∃ b off, a = some ⟨b, off, none⟩ ∧ lo ≤ b ∧ b < W.heap.size ∧ (∀ j, j < zs.length → W.cell? ⟨b, off + j, none⟩ = some (.int .i64 (nth zs j))) ∧ ∀ j, W.frozen? ⟨b, off + j, none⟩ = false
section
variable {lo : Nat} {W : World} {a : Option Addr} {zs : List Int}
theorem NewInts.ints : NewInts lo W a zs → IsInts W.heap.size W a zs
  | .inl e => .inl e
  | .inr ⟨b, off, e, _, hb, hc, _⟩ => .inr ⟨b, off, e, hb, hc⟩
theorem NewInts.low {lo' : Nat} (h : lo' ≤ lo) : NewInts lo W a zs → NewInts lo' W a zs
  | .inl e => .inl e
  | .inr ⟨b, off, e, h0, hb, hc, hz⟩ => .inr ⟨b, off, e, by omega, hb, hc, hz⟩
theorem NewInts.bel {n : Nat} {W' : World} (hB : Below n W W') (hn : W.heap.size ≤ n) : NewInts lo W a zs → NewInts lo W' a zs
  | .inl e => .inl e
  | .inr ⟨b, off, e, h0, hb, hc, hz⟩ => .inr ⟨b, off, e, h0, by have := hB.size; omega, fun j hj => (hB.cell (p := ⟨b, off + j, none⟩) (by show b < n; omega)).trans (hc j hj), fun j => (hB.frozen (p := ⟨b, off + j, none⟩) (by show b < n; omega)).trans (hz j)⟩
theorem NewInts.go {W' : World} (hB : Below W.heap.size W W') (h : NewInts lo W a zs) : NewInts lo W' a zs := h.bel hB (Nat.le_refl _)
theorem NewInts.set {p : Addr} (hp : p.block < lo) (v : Value) : NewInts lo W a zs → NewInts lo (W.setCell p v) a zs
  | .inl e => .inl e
  | .inr ⟨b, off, e, h0, hb, hc, hz⟩ => .inr ⟨b, off, e, h0, by simpa [World.setCell] using hb, fun j hj => (World.cell?_of_block (Below.heap_setCell W p v b (by omega))).trans (hc j hj), fun j => by rw [World.frozen?_setCell]; exact hz j⟩
theorem NewInts.set3 {b : Nat} (hb : b < lo) (x y z : Value) (h : NewInts lo W a zs) : NewInts lo (((W.setCell ⟨b, 0, none⟩ x).setCell ⟨b, 1, none⟩ y).setCell ⟨b, 2, none⟩ z) a zs :=
  ((h.set (p := ⟨b, 0, none⟩) hb x).set (p := ⟨b, 1, none⟩) hb y).set (p := ⟨b, 2, none⟩) hb z
theorem NewInts.al (h : NewInts lo W a zs) (o : Obj) : NewInts lo (W.alloc o) a zs := h.go ((Below.refl _ W).alloc (Nat.le_refl _) o)
theorem NewInts.dr (h : NewInts lo W a zs) : NewInts lo W.drew a zs := h
end
/-- A slice that owns its integers leads to them, in memory of the call's own. -/
theorem owns_new {w : World} {base : Nat} {e : TypeId} {v : Value} {n : Nat} {xs : List Int} (h : w.ownsRow base e 1 v n (xs.map (Value.int .i64))) :
    ∃ g cap, v = .slice g xs.length cap ∧ NewInts base w g xs := by
  obtain ⟨hl, hc⟩ := h
  simp only [List.length_map, Nat.mul_one] at hl
  subst hl
  rcases hc with ⟨rfl, h0⟩ | ⟨g, cap, cur, rfl, h9, hg, h1, _, h2, h3⟩
  · have : xs = [] := List.eq_nil_of_length_eq_zero h0
    subst this
    exact ⟨none, 0, rfl, .inl rfl⟩
  · refine ⟨_, cap, rfl, .inr ⟨g, 0, rfl, h9, (Array.getElem?_eq_some_iff.1 hg).1, fun j hj => ?_, fun j => frozen_row hg _⟩⟩
    have e1 : (cur.toList.take (xs.length * 1))[j]? = (xs.map (Value.int .i64))[j]? := by rw [h3]
    rw [List.getElem?_take, if_pos (by omega), Array.getElem?_toList, List.getElem?_map] at e1
    simp only [World.cell?, hg, Nat.zero_add]
    rw [e1, nth_get xs j hj]
    simp [hj]
theorem new_ints1 (w : World) (t : TypeId) (x : Int) : NewInts w.heap.size (w.alloc (.cells #[.int .i64 x] t)) (some ⟨w.heap.size, 0, none⟩) [x] := by
  have hb : (w.alloc (.cells #[.int .i64 x] t)).heap[w.heap.size]? = some (.cells #[.int .i64 x] t (0, 0)) := World.alloc_heap_new w _
  refine .inr ⟨w.heap.size, 0, rfl, Nat.le_refl _, by simp, fun j hj => ?_, fun j => frozen_row hb _⟩
  simp only [List.length_cons, List.length_nil] at hj
  obtain rfl : j = 0 := by omega
  simp only [World.cell?, hb]; rfl
theorem new_lit (w : World) (t : TypeId) (xs : List Int) : NewInts w.heap.size (w.alloc (.cells (xs.map (Value.int .i64)).toArray t)) (some ⟨w.heap.size, 0, none⟩) xs := by
  have hb : (w.alloc (.cells (xs.map (Value.int .i64)).toArray t)).heap[w.heap.size]? = some (.cells (xs.map (Value.int .i64)).toArray t (0, 0)) := World.alloc_heap_new w _
  refine .inr ⟨w.heap.size, 0, rfl, Nat.le_refl _, by simp, fun j hj => ?_, fun j => frozen_row hb _⟩
  simp only [World.cell?, hb, Nat.zero_add]
  rw [nth_get xs j hj]
  simp [hj]
/-- The same, in blocks from lo on and below hi. -/
def MidInts (lo hi : Nat) (W : World) (a : Option Addr) (zs : List Int) : Prop :=
  zs = [] ∨ ∃ b off, a = some ⟨b, off, none⟩ ∧ lo ≤ b ∧ b < hi ∧ (∀ j, j < zs.length → W.cell? ⟨b, off + j, none⟩ = some (.int .i64 (nth zs j))) ∧ ∀ j, W.frozen? ⟨b, off + j, none⟩ = false
section
variable {lo hi : Nat} {W : World} {a : Option Addr} {zs : List Int}
theorem NewInts.mid : NewInts lo W a zs → MidInts lo W.heap.size W a zs
  | .inl e => .inl e
  | .inr ⟨b, off, e, h0, hb, hc, hz⟩ => .inr ⟨b, off, e, h0, hb, hc, hz⟩
theorem MidInts.new (h : hi ≤ W.heap.size) : MidInts lo hi W a zs → NewInts lo W a zs
  | .inl e => .inl e
  | .inr ⟨b, off, e, h0, hb, hc, hz⟩ => .inr ⟨b, off, e, h0, by omega, hc, hz⟩
theorem MidInts.bel {W' : World} (hB : Below hi W W') : MidInts lo hi W a zs → MidInts lo hi W' a zs
  | .inl e => .inl e
  | .inr ⟨b, off, e, h0, hb, hc, hz⟩ => .inr ⟨b, off, e, h0, hb, fun j hj => (hB.cell (p := ⟨b, off + j, none⟩) hb).trans (hc j hj), fun j => (hB.frozen (p := ⟨b, off + j, none⟩) hb).trans (hz j)⟩
theorem MidInts.set {p : Addr} (hp : p.block < lo) (v : Value) : MidInts lo hi W a zs → MidInts lo hi (W.setCell p v) a zs
  | .inl e => .inl e
  | .inr ⟨b, off, e, h0, hb, hc, hz⟩ => .inr ⟨b, off, e, h0, hb, fun j hj => (World.cell?_of_block (Below.heap_setCell W p v b (by omega))).trans (hc j hj), fun j => by rw [World.frozen?_setCell]; exact hz j⟩
theorem MidInts.off {p : Addr} (hp : hi ≤ p.block) (v : Value) : MidInts lo hi W a zs → MidInts lo hi (W.setCell p v) a zs
  | .inl e => .inl e
  | .inr ⟨b, off, e, h0, hb, hc, hz⟩ => .inr ⟨b, off, e, h0, hb, fun j hj => (World.cell?_of_block (Below.heap_setCell W p v b (by omega))).trans (hc j hj), fun j => by rw [World.frozen?_setCell]; exact hz j⟩
theorem MidInts.al (h : MidInts lo hi W a zs) (hh : hi ≤ W.heap.size) (o : Obj) : MidInts lo hi (W.alloc o) a zs := h.bel ((Below.refl _ W).alloc hh o)
theorem MidInts.dr (h : MidInts lo hi W a zs) : MidInts lo hi W.drew a zs := h
theorem MidInts.low {lo' : Nat} (h : lo' ≤ lo) : MidInts lo hi W a zs → MidInts lo' hi W a zs
  | .inl e => .inl e
  | .inr ⟨b, off, e, h0, hb, hc, hz⟩ => .inr ⟨b, off, e, by omega, hb, hc, hz⟩
theorem MidInts.set3 {b : Nat} (hb : b < lo) (x y z : Value) (h : MidInts lo hi W a zs) : MidInts lo hi (((W.setCell ⟨b, 0, none⟩ x).setCell ⟨b, 1, none⟩ y).setCell ⟨b, 2, none⟩ z) a zs :=
  ((h.set (p := ⟨b, 0, none⟩) hb x).set (p := ⟨b, 1, none⟩) hb y).set (p := ⟨b, 2, none⟩) hb z
theorem MidInts.ints : MidInts lo hi W a zs → IsInts hi W a zs
  | .inl e => .inl e
  | .inr ⟨b, off, e, _, hb, hc, _⟩ => .inr ⟨b, off, e, hb, hc⟩
end
/-- One of them is written: the list with that number in its place. -/
theorem MidInts.put {lo hi : Nat} {W : World} {b off : Nat} {zs : List Int} (h : MidInts lo hi W (some ⟨b, off, none⟩) zs) {i : Nat} (hi' : i < zs.length) (x : Int) : MidInts lo hi (W.setCell ⟨b, off + i, none⟩ (.int .i64 x)) (some ⟨b, off, none⟩) (zs.set i x) := by
  rcases h with e | ⟨b', off', e, h0, hb, hc, hz⟩
  · rw [e] at hi'; cases hi'
  · cases e
    refine .inr ⟨b, off, rfl, h0, hb, fun j hj => ?_, fun j => by rw [World.frozen?_setCell]; exact hz j⟩
    rw [List.length_set] at hj
    rw [nth_set _ _ _ _ hi']
    by_cases e : j = i
    · subst e
      rw [if_pos rfl]
      exact World.cell?_setCell_same' _ _ _ (by rw [hc j hj]; rfl)
    · rw [if_neg e, World.cell?_setCell_other _ _ _ _ (by intro h; have := congrArg Addr.off h; simp only at this; omega)]
      exact hc j hj
/-- A slice that owns its cells owns them behind a call that makes memory alone. -/
theorem own_go {w w' : World} {base : Nat} {e : TypeId} {size : Nat} {v : Value} {n : Nat} {xs : List Value} (h : w.ownsRow base e size v n xs) (hB : Below w.heap.size w w') : w'.ownsRow base e size v n xs := by
  obtain ⟨hl, hc⟩ := h
  refine ⟨hl, ?_⟩
  rcases hc with hc | ⟨g, cap, cur, h1, h2, hg, hr⟩
  · exact .inl hc
  · exact .inr ⟨g, cap, cur, h1, h2, (hB.block g (Array.getElem?_eq_some_iff.1 hg).1).trans hg, hr⟩
end Go.Proofs.YtgjgbgllhbdodaaGreatDoor
