/-
  Plain mathematics of the words of a line: numbers, quotes, blanks and signs as the program meets them.
-/
import Derived.Test.YthfdpfekjcdlbaaDoorLxo
import Derived.Lib.Bytealg
import Derived.Lib.TrimByte
namespace Go.Proofs.YthfdpfekjcdlbaaDoor
open Go.Lib
set_option linter.unusedVariables false

theorem dgA_le : ∀ (l : List UInt8) (a : Nat), a ≤ dgA a l
  | [], a => Nat.le_refl _
  | b :: r, a => Nat.le_trans (by omega) (dgA_le r (a * 10 + (b.toNat - 48)))
theorem parse_dig : ∀ (ds : List UInt8) (a : Nat), ds.all isDg = true → a < 18446744073709551616 → parseUint10 a ds = if dgA a ds < 18446744073709551616 then .ok (dgA a ds) else .range
  | [], a, _, h => by rw [parseUint10]; exact (if_pos h).symm
  | c :: r, a, h, ha => by
    rw [List.all_cons, Bool.and_eq_true] at h
    have hc := dg_rng h.1
    have hle := dgA_le r (a * 10 + (c.toNat - 48))
    rw [parseUint10, if_pos hc]
    show _ = if dgA (a * 10 + (c.toNat - 48)) r < 18446744073709551616 then _ else _
    by_cases h1 : 1844674407370955162 ≤ a
    · rw [if_pos h1, if_neg (by omega)]
    · rw [if_neg h1]
      by_cases h2 : 18446744073709551616 ≤ a * 10 + (c.toNat - 48)
      · rw [if_pos h2, if_neg (by omega)]
      · rw [if_neg h2]; exact parse_dig r _ h.2 (by omega)
theorem atoi_pos {ds : List UInt8} (h : ds.all isDg = true) (hn : ds ≠ []) : atoiAll ds = if dgA 0 ds < 9223372036854775808 then .ok ((dgA 0 ds : Nat) : Int) else .range := by
  cases ds with
  | nil => exact absurd rfl hn
  | cons c r =>
    have hc := dg_rng (by rw [List.all_cons, Bool.and_eq_true] at h; exact h.1)
    rw [atoiAll_plain c r (by omega) (by omega)]
    unfold parseMag
    rw [if_neg hn, parse_dig (c :: r) 0 h (by omega)]
    by_cases h1 : dgA 0 (c :: r) < 18446744073709551616
    · rw [if_pos h1]
      by_cases h2 : dgA 0 (c :: r) < 9223372036854775808
      · rw [if_pos h2]; simp only [signless]; rw [if_neg (by omega)]
      · rw [if_neg h2]; simp only [signless]; rw [if_pos (by omega)]
    · rw [if_neg h1, if_neg (by omega)]; rfl
theorem atoi_neg {ds : List UInt8} (h : ds.all isDg = true) (hn : ds ≠ []) : atoiAll (45 :: ds) = if dgA 0 ds ≤ 9223372036854775808 then .ok (-((dgA 0 ds : Nat) : Int)) else .range := by
  rw [atoiAll_minus]
  unfold parseMag
  rw [if_neg hn, parse_dig ds 0 h (by omega)]
  by_cases h1 : dgA 0 ds < 18446744073709551616
  · rw [if_pos h1]
    by_cases h2 : dgA 0 ds ≤ 9223372036854775808
    · rw [if_pos h2]; simp only [signed]; rw [if_neg (by omega)]
    · rw [if_neg h2]; simp only [signed]; rw [if_pos (by omega)]
  · rw [if_neg h1, if_neg (by omega)]; rfl

/-! ### Blanks -/
/-- The first byte from one on that is no blank. -/
def abk (l : List UInt8) (i : Nat) : Nat := l.length - ((l.drop i).dropWhile (· == 32)).length
theorem dw_split : ∀ l : List UInt8, ∃ k, l.dropWhile (· == 32) = l.drop k ∧ k ≤ l.length ∧ (∀ i ws, lineF l i ws = lineF (l.drop k) (i + k) ws) ∧ (l.drop k = [] ∨ ∃ b r, l.drop k = b :: r ∧ ¬ b.toNat = 32)
  | [] => ⟨0, rfl, Nat.le_refl _, fun i ws => rfl, .inl rfl⟩
  | b :: r => by
    by_cases hb : b = 32
    · obtain ⟨k, h1, h2, h3, h4⟩ := dw_split r
      refine ⟨k + 1, ?_, by simpa using h2, fun i ws => ?_, h4⟩
      · subst hb; exact h1
      · rw [lineF_blank (by rw [hb]; rfl), h3, show i + 1 + k = i + (k + 1) by omega]; rfl
    · have hn : ¬ b.toNat = 32 := fun e => hb (u8_eq e)
      refine ⟨0, ?_, Nat.zero_le _, fun i ws => rfl, .inr ⟨b, r, rfl, hn⟩⟩
      rw [List.dropWhile_cons, if_neg (by simpa using hb)]; rfl
theorem abk_is {l : List UInt8} {i : Nat} (h : i ≤ l.length) : i ≤ abk l i ∧ abk l i ≤ l.length ∧ (l.drop i).dropWhile (· == 32) = l.drop (abk l i) ∧
    (∀ ws, lineF (l.drop i) i ws = lineF (l.drop (abk l i)) (abk l i) ws) ∧ (l.drop (abk l i) = [] ∨ ∃ b r, l.drop (abk l i) = b :: r ∧ ¬ b.toNat = 32) := by
  obtain ⟨k, h1, h2, h3, h4⟩ := dw_split (l.drop i)
  rw [List.length_drop] at h2
  have e : abk l i = i + k := by
    unfold abk
    rw [h1, List.drop_drop, List.length_drop]; omega
  rw [List.drop_drop] at h1 h4
  refine ⟨by omega, by omega, by rw [e]; exact h1, fun ws => ?_, by rw [e]; exact h4⟩
  rw [e, h3, List.drop_drop]

/-! ### Quotes -/
theorem qt_skip : ∀ (k : Nat) (l : List UInt8), k ≤ l.length → (∀ j, j < k → (l.getD j 0).toNat ≠ 39) → qt l = (qt (l.drop k)).map (fun x => (l.take k ++ x.1, k + x.2))
  | 0, l, _, _ => by
    show qt l = (qt l).map (fun x => ([] ++ x.1, 0 + x.2))
    cases qt l with
    | none => rfl
    | some x => rw [Option.map_some]; simp
  | k + 1, [], h, _ => by simp at h
  | k + 1, b :: l, h, h2 => by
    rw [qt_cons_ne (show ¬ b.toNat = 39 from h2 0 (by omega)), qt_skip k l (by simpa using h) (fun j hj => h2 (j + 1) (by omega))]
    show _ = (qt (l.drop k)).map _
    cases qt (l.drop k) with
    | none => rfl
    | some x => simp only [Option.map_some, List.take_succ_cons, List.cons_append]; rw [show k + x.2 + 1 = k + 1 + x.2 by omega]
theorem idx_no : ∀ (l : List UInt8), indexByte l 39 = -1 → ∀ j, j < l.length → (l.getD j 0).toNat ≠ 39
  | [], _, j, hj => by simp at hj
  | b :: l, h, j, hj => by
    unfold indexByte at h
    by_cases hb : b = 39
    · simp [hb] at h
    · have hn : ¬ b.toNat = 39 := fun e => hb (u8_eq e)
      have hge := indexByte_ge l 39
      have h' : indexByte l 39 = -1 := by
        rw [if_neg (by simpa using hb)] at h
        by_cases e : indexByte l 39 = -1
        · exact e
        · rw [if_neg (by simpa using e)] at h; omega
      cases j with
      | zero => exact hn
      | succ j => exact idx_no l h' j (by simpa using hj)
theorem qt_none : ∀ (l : List UInt8), (∀ j, j < l.length → (l.getD j 0).toNat ≠ 39) → qt l = none
  | [], _ => rfl
  | b :: l, h => by
    rw [qt_cons_ne (show ¬ b.toNat = 39 from h 0 (by simp)), qt_none l (fun j hj => h (j + 1) (by simpa using hj))]; rfl
theorem idx_yes : ∀ (l : List UInt8) (k : Nat), indexByte l 39 = (k : Int) → k < l.length ∧ (∀ j, j < k → (l.getD j 0).toNat ≠ 39) ∧ (l.getD k 0).toNat = 39
  | [], k, h => by unfold indexByte at h; omega
  | b :: l, k, h => by
    unfold indexByte at h
    by_cases hb : b = 39
    · have : k = 0 := by simp [hb] at h; omega
      subst this; subst hb
      exact ⟨by simp, fun j hj => by omega, rfl⟩
    · have hn : ¬ b.toNat = 39 := fun e => hb (u8_eq e)
      have hge := indexByte_ge l 39
      have h' : 0 ≤ indexByte l 39 ∧ indexByte l 39 + 1 = k := by
        rw [if_neg (by simpa using hb)] at h
        by_cases e : indexByte l 39 = -1
        · rw [if_pos (by simpa using e)] at h; omega
        · rw [if_neg (by simpa using e)] at h; omega
      cases k with
      | zero => omega
      | succ k =>
        obtain ⟨h1, h2, h3⟩ := idx_yes l k (by omega)
        refine ⟨by simpa using h1, fun j hj => ?_, h3⟩
        cases j with
        | zero => exact hn
        | succ j => exact h2 j (by omega)
end Go.Proofs.YthfdpfekjcdlbaaDoor
