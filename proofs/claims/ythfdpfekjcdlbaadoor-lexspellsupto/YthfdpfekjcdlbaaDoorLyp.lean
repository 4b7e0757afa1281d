/-
  Plain mathematics of the words of a line: quotes told twice, numbers with their sign, as the library replaces them.
-/
import Derived.Lib.Replace
import Derived.Lib.IndexBytes
import Derived.Lib.ItoaLen
import Derived.Test.YthfdpfekjcdlbaaDoorLxp
namespace Go.Proofs.YthfdpfekjcdlbaaDoor
open Go.Lib
set_option linter.unusedVariables false

theorem idx_hit (c : UInt8) (l : List UInt8) : index (c :: l) [c] = 0 := by
  rw [index_one]; unfold indexByte; simp
theorem idx_skip {b c : UInt8} (h : b ≠ c) (l : List UInt8) : index (b :: l) [c] = if index l [c] = -1 then -1 else index l [c] + 1 := by
  rw [index_one, index_one]
  show indexByte (b :: l) c = _
  rw [indexByte]
  simp [h]
theorem repK_skip {b c : UInt8} (h : b ≠ c) (new l : List UInt8) (k : Nat) : replaceK [c] new k (b :: l) = b :: replaceK [c] new k l := by
  cases k with
  | zero => rfl
  | succ k =>
    have hge := index_ge l [c]
    have e := idx_skip h l
    by_cases hm : index l [c] = -1
    · rw [if_pos hm] at e
      rw [replaceK, replaceK, if_pos (beq_iff_eq.2 e), if_pos (beq_iff_eq.2 hm)]
    · rw [if_neg hm] at e
      obtain ⟨i, hi⟩ : ∃ i : Nat, index l [c] = i := ⟨(index l [c]).toNat, by omega⟩
      rw [hi] at e
      rw [replaceK_hit [c] new k (b :: l) (i + 1) (by rw [e]; rfl), replaceK_hit [c] new k l i hi]
      rfl
theorem repK_dbl : ∀ l : List UInt8, replaceK [39] [39, 39] (l.count 39) l = dblQ l
  | [] => rfl
  | b :: l => by
    by_cases hb : b = 39
    · subst hb
      rw [List.count_cons_self, replaceK_hit [39] [39, 39] _ (39 :: l) 0 (idx_hit 39 l)]
      show [39, 39] ++ replaceK [39] [39, 39] (l.count 39) l = _
      rw [repK_dbl l]; rfl
    · have hn : ¬ b.toNat = 39 := fun e => hb (u8_eq e)
      rw [List.count_cons_of_ne hb, repK_skip hb, repK_dbl l]
      exact (if_neg hn).symm
/-- Quotes told twice, as the library replaces them. -/
theorem rep_dbl (l : List UInt8) : replaceAll l [39] [39, 39] = dblQ l := by
  unfold replaceAll replace
  rw [if_neg (by decide)]
  unfold replaceNum
  rw [if_pos (.inl (by decide)), count_one, repK_dbl]
theorem repK_none {l : List UInt8} (h : ∀ b ∈ l, b ≠ 45) (k : Nat) (new : List UInt8) : replaceK [45] new k l = l := by
  induction l with
  | nil => cases k <;> rfl
  | cons b l ih => rw [repK_skip (h b (by simp)), ih (fun x hx => h x (by simp [hx]))]
theorem dec_no45 (u : Nat) : ∀ b ∈ decDigits u, b ≠ 45 := fun b hb e => by
  have := dg_rng (List.all_eq_true.1 (dec_back u u (Nat.le_refl _)).2.1 b hb)
  rw [e] at this; exact absurd this (by decide)
/-- A number's sign, as the library replaces it. -/
theorem rep_dig (n : Int) : replace (itoa n) [45] minusB 1 = digS n := by
  unfold replace
  rw [if_neg (by decide)]
  unfold itoa digS
  by_cases h : n < 0
  · rw [if_pos h, if_pos h]
    have e : replaceNum (45 :: decDigits n.natAbs) [45] 1 = 1 := by
      unfold replaceNum
      rw [count_one, List.count_cons_self]
      by_cases hc : (((decDigits n.natAbs).count 45 + 1 : Nat) : Int) < 1
      · omega
      · rw [if_neg (by omega)]; rfl
    rw [e, replaceK_hit [45] minusB 0 _ 0 (idx_hit 45 _)]; rfl
  · rw [if_neg h, if_neg h, repK_none (dec_no45 _), show n.toNat = n.natAbs by omega]
theorem dbl_len : ∀ l : List UInt8, (dblQ l).length = l.length + l.count 39
  | [] => rfl
  | b :: l => by
    by_cases hb : b = 39
    · subst hb
      rw [show dblQ (39 :: l) = 39 :: 39 :: dblQ l from rfl, List.count_cons_self, List.length_cons, List.length_cons, dbl_len l, List.length_cons]; omega
    · have hn : ¬ b.toNat = 39 := fun e => hb (u8_eq e)
      rw [show dblQ (b :: l) = b :: dblQ l from if_neg hn, List.count_cons_of_ne hb, List.length_cons, dbl_len l, List.length_cons]; omega
theorem dbl_le (l : List UInt8) : (dblQ l).length ≤ 2 * l.length := by
  have := List.count_le_length (a := (39 : UInt8)) (l := l)
  rw [dbl_len]; omega
theorem dig_len {n : Int} (h : InR n) : (digS n).length ≤ 22 := by
  have h1 := itoa_length_le n h.1 h.2
  unfold itoa at h1
  unfold digS
  by_cases hn : n < 0
  · rw [if_pos hn] at h1 ⊢
    rw [List.length_cons] at h1
    rw [List.length_append]
    show 2 + _ ≤ _
    omega
  · rw [if_neg hn] at h1 ⊢
    rw [show n.natAbs = n.toNat by omega]; omega
end Go.Proofs.YthfdpfekjcdlbaaDoor
