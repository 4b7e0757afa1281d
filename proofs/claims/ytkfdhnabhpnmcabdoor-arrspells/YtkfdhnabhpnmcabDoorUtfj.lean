/-
  Plain mathematics of texts: one text behind another one.
-/
import Derived.Test.YtkfdhnabhpnmcabDoorUtf
namespace Go.Proofs.YtkfdhnabhpnmcabDoor
open Go.Lib
set_option linter.unusedVariables false

theorem getD_app (l r : List UInt8) {k : Nat} (h : k < l.length) : (l ++ r).getD k 0 = l.getD k 0 := by simp [List.getD, List.getElem?_append, h]
/-- A step that is a character does not see what follows. -/
theorem decN_app (n m b0 b1 b2 b3 c1 c2 c3 : Nat) (hn : n ≤ m) (h1 : 1 < n → c1 = b1) (h2 : 2 < n → c2 = b2) (h3 : 3 < n → c3 = b3) (hok : ¬ ((decodeN n b0 b1 b2 b3).1 = 65533 ∧ (decodeN n b0 b1 b2 b3).2 = 1)) : decodeN m b0 c1 c2 c3 = decodeN n b0 b1 b2 b3 := by
  unfold decodeN at *
  by_cases a : b0 < 128
  · rw [if_pos a, if_pos a]
  · rw [if_neg a] at hok
    rw [if_neg a, if_neg a]
    by_cases x2 : b0 / 32 = 6 ∧ (1 < n ∧ b1 / 64 = 2)
    · have e := h1 x2.2.1
      subst e
      rw [if_pos x2, if_pos ⟨x2.1, by omega, x2.2.2⟩]
    · rw [if_neg x2] at hok
      rw [if_neg x2]
      by_cases x3 : b0 / 16 = 14 ∧ (1 < n ∧ b1 / 64 = 2) ∧ (2 < n ∧ b2 / 64 = 2)
      · have e := h1 x3.2.1.1
        have e2 := h2 x3.2.2.1
        subst e e2
        rw [if_pos x3, if_neg (by omega), if_pos ⟨x3.1, ⟨by omega, x3.2.1.2⟩, by omega, x3.2.2.2⟩]
      · rw [if_neg x3] at hok
        rw [if_neg x3]
        by_cases x4 : b0 / 8 = 30 ∧ (1 < n ∧ b1 / 64 = 2) ∧ (2 < n ∧ b2 / 64 = 2) ∧ (3 < n ∧ b3 / 64 = 2)
        · have e := h1 x4.2.1.1
          have e2 := h2 x4.2.2.1.1
          have e3 := h3 x4.2.2.2.1
          subst e e2 e3
          rw [if_pos x4, if_neg (by omega), if_neg (by omega), if_pos ⟨x4.1, ⟨by omega, x4.2.1.2⟩, ⟨by omega, x4.2.2.1.2⟩, by omega, x4.2.2.2.2⟩]
        · rw [if_neg x4] at hok
          exact absurd ⟨rfl, rfl⟩ hok
theorem decL_app {l : List UInt8} (r : List UInt8) (h : l ≠ []) (hb : ¬ badR l) : decodeL (l ++ r) = decodeL l := by
  have hl := List.length_pos_iff.2 h
  unfold badR at hb
  rw [decodeL_N] at hb
  rw [decodeL_N, decodeL_N, getD_app l r hl]
  exact decN_app l.length (l ++ r).length _ _ _ _ _ _ _ (by simp) (fun h => by rw [getD_app l r h]) (fun h => by rw [getD_app l r h]) (fun h => by rw [getD_app l r h]) hb
theorem app_runes : ∀ (n : Nat) (l r : List UInt8), l.length ≤ n → validD l = true → runesL (l ++ r) = runesL l ++ runesL r ∧ validD (l ++ r) = validD r
  | 0, l, r, h, _ => by
    have : l = [] := List.eq_nil_of_length_eq_zero (by omega)
    subst this; exact ⟨rfl, rfl⟩
  | n + 1, l, r, h, hv => by
    by_cases h0 : l = []
    · subst h0; exact ⟨rfl, rfl⟩
    · have hb : ¬ badR l := fun hb => by rw [validD_bad h0 hb] at hv; cases hv
      have hs := drop_short h0
      have hw := decodeL_le l h0
      have ha := decL_app r h0 hb
      have hne : l ++ r ≠ [] := by simp [h0]
      have hb' : ¬ badR (l ++ r) := by unfold badR at *; rw [ha]; exact hb
      have hd : (l ++ r).drop (decodeL (l ++ r)).2 = l.drop (decodeL l).2 ++ r := by rw [ha, List.drop_append_of_le_length hw]
      have hv' : validD (l.drop (decodeL l).2) = true := by rw [← validD_step h0 hb]; exact hv
      obtain ⟨i1, i2⟩ := app_runes n (l.drop (decodeL l).2) r (by omega) hv'
      refine ⟨?_, ?_⟩
      · rw [runesL_step hne, runesL_step h0, hd, i1, ha]; rfl
      · rw [validD_step hne hb', hd, i2]
theorem decN_width (n b0 b1 b2 b3 : Nat) : (decodeN n b0 b1 b2 b3).2 ≤ 4 := by
  unfold decodeN
  repeat' split
  all_goals simp
theorem valid_size : ∀ (n : Nat) (l : List UInt8), l.length ≤ n → l.length ≤ 4 * (runesL l).length
  | 0, l, h => by omega
  | n + 1, l, h => by
    by_cases h0 : l = []
    · subst h0; simp
    · have hs := drop_short h0
      have hw : (decodeL l).2 ≤ 4 := by rw [decodeL_N]; exact decN_width _ _ _ _ _
      have := valid_size n (l.drop (decodeL l).2) (by omega)
      rw [runesL_step h0, List.length_cons]
      rw [List.length_drop] at this
      omega
theorem tl_size (s : ByteArray) : (tl s 0).length = s.size := by unfold tl; rw [List.drop_zero, ← size_eq]
theorem tl_app (s t : ByteArray) : tl (s ++ t) 0 = tl s 0 ++ tl t 0 := by
  unfold tl
  simp
theorem join_runes {s t : ByteArray} (hs : validD (tl s 0) = true) (ht : validD (tl t 0) = true) : runesL (tl (s ++ t) 0) = runesL (tl s 0) ++ runesL (tl t 0) ∧ validD (tl (s ++ t) 0) = true := by
  rw [tl_app]
  obtain ⟨a, b⟩ := app_runes _ (tl s 0) (tl t 0) (Nat.le_refl _) hs
  exact ⟨a, by rw [b, ht]⟩
end Go.Proofs.YtkfdhnabhpnmcabDoor
