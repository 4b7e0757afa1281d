/-
  Lxn Lxo Lxp Lyp, together.
-/
import Derived.Test.YtgjgbgllhbdodaaGreatDoorLxm
import Derived.Lib.Bytealg
import Derived.Lib.TrimByte
import Derived.Lib.Replace
import Derived.Lib.IndexBytes
import Derived.Lib.ItoaLen
/-! Lxn: Plain mathematics of the words of a line: a blank behind a word changes nothing; reading step by step; line behind line. -/
namespace Go.Proofs.YtgjgbgllhbdodaaGreatDoor
open Go.Lib
set_option linter.unusedVariables false

theorem pre_blank : ∀ (g l r : List UInt8), (∀ x ∈ g, x.toNat ≠ 32) → g.isPrefixOf (l ++ 32 :: r) = g.isPrefixOf l
  | [], l, r, _ => by simp [List.isPrefixOf]
  | a :: g, [], r, h => by
    have h1 : a ≠ 32 := fun e => h a (by simp) (by rw [e]; rfl)
    show (a == 32 && g.isPrefixOf r) = false
    rw [beq_eq_false_iff_ne.2 h1]; rfl
  | a :: g, b :: l, r, h => by
    show (a == b && g.isPrefixOf (l ++ 32 :: r)) = (a == b && g.isPrefixOf l)
    rw [pre_blank g l r (fun x hx => h x (by simp [hx]))]
theorem tk_blank (p : UInt8 → Bool) (hp : p 32 = false) : ∀ (l r : List UInt8), (l ++ 32 :: r).takeWhile p = l.takeWhile p
  | [], r => by show (match p 32 with | true => _ | false => _) = _; rw [hp]; rfl
  | b :: l, r => by
    show (match p b with | true => b :: (l ++ 32 :: r).takeWhile p | false => []) = (match p b with | true => b :: l.takeWhile p | false => [])
    rw [tk_blank p hp l r]
theorem tk_le (p : UInt8 → Bool) : ∀ l : List UInt8, (l.takeWhile p).length ≤ l.length
  | [] => by simp
  | b :: l => by
    show (match p b with | true => b :: l.takeWhile p | false => []).length ≤ _
    have := tk_le p l
    cases p b <;> simp <;> omega
theorem tk_all (p : UInt8 → Bool) : ∀ l : List UInt8, (l.takeWhile p).all p = true
  | [] => rfl
  | b :: l => by
    show (match p b with | true => b :: l.takeWhile p | false => []).all p = true
    cases h : p b
    · rfl
    · show (b :: l.takeWhile p).all p = true
      rw [List.all_cons, h, tk_all p l]; rfl
theorem tk_id (p : UInt8 → Bool) : ∀ l : List UInt8, l.all p = true → l.takeWhile p = l
  | [], _ => rfl
  | b :: l, h => by
    rw [List.all_cons, Bool.and_eq_true] at h
    show (match p b with | true => b :: l.takeWhile p | false => []) = _
    rw [h.1, tk_id p l h.2]
theorem first_blank : ∀ (tab : List (List UInt8)) (l r : List UInt8) (k : Nat), (∀ g ∈ tab, ∀ x ∈ g, x.toNat ≠ 32) → firstS tab (l ++ 32 :: r) k = firstS tab l k
  | [], l, r, k, h => rfl
  | g :: t, l, r, k, h => by
    show (if g.isPrefixOf (l ++ 32 :: r) = true then _ else firstS t (l ++ 32 :: r) (k + 1)) = (if g.isPrefixOf l = true then _ else _)
    rw [pre_blank g l r (h g (by simp)), first_blank t l r (k + 1) (fun x hx => h x (by simp [hx]))]
theorem first_in : ∀ (tab : List (List UInt8)) (l : List UInt8) (k a n : Nat), firstS tab l k = some (a, n) → k ≤ a ∧ a < k + tab.length ∧ tab.getD (a - k) [] <+: l ∧ n = (tab.getD (a - k) []).length
  | [], l, k, a, n, h => by cases h
  | g :: t, l, k, a, n, h => by
    unfold firstS at h
    split at h
    · rename_i hg
      obtain ⟨rfl, rfl⟩ := Prod.mk.inj (Option.some.inj h)
      refine ⟨Nat.le_refl _, by simp, ?_, ?_⟩ <;> rw [Nat.sub_self]
      · exact List.isPrefixOf_iff_prefix.1 hg
      · rfl
    · obtain ⟨h1, h2, h3, h4⟩ := first_in t l (k + 1) a n h
      have e : a - k = (a - (k + 1)) + 1 := by omega
      refine ⟨by omega, by simp only [List.length_cons]; omega, ?_, ?_⟩ <;> rw [e, List.getD_cons_succ]
      · exact h3
      · exact h4
theorem gly32 : ∀ g ∈ glyB, ∀ x ∈ g, x.toNat ≠ 32 := by decide
theorem sgn32 : ∀ g ∈ sgnB, ∀ x ∈ g, x.toNat ≠ 32 := by decide
theorem gly_len : ∀ a, a < 34 → 1 ≤ (glyB.getD a []).length := by decide
theorem sgn_len : ∀ a, a < 16 → 1 ≤ (sgnB.getD a []).length := by decide
theorem qt_cons_ne {b : UInt8} {r : List UInt8} (h : ¬ b.toNat = 39) : qt (b :: r) = (qt r).map (fun x => (b :: x.1, x.2 + 1)) := by
  rw [qt.eq_def]; exact if_neg h
theorem qt_one {b : UInt8} (h : b.toNat = 39) : qt [b] = some ([], 1) := by rw [qt.eq_def]; exact if_pos h
theorem qt_two {b c : UInt8} {r : List UInt8} (h : b.toNat = 39) (h2 : c.toNat = 39) : qt (b :: c :: r) = (qt r).map (fun x => (39 :: x.1, x.2 + 2)) := by
  rw [qt.eq_def]; exact (if_pos h).trans (if_pos h2)
theorem qt_end {b c : UInt8} {r : List UInt8} (h : b.toNat = 39) (h2 : ¬ c.toNat = 39) : qt (b :: c :: r) = some ([], 1) := by
  rw [qt.eq_def]; exact (if_pos h).trans (if_neg h2)
theorem qt_blank : ∀ (N : Nat) (l r : List UInt8) (t : List UInt8) (n : Nat), l.length ≤ N → qt l = some (t, n) → qt (l ++ 32 :: r) = some (t, n) ∧ 1 ≤ n ∧ n ≤ l.length
  | N, [], r, t, n, _, h => by cases h
  | 0, b :: l, r, t, n, hN, h => by simp at hN
  | N + 1, b :: l, r, t, n, hN, h => by
    rw [List.length_cons] at hN
    by_cases hb : b.toNat = 39
    · cases l with
      | nil =>
        rw [qt_one hb] at h
        obtain ⟨rfl, rfl⟩ := Prod.mk.inj (Option.some.inj h)
        exact ⟨qt_end hb (by decide), Nat.le_refl _, by simp⟩
      | cons c l' =>
        by_cases hc : c.toNat = 39
        · rw [qt_two hb hc] at h
          rw [List.length_cons] at hN
          cases hq : qt l' with
          | none => rw [hq] at h; cases h
          | some x =>
            rw [hq] at h
            obtain ⟨rfl, rfl⟩ := Prod.mk.inj (Option.some.inj h)
            obtain ⟨h1, h2, h3⟩ := qt_blank N l' r x.1 x.2 (by omega) hq
            refine ⟨?_, by omega, by simp only [List.length_cons]; omega⟩
            show qt (b :: c :: (l' ++ 32 :: r)) = _
            rw [qt_two hb hc, h1]; rfl
        · rw [qt_end hb hc] at h
          obtain ⟨rfl, rfl⟩ := Prod.mk.inj (Option.some.inj h)
          exact ⟨qt_end hb hc, Nat.le_refl _, by simp⟩
    · rw [qt_cons_ne hb] at h
      cases hq : qt l with
      | none => rw [hq] at h; cases h
      | some x =>
        rw [hq] at h
        obtain ⟨rfl, rfl⟩ := Prod.mk.inj (Option.some.inj h)
        obtain ⟨h1, h2, h3⟩ := qt_blank N l r x.1 x.2 (by omega) hq
        refine ⟨?_, by omega, by simp only [List.length_cons]; omega⟩
        show qt (b :: (l ++ 32 :: r)) = _
        rw [qt_cons_ne hb, h1]; rfl
theorem Wd.ok_inj {t u : Tk} {n m : Nat} (h : Wd.ok t n = Wd.ok u m) : t = u ∧ n = m := by cases h; exact ⟨rfl, rfl⟩
theorem numS_ok {m : Bool} {ds : List UInt8} {n k : Nat} {t : Tk} (h : numS m ds n = .ok t k) : k = n ∧ (if m = true then dgA 0 ds ≤ 9223372036854775808 else dgA 0 ds < 9223372036854775808) ∧ t = ⟨1, 0, if m = true then -(dgA 0 ds : Int) else dgA 0 ds, []⟩ := by
  unfold numS at h
  by_cases hc : (if m = true then dgA 0 ds ≤ 9223372036854775808 else dgA 0 ds < 9223372036854775808)
  · rw [if_pos hc] at h
    obtain ⟨rfl, rfl⟩ := Wd.ok_inj h
    exact ⟨rfl, hc, rfl⟩
  · rw [if_neg hc] at h; cases h
theorem sigS_ok {l : List UInt8} {n : Nat} {t : Tk} (h : sigS l = .ok t n) :
    (∃ k, k < 34 ∧ firstS glyB l 0 = some (k, n) ∧ t = ⟨4, (k : Int) + 1, 0, []⟩) ∨ (∃ k, k < 16 ∧ firstS glyB l 0 = none ∧ firstS sgnB l 0 = some (k, n) ∧ t = ⟨(k : Int) + 5, 0, 0, []⟩) := by
  unfold sigS at h
  split at h
  · rename_i k m hk
    obtain ⟨rfl, rfl⟩ := Wd.ok_inj h
    have := first_in _ _ _ _ _ hk
    exact .inl ⟨k, by have := this.2.1; rw [show glyB.length = 34 from rfl] at this; omega, hk, rfl⟩
  · rename_i hg
    split at h
    · rename_i k m hk
      obtain ⟨rfl, rfl⟩ := Wd.ok_inj h
      have := first_in _ _ _ _ _ hk
      exact .inr ⟨k, by have := this.2.1; rw [show sgnB.length = 16 from rfl] at this; omega, hg, hk, rfl⟩
    · cases h
theorem sigS_blank (l r : List UInt8) : sigS (l ++ 32 :: r) = sigS l := by
  unfold sigS; rw [first_blank glyB l r 0 gly32, first_blank sgnB l r 0 sgn32]
theorem chrS_ok {l : List UInt8} {n : Nat} {t : Tk} (h : chrS l = .ok t n) : ∃ u k, qt l = some (u, k) ∧ n = k + 1 ∧ qbl u = true ∧ t = ⟨2, 0, 0, u⟩ := by
  unfold chrS at h
  split at h
  · cases h
  · rename_i u k hq
    split at h
    · rename_i hb
      obtain ⟨rfl, rfl⟩ := Wd.ok_inj h
      exact ⟨u, k, hq, rfl, hb, rfl⟩
    · cases h
theorem chrS_blank {l : List UInt8} {n : Nat} {t : Tk} (r : List UInt8) (h : chrS l = .ok t n) : chrS (l ++ 32 :: r) = .ok t n ∧ 1 ≤ n ∧ n ≤ l.length + 1 := by
  obtain ⟨u, k, hq, rfl, hb, rfl⟩ := chrS_ok h
  obtain ⟨h1, h2, h3⟩ := qt_blank l.length l r u k (Nat.le_refl _) hq
  refine ⟨?_, by omega, by omega⟩
  unfold chrS; rw [h1]; exact if_pos hb
theorem minus_split {l : List UInt8} (h : minusB.isPrefixOf l = true) : ∃ r, l = 194 :: 175 :: r := by
  obtain ⟨r, hr⟩ := List.isPrefixOf_iff_prefix.1 h
  exact ⟨r, hr.symm⟩
theorem wordS_minus (r : List UInt8) : wordS (194 :: 175 :: r) = if r.takeWhile isDg = [] then .bad 1 else numS true (r.takeWhile isDg) (2 + (r.takeWhile isDg).length) := by
  unfold wordS; exact if_pos rfl
theorem wordS_cons {b : UInt8} {r : List UInt8} (h : minusB.isPrefixOf (b :: r) = false) : wordS (b :: r) =
    if isDg b = true then numS false ((b :: r).takeWhile isDg) ((b :: r).takeWhile isDg).length
    else if isLt b = true then
      if 12 < ((b :: r).takeWhile isPt).length then .bad 7 else .ok ⟨3, 0, 0, (b :: r).takeWhile isPt⟩ ((b :: r).takeWhile isPt).length
    else if b.toNat = 39 then chrS r
    else sigS (b :: r) := by
  unfold wordS; exact if_neg (by rw [h]; exact Bool.false_ne_true)
theorem tk_pos {p : UInt8 → Bool} {b : UInt8} {r : List UInt8} (h : p b = true) : 1 ≤ ((b :: r).takeWhile p).length := by
  show 1 ≤ (match p b with | true => b :: r.takeWhile p | false => []).length
  rw [h]; simp
theorem lt_pt {b : UInt8} (h : isLt b = true) : isPt b = true := by unfold isPt; rw [h]; rfl
theorem word_blank {l : List UInt8} {t : Tk} {n : Nat} (r : List UInt8) (h : wordS l = .ok t n) : wordS (l ++ 32 :: r) = .ok t n ∧ 1 ≤ n ∧ n ≤ l.length := by
  by_cases hm : minusB.isPrefixOf l = true
  · obtain ⟨q, rfl⟩ := minus_split hm
    rw [wordS_minus] at h
    show wordS (194 :: 175 :: (q ++ 32 :: r)) = _ ∧ _
    rw [wordS_minus, tk_blank isDg rfl q r]
    refine ⟨h, ?_⟩
    split at h
    · cases h
    · have := (numS_ok h).1
      have := tk_le isDg q
      simp only [List.length_cons]; omega
  · have hm' : minusB.isPrefixOf l = false := Bool.eq_false_iff.2 hm
    cases l with
    | nil => unfold wordS at h; rw [if_neg hm] at h; cases h
    | cons b q =>
      rw [wordS_cons hm'] at h
      have hm2 : minusB.isPrefixOf (b :: (q ++ 32 :: r)) = false := (pre_blank minusB (b :: q) r (by decide)).trans hm'
      show wordS (b :: (q ++ 32 :: r)) = _ ∧ _
      rw [wordS_cons hm2]
      have e1 := tk_blank isDg rfl (b :: q) r
      have e2 := tk_blank isPt rfl (b :: q) r
      have e3 := sigS_blank (b :: q) r
      rw [List.cons_append] at e1 e2 e3
      rw [e1, e2, e3]
      by_cases hd : isDg b = true
      · rw [if_pos hd] at h ⊢
        refine ⟨h, ?_⟩
        have := (numS_ok h).1
        have := tk_le isDg (b :: q)
        have := tk_pos (p := isDg) (r := q) hd
        omega
      · rw [if_neg hd] at h ⊢
        by_cases hl : isLt b = true
        · rw [if_pos hl] at h ⊢
          refine ⟨h, ?_⟩
          split at h
          · cases h
          · obtain ⟨_, rfl⟩ := Wd.ok_inj h
            exact ⟨tk_pos (lt_pt hl), tk_le _ _⟩
        · rw [if_neg hl] at h ⊢
          by_cases hq : b.toNat = 39
          · rw [if_pos hq] at h ⊢
            obtain ⟨h1, h2, h3⟩ := chrS_blank r h
            exact ⟨h1, h2, by simpa using h3⟩
          · rw [if_neg hq] at h ⊢
            refine ⟨h, ?_⟩
            rcases sigS_ok h with ⟨k, hk, hf, _⟩ | ⟨k, hk, _, hf, _⟩
            · obtain ⟨_, _, h3, h4⟩ := first_in _ _ _ _ _ hf
              rw [Nat.sub_zero] at h4 h3
              have := h3.length_le
              have := gly_len k hk
              omega
            · obtain ⟨_, _, h3, h4⟩ := first_in _ _ _ _ _ hf
              rw [Nat.sub_zero] at h4 h3
              have := h3.length_le
              have := sgn_len k hk
              omega
theorem word_len {l : List UInt8} {t : Tk} {n : Nat} (h : wordS l = .ok t n) : 1 ≤ n ∧ n ≤ l.length := (word_blank [] h).2

/-! ### Reading a line -/
theorem lineN_fuel : ∀ (f g : Nat) (l : List UInt8) (i : Nat) (ws : List (Tk × Nat)), l.length ≤ f → l.length ≤ g → lineN f l i ws = lineN g l i ws
  | 0, g, l, i, ws, h, _ => by
    have e : l = [] := List.length_eq_zero_iff.1 (by omega)
    subst e; cases g <;> rfl
  | f + 1, 0, l, i, ws, _, h => by
    have e : l = [] := List.length_eq_zero_iff.1 (by omega)
    subst e; rfl
  | f + 1, g + 1, l, i, ws, hf, hg => by
    cases l with
    | nil => rfl
    | cons b r =>
      rw [List.length_cons] at hf hg
      rw [lineN, lineN]
      by_cases h1 : remB.isPrefixOf (b :: r) = true
      · simp only [if_pos h1]
      · simp only [if_neg h1]
        by_cases h2 : b.toNat = 32
        · simp only [if_pos h2]
          exact lineN_fuel f g r (i + 1) ws (by omega) (by omega)
        · simp only [if_neg h2]
          cases hw : wordS (b :: r) with
          | error e => rfl
          | ok tn =>
            obtain ⟨t, n⟩ := tn
            have hn := word_len hw
            rw [List.length_cons] at hn
            simp only []
            split
            · rfl
            · exact lineN_fuel f g _ _ _ (by rw [List.length_drop, List.length_cons]; omega) (by rw [List.length_drop, List.length_cons]; omega)
/-- Reading on from a byte. -/
def lineF (l : List UInt8) (i : Nat) (ws : List (Tk × Nat)) : Ln := lineN l.length l i ws
theorem lineF_nil (i : Nat) (ws : List (Tk × Nat)) : lineF [] i ws = .ok ws := rfl
theorem lineF_rem {l : List UInt8} (h : remB.isPrefixOf l = true) (i : Nat) (ws : List (Tk × Nat)) : lineF l i ws = .ok ws := by
  cases l with
  | nil => rfl
  | cons b r => show lineN (r.length + 1) (b :: r) i ws = _; rw [lineN]; simp only [if_pos h]
theorem lineF_blank {b : UInt8} {r : List UInt8} (h : b.toNat = 32) (i : Nat) (ws : List (Tk × Nat)) : lineF (b :: r) i ws = lineF r (i + 1) ws := by
  have h1 : ¬ remB.isPrefixOf (b :: r) = true := by
    intro e
    obtain ⟨q, hq⟩ := List.isPrefixOf_iff_prefix.1 e
    have : b = 226 := (List.cons.inj hq).1.symm
    rw [this] at h; exact absurd h (by decide)
  show lineN (r.length + 1) (b :: r) i ws = _; rw [lineN]; simp only [if_neg h1, if_pos h]; rfl
theorem lineF_bad {b : UInt8} {r : List UInt8} {e : Int} (h1 : ¬ remB.isPrefixOf (b :: r) = true) (h2 : ¬ b.toNat = 32) (hw : wordS (b :: r) = .bad e) (i : Nat) (ws : List (Tk × Nat)) : lineF (b :: r) i ws = .bad i e := by
  show lineN (r.length + 1) (b :: r) i ws = _; rw [lineN]; simp only [if_neg h1, if_neg h2, hw]
theorem lineF_full {b : UInt8} {r : List UInt8} {t : Tk} {n : Nat} (h1 : ¬ remB.isPrefixOf (b :: r) = true) (h2 : ¬ b.toNat = 32) (hw : wordS (b :: r) = .ok t n) (i : Nat) (ws : List (Tk × Nat)) (h3 : 200 ≤ ws.length) : lineF (b :: r) i ws = .bad i 7 := by
  show lineN (r.length + 1) (b :: r) i ws = _; rw [lineN]; simp only [if_neg h1, if_neg h2, hw, if_pos h3]
theorem lineF_word {b : UInt8} {r : List UInt8} {t : Tk} {n : Nat} (h1 : ¬ remB.isPrefixOf (b :: r) = true) (h2 : ¬ b.toNat = 32) (hw : wordS (b :: r) = .ok t n) (i : Nat) (ws : List (Tk × Nat)) (h3 : ¬ 200 ≤ ws.length) :
    lineF (b :: r) i ws = lineF ((b :: r).drop n) (i + n) (ws ++ [(t, i)]) := by
  have hn := word_len hw
  rw [List.length_cons] at hn
  show lineN (r.length + 1) (b :: r) i ws = _; rw [lineN]; simp only [if_neg h1, if_neg h2, hw, if_neg h3]
  exact lineN_fuel _ _ _ _ _ (by rw [List.length_drop, List.length_cons]; omega) (Nat.le_refl _)
/-- By whatever a line begins with: nothing more, a remark, a blank, a wrong word, one too many, a word. -/
theorem line_cases (l : List UInt8) (ws : List (Tk × Nat)) :
    l = [] ∨ remB.isPrefixOf l = true ∨ (∃ b r, l = b :: r ∧ b.toNat = 32) ∨
    ∃ b r, l = b :: r ∧ ¬ remB.isPrefixOf l = true ∧ ¬ b.toNat = 32 ∧ ((∃ e, wordS l = .bad e) ∨ ∃ t n, wordS l = .ok t n ∧ (200 ≤ ws.length ∨ ¬ 200 ≤ ws.length)) := by
  cases l with
  | nil => exact .inl rfl
  | cons b r =>
    by_cases h1 : remB.isPrefixOf (b :: r) = true
    · exact .inr (.inl h1)
    by_cases h2 : b.toNat = 32
    · exact .inr (.inr (.inl ⟨b, r, rfl, h2⟩))
    refine .inr (.inr (.inr ⟨b, r, rfl, h1, h2, ?_⟩))
    cases hw : wordS (b :: r) with
    | error e => exact .inl ⟨e, rfl⟩
    | ok tn =>
      obtain ⟨t, n⟩ := tn
      exact .inr ⟨t, n, rfl, Classical.em _⟩
theorem Ln.ok_inj {a b : List (Tk × Nat)} (h : Ln.ok a = Ln.ok b) : a = b := by cases h; rfl
def shf (d : Nat) (vs : List (Tk × Nat)) : List (Tk × Nat) := vs.map (fun x => (x.1, x.2 + d))
/-- What is read behind other words, further on. -/
theorem line_shift : ∀ (N : Nat) (l : List UInt8) (i d : Nat) (ws us out : List (Tk × Nat)), l.length ≤ N → lineF l i ws = .ok out →
    ∃ vs, out = ws ++ vs ∧ (us.length + vs.length ≤ 200 → lineF l (i + d) us = .ok (us ++ shf d vs))
  | N, l, i, d, ws, us, out, hN, h => by
    rcases line_cases l ws with rfl | hr | ⟨b, r, rfl, hb⟩ | ⟨b, r, rfl, h1, h2, ⟨e, hw⟩ | ⟨t, n, hw, h3 | h3⟩⟩
    · exact ⟨[], by rw [Ln.ok_inj h, List.append_nil], fun _ => by rw [lineF_nil]; simp [shf]⟩
    · rw [lineF_rem hr] at h
      exact ⟨[], by rw [Ln.ok_inj h, List.append_nil], fun _ => by rw [lineF_rem hr]; simp [shf]⟩
    · cases N with
      | zero => simp at hN
      | succ N =>
        rw [lineF_blank hb] at h
        obtain ⟨vs, e1, e2⟩ := line_shift N r (i + 1) d ws us out (by simpa using hN) h
        exact ⟨vs, e1, fun hc => by rw [lineF_blank hb, show i + d + 1 = i + 1 + d by omega]; exact e2 hc⟩
    · rw [lineF_bad h1 h2 hw] at h; cases h
    · rw [lineF_full h1 h2 hw _ _ h3] at h; cases h
    · cases N with
      | zero => simp at hN
      | succ N =>
        rw [lineF_word h1 h2 hw _ _ h3] at h
        have hn := word_len hw
        rw [List.length_cons] at hN hn
        obtain ⟨vs, e1, e2⟩ := line_shift N _ (i + n) d (ws ++ [(t, i)]) (us ++ [(t, i + d)]) out (by rw [List.length_drop, List.length_cons]; omega) h
        refine ⟨(t, i) :: vs, by rw [e1, List.append_assoc]; rfl, fun hc => ?_⟩
        rw [List.length_cons] at hc
        rw [lineF_word h1 h2 hw _ _ (by omega), show i + d + n = i + n + d by omega, e2 (by rw [List.length_append, List.length_singleton]; omega)]
        simp [shf]
theorem noRem_drop {l : List UInt8} (n : Nat) (h : ∀ k, remB.isPrefixOf (l.drop k) = false) : ∀ k, remB.isPrefixOf ((l.drop n).drop k) = false := fun k => by
  rw [List.drop_drop]; exact h _
/-- A line without a remark, and a blank behind it: what stands behind that is read on. -/
theorem line_join : ∀ (N : Nat) (l r : List UInt8) (i : Nat) (ws out : List (Tk × Nat)), l.length ≤ N → (∀ k, remB.isPrefixOf (l.drop k) = false) → lineF l i ws = .ok out →
    lineF (l ++ 32 :: r) i ws = lineF r (i + l.length + 1) out
  | N, l, r, i, ws, out, hN, hR, h => by
    rcases line_cases l ws with rfl | hr | ⟨b, q, rfl, hb⟩ | ⟨b, q, rfl, h1, h2, ⟨e, hw⟩ | ⟨t, n, hw, h3 | h3⟩⟩
    · rw [Ln.ok_inj h]; exact lineF_blank (by decide) _ _
    · rw [show l = l.drop 0 from rfl, hR 0] at hr; cases hr
    · cases N with
      | zero => simp at hN
      | succ N =>
        rw [lineF_blank hb] at h
        rw [List.cons_append, lineF_blank hb, line_join N q r (i + 1) ws out (by simpa using hN) (fun k => hR (k + 1)) h, List.length_cons, show i + 1 + q.length + 1 = i + (q.length + 1) + 1 by omega]
    · rw [lineF_bad h1 h2 hw] at h; cases h
    · rw [lineF_full h1 h2 hw _ _ h3] at h; cases h
    · cases N with
      | zero => simp at hN
      | succ N =>
        rw [lineF_word h1 h2 hw _ _ h3] at h
        have hn := word_len hw
        rw [List.length_cons] at hN hn
        have hw2 := (word_blank r hw).1
        have h1' : ¬ remB.isPrefixOf (b :: (q ++ 32 :: r)) = true := by
          have := pre_blank remB (b :: q) r (by decide)
          rw [List.cons_append] at this
          rw [this]; exact h1
        rw [List.cons_append] at hw2 ⊢
        rw [lineF_word h1' h2 hw2 _ _ h3]
        have e : (b :: (q ++ 32 :: r)).drop n = (b :: q).drop n ++ 32 :: r := by
          rw [← List.cons_append, List.drop_append_of_le_length (by rw [List.length_cons]; omega)]
        rw [e, line_join N _ r (i + n) _ out (by rw [List.length_drop, List.length_cons]; omega) (noRem_drop n hR) h, List.length_drop, List.length_cons, show i + n + (q.length + 1 - n) + 1 = i + (q.length + 1) + 1 by omega]
end Go.Proofs.YtgjgbgllhbdodaaGreatDoor
/-! Lxo: Plain mathematics of the words of a line: what is spelt is read, what is read can be spelt, and where words begin. -/
namespace Go.Proofs.YtgjgbgllhbdodaaGreatDoor
open Go.Lib
set_option linter.unusedVariables false

def InR (n : Int) : Prop := -9223372036854775808 ≤ n ∧ n ≤ 9223372036854775807
theorem Sp.ok_inj {a b : List UInt8} (h : Sp.ok a = Sp.ok b) : a = b := by cases h; rfl
theorem u8_eq {b : UInt8} {n : Nat} (h : b.toNat = n) : b = UInt8.ofNat n := by rw [← h]; exact UInt8.ofNat_toNat.symm
theorem dgA_app : ∀ (l r : List UInt8) (a : Nat), dgA a (l ++ r) = dgA (dgA a l) r
  | [], r, a => rfl
  | b :: l, r, a => dgA_app l r _
theorem dig_toNat {u : Nat} (h : u < 10) : (UInt8.ofNat (48 + u)).toNat = 48 + u := by
  rw [UInt8.toNat_ofNat']; exact Nat.mod_eq_of_lt (by omega)
theorem dig_isDg {u : Nat} (h : u < 10) : isDg (UInt8.ofNat (48 + u)) = true := by
  unfold isDg; rw [dig_toNat h, decide_eq_true (by omega), decide_eq_true (by omega)]; rfl
theorem dec_back : ∀ (N u : Nat), u ≤ N → dgA 0 (decDigits u) = u ∧ (decDigits u).all isDg = true ∧ decDigits u ≠ []
  | 0, u, h => by
    obtain rfl : u = 0 := by omega
    rw [decDigits, dif_pos (by omega)]; exact ⟨rfl, rfl, by simp⟩
  | N + 1, u, h => by
    rw [decDigits]
    by_cases hu : u < 10
    · rw [dif_pos hu]
      refine ⟨?_, ?_, by simp⟩
      · show 0 * 10 + ((UInt8.ofNat (48 + u)).toNat - 48) = u
        rw [dig_toNat hu]; omega
      · rw [List.all_cons, dig_isDg hu]; rfl
    · rw [dif_neg hu]
      obtain ⟨h1, h2, h3⟩ := dec_back N (u / 10) (by omega)
      have hm : u % 10 < 10 := Nat.mod_lt _ (by omega)
      refine ⟨?_, ?_, by simp⟩
      · rw [dgA_app, h1]
        show u / 10 * 10 + ((UInt8.ofNat (48 + u % 10)).toNat - 48) = u
        rw [dig_toNat hm]; omega
      · rw [List.all_append, h2, List.all_cons, dig_isDg hm]; rfl
theorem dblQ_back : ∀ t : List UInt8, qt (dblQ t ++ [39]) = some (t, (dblQ t).length + 1)
  | [] => qt_one rfl
  | b :: r => by
    by_cases hb : b.toNat = 39
    · have e : dblQ (b :: r) = 39 :: 39 :: dblQ r := if_pos hb
      rw [e]
      show qt (39 :: 39 :: (dblQ r ++ [39])) = _
      rw [qt_two rfl rfl, dblQ_back r, u8_eq hb]; rfl
    · have e : dblQ (b :: r) = b :: dblQ r := if_neg hb
      rw [e]
      show qt (b :: (dblQ r ++ [39])) = _
      rw [qt_cons_ne hb, dblQ_back r]; rfl
theorem noMin {b : UInt8} {r : List UInt8} (h : b.toNat < 194) : minusB.isPrefixOf (b :: r) = false := by
  refine Bool.eq_false_iff.2 fun e => ?_
  obtain ⟨q, hq⟩ := minus_split e
  rw [(List.cons.inj hq).1] at h; exact absurd h (by decide)
theorem noRm {b : UInt8} {r : List UInt8} (h : b.toNat ≠ 226) : ¬ remB.isPrefixOf (b :: r) = true := by
  intro e
  obtain ⟨q, hq⟩ := List.isPrefixOf_iff_prefix.1 e
  rw [← (List.cons.inj hq).1] at h; exact h rfl
theorem lt_rng {b : UInt8} (h : isLt b = true) : 65 ≤ b.toNat ∧ b.toNat ≤ 122 := by
  unfold isLt at h
  rw [Bool.or_eq_true, Bool.and_eq_true, Bool.and_eq_true, decide_eq_true_iff, decide_eq_true_iff, decide_eq_true_iff, decide_eq_true_iff] at h
  omega
theorem dg_rng {b : UInt8} (h : isDg b = true) : 48 ≤ b.toNat ∧ b.toNat ≤ 57 := by
  unfold isDg at h
  rw [Bool.and_eq_true, decide_eq_true_iff, decide_eq_true_iff] at h
  omega
theorem lt_dg {b : UInt8} (h : isLt b = true) : ¬ isDg b = true := fun e => by
  have := lt_rng h; have := dg_rng e; omega
set_option maxRecDepth 100000 in
theorem gly_back : ∀ k, k < 34 → wordS (glyB.getD k []) = .ok ⟨4, (k : Int) + 1, 0, []⟩ (glyB.getD k []).length ∧ remB.isPrefixOf (glyB.getD k []) = false ∧ ((glyB.getD k []).getD 0 0).toNat ≠ 32 := by
  intro k hk
  have : k = 0 ∨ k = 1 ∨ k = 2 ∨ k = 3 ∨ k = 4 ∨ k = 5 ∨ k = 6 ∨ k = 7 ∨ k = 8 ∨ k = 9 ∨ k = 10 ∨ k = 11 ∨ k = 12 ∨ k = 13 ∨ k = 14 ∨ k = 15 ∨ k = 16 ∨ k = 17 ∨ k = 18 ∨ k = 19 ∨ k = 20 ∨ k = 21 ∨ k = 22 ∨ k = 23 ∨ k = 24 ∨ k = 25 ∨ k = 26 ∨ k = 27 ∨ k = 28 ∨ k = 29 ∨ k = 30 ∨ k = 31 ∨ k = 32 ∨ k = 33 := by omega
  rcases this with rfl | rfl | rfl | rfl | rfl | rfl | rfl | rfl | rfl | rfl | rfl | rfl | rfl | rfl | rfl | rfl | rfl | rfl | rfl | rfl | rfl | rfl | rfl | rfl | rfl | rfl | rfl | rfl | rfl | rfl | rfl | rfl | rfl | rfl <;> exact ⟨rfl, rfl, by decide⟩
set_option maxRecDepth 100000 in
theorem sgn_back : ∀ k, k < 16 → wordS (sgnB.getD k []) = .ok ⟨(k : Int) + 5, 0, 0, []⟩ (sgnB.getD k []).length ∧ remB.isPrefixOf (sgnB.getD k []) = false ∧ ((sgnB.getD k []).getD 0 0).toNat ≠ 32 := by
  intro k hk
  have : k = 0 ∨ k = 1 ∨ k = 2 ∨ k = 3 ∨ k = 4 ∨ k = 5 ∨ k = 6 ∨ k = 7 ∨ k = 8 ∨ k = 9 ∨ k = 10 ∨ k = 11 ∨ k = 12 ∨ k = 13 ∨ k = 14 ∨ k = 15 := by omega
  rcases this with rfl | rfl | rfl | rfl | rfl | rfl | rfl | rfl | rfl | rfl | rfl | rfl | rfl | rfl | rfl | rfl <;> exact ⟨rfl, rfl, by decide⟩
theorem fld_no {t : Tk} (h : ¬ fldF t = true) : (t.kind = 1 ∨ t.num = 0) ∧ (t.kind = 4 ∨ t.fn = 0) ∧ (t.kind = 3 ∨ t.kind = 2 ∨ t.text = []) := by
  have h' := Bool.eq_false_iff.2 h
  unfold fldF at h'
  rw [Bool.or_eq_false_iff, Bool.or_eq_false_iff, decide_eq_false_iff_not, decide_eq_false_iff_not, decide_eq_false_iff_not] at h'
  obtain ⟨⟨h1, h2⟩, h3⟩ := h'
  refine ⟨by omega, by omega, ?_⟩
  by_cases e : t.text = []
  · exact .inr (.inr e)
  · by_cases e3 : t.kind = 3
    · exact .inl e3
    · by_cases e2 : t.kind = 2
      · exact .inr (.inl e2)
      · exact absurd ⟨e3, e2, e⟩ h3
/-- WHAT IS SPELT IS READ, word by word. -/
theorem spel_word {t : Tk} {b : List UInt8} (hr : InR t.num) (h : spelS t = .ok b) : wordS b = .ok t b.length ∧ (∃ c r, b = c :: r ∧ ¬ c.toNat = 32) ∧ ¬ remB.isPrefixOf b = true := by
  obtain ⟨kind, fn, num, text⟩ := t
  unfold spelS at h
  by_cases hf : fldF ⟨kind, fn, num, text⟩ = true
  · rw [if_pos hf] at h; cases h
  rw [if_neg hf] at h
  obtain ⟨f1, f2, f3⟩ := fld_no hf
  simp only at f1 f2 f3 h hr
  by_cases k1 : kind = 1
  · rw [if_pos k1] at h
    subst k1
    obtain rfl := Sp.ok_inj h
    obtain rfl : fn = 0 := by omega
    obtain rfl : text = [] := by rcases f3 with h | h | h; · omega
                                 · omega
                                 · exact h
    obtain ⟨d1, d2, d3⟩ := dec_back num.natAbs num.natAbs (Nat.le_refl _)
    obtain ⟨hr1, hr2⟩ := hr
    unfold digS
    by_cases hn : num < 0
    · rw [if_pos hn]
      refine ⟨?_, ⟨194, 175 :: decDigits num.natAbs, rfl, by decide⟩, noRm (by decide)⟩
      show wordS (194 :: 175 :: decDigits num.natAbs) = _
      rw [wordS_minus, tk_id isDg _ d2, if_neg d3]
      unfold numS
      rw [d1, if_pos (by rw [if_pos rfl]; omega), if_pos rfl]
      have e1 : (-(num.natAbs : Int)) = num := by omega
      have e2 : 2 + (decDigits num.natAbs).length = (minusB ++ decDigits num.natAbs).length := by rw [List.length_append]; rfl
      rw [e1, e2]
    · rw [if_neg hn]
      cases hd : decDigits num.natAbs with
      | nil => exact absurd hd d3
      | cons c r =>
        rw [hd] at d1 d2
        have hc : isDg c = true := by rw [List.all_cons, Bool.and_eq_true] at d2; exact d2.1
        have hc2 := dg_rng hc
        refine ⟨?_, ⟨c, r, rfl, by omega⟩, noRm (by omega)⟩
        rw [wordS_cons (noMin (by omega)), if_pos hc, tk_id isDg _ d2]
        unfold numS
        rw [d1, if_pos (by rw [if_neg Bool.false_ne_true]; omega), if_neg Bool.false_ne_true]
        have e1 : ((num.natAbs : Nat) : Int) = num := by omega
        rw [e1]
  rw [if_neg k1] at h
  obtain rfl : num = 0 := by omega
  by_cases k3 : kind = 3
  · rw [if_pos k3] at h
    subst k3
    obtain rfl : fn = 0 := by omega
    by_cases hz : namF text = 0
    · rw [if_pos hz] at h
      obtain rfl := Sp.ok_inj h
      cases text with
      | nil => cases hz
      | cons c r =>
        unfold namF at hz
        simp only at hz
        by_cases hp : isLt c = true ∧ (c :: r).all isPt = true
        · rw [if_pos hp] at hz
          by_cases hl : 12 < (c :: r).length
          · rw [if_pos hl] at hz; cases hz
          have hc := lt_rng hp.1
          refine ⟨?_, ⟨c, r, rfl, by omega⟩, noRm (by omega)⟩
          rw [wordS_cons (noMin (by omega)), if_neg (lt_dg hp.1), if_pos hp.1, tk_id isPt _ hp.2, if_neg hl]
        · rw [if_neg hp] at hz; cases hz
    · rw [if_neg hz] at h; cases h
  rw [if_neg k3] at h
  by_cases k2 : kind = 2
  · rw [if_pos k2] at h
    subst k2
    obtain rfl : fn = 0 := by omega
    by_cases hq : qbl text = true
    · rw [if_pos hq] at h
      obtain rfl := Sp.ok_inj h
      refine ⟨?_, ⟨39, dblQ text ++ [39], rfl, by decide⟩, noRm (by decide)⟩
      show wordS (39 :: (dblQ text ++ [39])) = _
      rw [wordS_cons (noMin (by decide)), if_neg (by decide), if_neg (by decide), if_pos (by decide)]
      unfold chrS
      rw [dblQ_back text]
      simp only [if_pos hq]
      simp
    · rw [if_neg hq] at h; cases h
  rw [if_neg k2] at h
  obtain rfl : text = [] := by rcases f3 with h | h | h; · omega
                               · omega
                               · exact h
  by_cases k4 : kind = 4
  · rw [if_pos k4] at h
    subst k4
    by_cases hg : 1 ≤ fn ∧ fn ≤ 34
    · rw [if_pos hg] at h
      obtain rfl := Sp.ok_inj h
      obtain ⟨h1, h2, h3⟩ := gly_back (fn.toNat - 1) (by omega)
      have h4 := gly_len (fn.toNat - 1) (by omega)
      have e : ((fn.toNat - 1 : Nat) : Int) + 1 = fn := by omega
      rw [e] at h1
      refine ⟨h1, ?_, by rw [h2]; exact Bool.false_ne_true⟩
      cases hx : glyB.getD (fn.toNat - 1) [] with
      | nil => rw [hx] at h4; simp at h4
      | cons c r => rw [hx] at h3; exact ⟨c, r, rfl, h3⟩
    · rw [if_neg hg] at h; cases h
  rw [if_neg k4] at h
  obtain rfl : fn = 0 := by omega
  by_cases k5 : 5 ≤ kind ∧ kind ≤ 20
  · rw [if_pos k5] at h
    obtain rfl := Sp.ok_inj h
    obtain ⟨h1, h2, h3⟩ := sgn_back (kind.toNat - 5) (by omega)
    have h4 := sgn_len (kind.toNat - 5) (by omega)
    have e : ((kind.toNat - 5 : Nat) : Int) + 5 = kind := by omega
    rw [e] at h1
    refine ⟨h1, ?_, by rw [h2]; exact Bool.false_ne_true⟩
    cases hx : sgnB.getD (kind.toNat - 5) [] with
    | nil => rw [hx] at h4; simp at h4
    | cons c r => rw [hx] at h3; exact ⟨c, r, rfl, h3⟩
  · rw [if_neg k5] at h; cases h
/-- WHAT IS READ CAN BE SPELT, word by word. -/
theorem word_spel {l : List UInt8} {t : Tk} {n : Nat} (h : wordS l = .ok t n) : (∃ b, spelS t = .ok b) ∧ InR t.num := by
  have z : InR 0 := ⟨by decide, by decide⟩
  have num : ∀ {m : Bool} {ds : List UInt8} {k : Nat}, numS m ds k = .ok t n → (∃ b, spelS t = .ok b) ∧ InR t.num := by
    intro m ds k h
    obtain ⟨_, hc, rfl⟩ := numS_ok h
    refine ⟨⟨digS (if m = true then -(dgA 0 ds : Int) else dgA 0 ds), ?_⟩, ?_⟩
    · unfold spelS
      rw [if_neg (by unfold fldF; simp), if_pos rfl]
    · show InR (if m = true then -(dgA 0 ds : Int) else dgA 0 ds)
      cases m
      · rw [if_neg Bool.false_ne_true] at hc ⊢; exact ⟨by omega, by omega⟩
      · rw [if_pos rfl] at hc ⊢; exact ⟨by omega, by omega⟩
  by_cases hm : minusB.isPrefixOf l = true
  · obtain ⟨q, rfl⟩ := minus_split hm
    rw [wordS_minus] at h
    split at h
    · cases h
    · exact num h
  · cases l with
    | nil => unfold wordS at h; rw [if_neg hm] at h; cases h
    | cons b q =>
      rw [wordS_cons (Bool.eq_false_iff.2 hm)] at h
      by_cases hd : isDg b = true
      · rw [if_pos hd] at h; exact num h
      rw [if_neg hd] at h
      by_cases hl : isLt b = true
      · rw [if_pos hl] at h
        split at h
        · cases h
        · rename_i hle
          obtain ⟨rfl, rfl⟩ := Wd.ok_inj h
          refine ⟨⟨(b :: q).takeWhile isPt, ?_⟩, z⟩
          unfold spelS
          rw [if_neg (by unfold fldF; simp), if_neg (by show ¬ (3 : Int) = 1; decide), if_pos rfl]
          have e : (b :: q).takeWhile isPt = b :: q.takeWhile isPt := by
            show (match isPt b with | true => b :: q.takeWhile isPt | false => []) = _
            rw [lt_pt hl]
          have ha := tk_all isPt (b :: q)
          have hz : namF ((b :: q).takeWhile isPt) = 0 := by
            rw [e] at ha hle ⊢
            unfold namF
            simp only
            rw [if_pos ⟨hl, ha⟩, if_neg hle]
          rw [if_pos hz]
      rw [if_neg hl] at h
      by_cases hq : b.toNat = 39
      · rw [if_pos hq] at h
        obtain ⟨u, k, _, _, hb, rfl⟩ := chrS_ok h
        refine ⟨⟨39 :: dblQ u ++ [39], ?_⟩, z⟩
        unfold spelS
        rw [if_neg (by unfold fldF; simp), if_neg (by show ¬ (2 : Int) = 1; decide), if_neg (by show ¬ (2 : Int) = 3; decide), if_pos rfl]
        exact if_pos hb
      rw [if_neg hq] at h
      rcases sigS_ok h with ⟨k, hk, hf, rfl⟩ | ⟨k, hk, _, hf, rfl⟩
      · refine ⟨⟨glyB.getD (((k : Int) + 1).toNat - 1) [], ?_⟩, z⟩
        unfold spelS
        rw [if_neg (by unfold fldF; simp), if_neg (by show ¬ (4 : Int) = 1; decide), if_neg (by show ¬ (4 : Int) = 3; decide), if_neg (by show ¬ (4 : Int) = 2; decide), if_pos rfl]
        exact if_pos (by show 1 ≤ (k : Int) + 1 ∧ (k : Int) + 1 ≤ 34; omega)
      · refine ⟨⟨sgnB.getD (((k : Int) + 5).toNat - 5) [], ?_⟩, z⟩
        unfold spelS
        rw [if_neg (by unfold fldF; simp), if_neg (by show ¬ (k : Int) + 5 = 1; omega), if_neg (by show ¬ (k : Int) + 5 = 3; omega), if_neg (by show ¬ (k : Int) + 5 = 2; omega), if_neg (by show ¬ (k : Int) + 5 = 4; omega)]
        exact if_pos (by show 5 ≤ (k : Int) + 5 ∧ (k : Int) + 5 ≤ 20; omega)

/-! ### Lines -/
def AllSp : List Tk → List (List UInt8) → Prop
  | [], [] => True
  | t :: ts, b :: bs => spelS t = .ok b ∧ AllSp ts bs
  | _, _ => False
theorem spels_ok : ∀ (ts : List Tk) (acc : List (List UInt8)) (s : List UInt8), spelsN ts acc = .ok s → ∃ bs, AllSp ts bs ∧ s = joinB (acc ++ bs) ∧ s.length ≤ 1000
  | [], acc, s, h => by
    rw [spelsN] at h
    split at h
    · cases h
    · obtain rfl := Sp.ok_inj h
      exact ⟨[], trivial, by rw [List.append_nil], by omega⟩
  | t :: ts, acc, s, h => by
    rw [spelsN] at h
    split at h
    · cases h
    · rename_i b hb
      obtain ⟨bs, h1, h2, h3⟩ := spels_ok ts _ s h
      exact ⟨b :: bs, ⟨hb, h1⟩, by rw [h2, List.append_assoc]; rfl, h3⟩
theorem spels_can : ∀ (ts : List Tk) (acc : List (List UInt8)), (∀ t ∈ ts, ∃ b, spelS t = .ok b) → (∃ s, spelsN ts acc = .ok s) ∨ spelsN ts acc = .bad 7
  | [], acc, _ => by
    rw [spelsN]
    split
    · exact .inr rfl
    · exact .inl ⟨_, rfl⟩
  | t :: ts, acc, h => by
    rw [spelsN]
    obtain ⟨b, hb⟩ := h t (by simp)
    rw [hb]
    exact spels_can ts _ (fun u hu => h u (by simp [hu]))
theorem line_one {b : List UInt8} {t : Tk} (hr : InR t.num) (h : spelS t = .ok b) (i : Nat) (ws : List (Tk × Nat)) (h3 : ¬ 200 ≤ ws.length) :
    lineF b i ws = .ok (ws ++ [(t, i)]) ∧ ∀ r, lineF (b ++ 32 :: r) i ws = lineF r (i + b.length + 1) (ws ++ [(t, i)]) := by
  obtain ⟨h1, ⟨c, q, rfl, h2⟩, h4⟩ := spel_word hr h
  constructor
  · rw [lineF_word h4 h2 h1 _ _ h3, List.drop_length]; rfl
  · intro r
    have e := (word_blank r h1).1
    have h4' : ¬ remB.isPrefixOf (c :: (q ++ 32 :: r)) = true := by
      have := pre_blank remB (c :: q) r (by decide)
      rw [List.cons_append] at this
      rw [this]; exact h4
    rw [List.cons_append] at e ⊢
    rw [lineF_word h4' h2 e _ _ h3]
    have e2 : (c :: (q ++ 32 :: r)).drop (c :: q).length = 32 :: r := by
      rw [← List.cons_append]; exact List.drop_left
    rw [e2]
    exact lineF_blank (by decide) _ _
theorem line_back : ∀ (ts : List Tk) (bs : List (List UInt8)) (i : Nat) (ws : List (Tk × Nat)), AllSp ts bs → (∀ t ∈ ts, InR t.num) → ws.length + ts.length ≤ 200 →
    ∃ vs, lineF (joinB bs) i ws = .ok (ws ++ vs) ∧ vs.map Prod.fst = ts
  | [], [], i, ws, _, _, _ => ⟨[], by rw [List.append_nil]; rfl, rfl⟩
  | [], b :: bs, i, ws, h, _, _ => h.elim
  | t :: ts, [], i, ws, h, _, _ => h.elim
  | [t], b :: b2 :: bs, i, ws, h, _, _ => h.2.elim
  | [t], [b], i, ws, h, hr, hl => ⟨[(t, i)], (line_one (hr t (by simp)) h.1 i ws (by simp at hl; omega)).1, rfl⟩
  | t :: t2 :: ts, [b], i, ws, h, _, _ => h.2.elim
  | t :: t2 :: ts, b :: b2 :: bs, i, ws, h, hr, hl => by
    simp only [List.length_cons] at hl
    have h1 := (line_one (hr t (by simp)) h.1 i ws (by omega)).2 (joinB (b2 :: bs))
    obtain ⟨vs, h2, h3⟩ := line_back (t2 :: ts) (b2 :: bs) (i + b.length + 1) (ws ++ [(t, i)]) h.2 (fun u hu => hr u (List.mem_cons_of_mem _ hu)) (by simp only [List.length_append, List.length_cons, List.length_nil]; omega)
    refine ⟨(t, i) :: vs, ?_, by rw [List.map_cons, h3]⟩
    show lineF (b ++ 32 :: joinB (b2 :: bs)) i ws = _
    rw [h1, h2, List.append_assoc]; rfl
/-- WHAT IS SPELT IS READ. -/
theorem back17 {ts : List Tk} {s : List UInt8} (hr : ∀ t ∈ ts, InR t.num) (h : spelsS ts = .ok s) : ∃ ws, lineS s = .ok ws ∧ ws.map Prod.fst = ts ∧ s.length ≤ 1000 := by
  unfold spelsS at h
  split at h
  · cases h
  · rename_i hl
    obtain ⟨bs, h1, h2, h3⟩ := spels_ok ts [] s h
    rw [List.nil_append] at h2
    obtain ⟨vs, h4, h5⟩ := line_back ts bs 0 [] h1 hr (by simp; omega)
    refine ⟨vs, ?_, h5, h3⟩
    unfold lineS
    rw [if_neg (by omega), h2]; exact h4
/-- Each begins behind the ones ahead of it. -/
def Inc : Nat → List (Tk × Nat) → Prop
  | _, [] => True
  | i, v :: vs => i ≤ v.2 ∧ Inc (v.2 + 1) vs
theorem Inc.mono : ∀ {vs : List (Tk × Nat)} {i j : Nat}, j ≤ i → Inc i vs → Inc j vs
  | [], _, _, _, _ => trivial
  | v :: vs, _, _, hj, h => ⟨Nat.le_trans hj h.1, h.2⟩
theorem line_pos : ∀ (N : Nat) (l : List UInt8) (i : Nat) (ws out : List (Tk × Nat)), l.length ≤ N → ws.length ≤ 200 → lineF l i ws = .ok out →
    ∃ vs, out = ws ++ vs ∧ Inc i vs ∧ out.length ≤ 200 ∧ ∀ v ∈ vs, i ≤ v.2 ∧ v.2 < i + l.length ∧ (l.getD (v.2 - i) 0).toNat ≠ 32 ∧ (∃ b, spelS v.1 = .ok b) ∧ InR v.1.num
  | N, l, i, ws, out, hN, hw2, h => by
    rcases line_cases l ws with rfl | hr | ⟨b, q, rfl, hb⟩ | ⟨b, q, rfl, h1, h2, ⟨e, hw⟩ | ⟨t, n, hw, h3 | h3⟩⟩
    · exact ⟨[], by rw [Ln.ok_inj h, List.append_nil], trivial, by rw [← Ln.ok_inj h]; exact hw2, by simp⟩
    · rw [lineF_rem hr] at h
      exact ⟨[], by rw [Ln.ok_inj h, List.append_nil], trivial, by rw [← Ln.ok_inj h]; exact hw2, by simp⟩
    · cases N with
      | zero => simp at hN
      | succ N =>
        rw [lineF_blank hb] at h
        obtain ⟨vs, e1, e2, e3, e4⟩ := line_pos N q (i + 1) ws out (by simpa using hN) hw2 h
        refine ⟨vs, e1, Inc.mono (by omega) e2, e3, fun v hv => ?_⟩
        obtain ⟨a1, a2, a3, a4⟩ := e4 v hv
        refine ⟨by omega, by rw [List.length_cons]; omega, ?_, a4⟩
        rw [show v.2 - i = (v.2 - (i + 1)) + 1 by omega, List.getD_cons_succ]; exact a3
    · rw [lineF_bad h1 h2 hw] at h; cases h
    · rw [lineF_full h1 h2 hw _ _ h3] at h; cases h
    · cases N with
      | zero => simp at hN
      | succ N =>
        rw [lineF_word h1 h2 hw _ _ h3] at h
        have hn := word_len hw
        rw [List.length_cons] at hN hn
        obtain ⟨vs, e1, e2, e3, e4⟩ := line_pos N _ (i + n) (ws ++ [(t, i)]) out (by rw [List.length_drop, List.length_cons]; omega) (by rw [List.length_append, List.length_singleton]; omega) h
        refine ⟨(t, i) :: vs, by rw [e1, List.append_assoc]; rfl, ⟨Nat.le_refl _, Inc.mono (by omega) e2⟩, e3, fun v hv => ?_⟩
        rcases List.mem_cons.1 hv with rfl | hv
        · refine ⟨Nat.le_refl _, by show i < i + (b :: q).length; rw [List.length_cons]; omega, ?_, word_spel hw⟩
          show ((b :: q).getD (i - i) 0).toNat ≠ 32
          rw [Nat.sub_self]; exact h2
        · obtain ⟨a1, a2, a3, a4⟩ := e4 v hv
          rw [List.length_drop, List.length_cons] at a2
          refine ⟨by omega, by rw [List.length_cons]; omega, ?_, a4⟩
          rw [List.getD_eq_getElem?_getD, List.getElem?_drop] at a3
          rw [List.getD_eq_getElem?_getD, show v.2 - i = n + (v.2 - (i + n)) by omega]; exact a3
theorem Inc.at : ∀ {vs : List (Tk × Nat)} {i : Nat} (k : Nat) (h : k + 1 < vs.length), Inc i vs → (vs[k]'(by omega)).2 < (vs[k + 1]'h).2
  | [], _, _, h, _ => by simp at h
  | [v], _, k, h, _ => by simp at h
  | v :: v2 :: vs, _, 0, _, hI => hI.2.1
  | v :: v2 :: vs, _, k + 1, h, hI => Inc.at (vs := v2 :: vs) k (by simpa using h) hI.2
/-- WHAT IS READ CAN BE SPELT, if it is not too long; and read again. -/
theorem again17 {l : List UInt8} {ws : List (Tk × Nat)} (h : lineS l = .ok ws) :
    Inc 0 ws ∧ ws.length ≤ 200 ∧ (∀ v ∈ ws, v.2 < l.length ∧ (l.getD v.2 0).toNat ≠ 32 ∧ InR v.1.num) ∧
    (spelsS (ws.map Prod.fst) = .bad 7 ∨ ∃ s us, spelsS (ws.map Prod.fst) = .ok s ∧ lineS s = .ok us ∧ us.map Prod.fst = ws.map Prod.fst ∧ s.length ≤ 1000) := by
  unfold lineS at h
  split at h
  · cases h
  · obtain ⟨vs, e1, e2, e3, e4⟩ := line_pos l.length l 0 [] ws (Nat.le_refl _) (by simp) h
    rw [List.nil_append] at e1
    subst e1
    refine ⟨e2, e3, fun v hv => ?_, ?_⟩
    · obtain ⟨a1, a2, a3, a4, a5⟩ := e4 v hv
      exact ⟨by omega, by rw [Nat.sub_zero] at a3; exact a3, a5⟩
    · have hs : ∀ t ∈ ws.map Prod.fst, (∃ b, spelS t = .ok b) ∧ InR t.num := by
        intro t ht
        obtain ⟨v, hv, rfl⟩ := List.mem_map.1 ht
        exact (e4 v hv).2.2.2
      have hu : spelsS (ws.map Prod.fst) = spelsN (ws.map Prod.fst) [] := by
        unfold spelsS; rw [if_neg (by rw [List.length_map]; omega)]
      rcases spels_can (ws.map Prod.fst) [] (fun t ht => (hs t ht).1) with ⟨s, hc⟩ | hc
      · rw [← hu] at hc
        obtain ⟨us, b1, b2, b3⟩ := back17 (fun t ht => (hs t ht).2) hc
        exact .inr ⟨s, us, hc, b1, b2, b3⟩
      · exact .inl (hu.trans hc)
/-- LINE BEHIND LINE. -/
theorem join17 {l r : List UInt8} {xs ys : List (Tk × Nat)} (hR : ∀ k, remB.isPrefixOf (l.drop k) = false) (hx : lineS l = .ok xs) (hy : lineS r = .ok ys)
    (h1 : l.length + r.length + 1 ≤ 1000) (h2 : xs.length + ys.length ≤ 200) : lineS (l ++ 32 :: r) = .ok (xs ++ shf (l.length + 1) ys) := by
  unfold lineS at hx hy ⊢
  rw [if_neg (by omega)] at hx hy
  rw [if_neg (by rw [List.length_append, List.length_cons]; omega)]
  show lineF (l ++ 32 :: r) 0 [] = _
  rw [line_join l.length l r 0 [] xs (Nat.le_refl _) hR hx]
  obtain ⟨vs, e1, e2⟩ := line_shift r.length r 0 (l.length + 1) [] xs ys (Nat.le_refl _) hy
  rw [List.nil_append] at e1
  subst e1
  have := e2 h2
  rw [show 0 + l.length + 1 = 0 + (l.length + 1) by omega]; exact this
end Go.Proofs.YtgjgbgllhbdodaaGreatDoor
/-! Lxp: Plain mathematics of the words of a line: numbers, quotes, blanks and signs as the program meets them. -/
namespace Go.Proofs.YtgjgbgllhbdodaaGreatDoor
open Go.Lib
set_option linter.unusedVariables false

theorem dgA_le : ∀ (l : List UInt8) (a : Nat), a ≤ dgA a l
  | [], a => Nat.le_refl _
  | b :: r, a => Nat.le_trans (by omega) (dgA_le r (a * 10 + (b.toNat - 48)))
theorem parse_dig : ∀ (ds : List UInt8) (a : Nat), ds.all isDg = true → a < 18446744073709551616 → parseUint10 a ds = if dgA a ds < 18446744073709551616 then .ok (dgA a ds) else .range
  | [], a, _, h => by rw [parseUint10]; exact (if_pos h).symm
  | c :: r, a, h, ha => by
    rw [List.all_cons, Bool.and_eq_true] at h
    have hc := dg_rng h.1
    have hle := dgA_le r (a * 10 + (c.toNat - 48))
    rw [parseUint10, if_pos hc]
    show _ = if dgA (a * 10 + (c.toNat - 48)) r < 18446744073709551616 then _ else _
    by_cases h1 : 1844674407370955162 ≤ a
    · rw [if_pos h1, if_neg (by omega)]
    · rw [if_neg h1]
      by_cases h2 : 18446744073709551616 ≤ a * 10 + (c.toNat - 48)
      · rw [if_pos h2, if_neg (by omega)]
      · rw [if_neg h2]; exact parse_dig r _ h.2 (by omega)
theorem atoi_pos {ds : List UInt8} (h : ds.all isDg = true) (hn : ds ≠ []) : atoiAll ds = if dgA 0 ds < 9223372036854775808 then .ok ((dgA 0 ds : Nat) : Int) else .range := by
  cases ds with
  | nil => exact absurd rfl hn
  | cons c r =>
    have hc := dg_rng (by rw [List.all_cons, Bool.and_eq_true] at h; exact h.1)
    rw [atoiAll_plain c r (by omega) (by omega)]
    unfold parseMag
    rw [if_neg hn, parse_dig (c :: r) 0 h (by omega)]
    by_cases h1 : dgA 0 (c :: r) < 18446744073709551616
    · rw [if_pos h1]
      by_cases h2 : dgA 0 (c :: r) < 9223372036854775808
      · rw [if_pos h2]; simp only [signless]; rw [if_neg (by omega)]
      · rw [if_neg h2]; simp only [signless]; rw [if_pos (by omega)]
    · rw [if_neg h1, if_neg (by omega)]; rfl
theorem atoi_neg {ds : List UInt8} (h : ds.all isDg = true) (hn : ds ≠ []) : atoiAll (45 :: ds) = if dgA 0 ds ≤ 9223372036854775808 then .ok (-((dgA 0 ds : Nat) : Int)) else .range := by
  rw [atoiAll_minus]
  unfold parseMag
  rw [if_neg hn, parse_dig ds 0 h (by omega)]
  by_cases h1 : dgA 0 ds < 18446744073709551616
  · rw [if_pos h1]
    by_cases h2 : dgA 0 ds ≤ 9223372036854775808
    · rw [if_pos h2]; simp only [signed]; rw [if_neg (by omega)]
    · rw [if_neg h2]; simp only [signed]; rw [if_pos (by omega)]
  · rw [if_neg h1, if_neg (by omega)]; rfl

/-! ### Blanks -/
/-- The first byte from one on that is no blank. -/
def abk (l : List UInt8) (i : Nat) : Nat := l.length - ((l.drop i).dropWhile (· == 32)).length
theorem dw_split : ∀ l : List UInt8, ∃ k, l.dropWhile (· == 32) = l.drop k ∧ k ≤ l.length ∧ (∀ i ws, lineF l i ws = lineF (l.drop k) (i + k) ws) ∧ (l.drop k = [] ∨ ∃ b r, l.drop k = b :: r ∧ ¬ b.toNat = 32)
  | [] => ⟨0, rfl, Nat.le_refl _, fun i ws => rfl, .inl rfl⟩
  | b :: r => by
    by_cases hb : b = 32
    · obtain ⟨k, h1, h2, h3, h4⟩ := dw_split r
      refine ⟨k + 1, ?_, by simpa using h2, fun i ws => ?_, h4⟩
      · subst hb; exact h1
      · rw [lineF_blank (by rw [hb]; rfl), h3, show i + 1 + k = i + (k + 1) by omega]; rfl
    · have hn : ¬ b.toNat = 32 := fun e => hb (u8_eq e)
      refine ⟨0, ?_, Nat.zero_le _, fun i ws => rfl, .inr ⟨b, r, rfl, hn⟩⟩
      rw [List.dropWhile_cons, if_neg (by simpa using hb)]; rfl
theorem abk_is {l : List UInt8} {i : Nat} (h : i ≤ l.length) : i ≤ abk l i ∧ abk l i ≤ l.length ∧ (l.drop i).dropWhile (· == 32) = l.drop (abk l i) ∧
    (∀ ws, lineF (l.drop i) i ws = lineF (l.drop (abk l i)) (abk l i) ws) ∧ (l.drop (abk l i) = [] ∨ ∃ b r, l.drop (abk l i) = b :: r ∧ ¬ b.toNat = 32) := by
  obtain ⟨k, h1, h2, h3, h4⟩ := dw_split (l.drop i)
  rw [List.length_drop] at h2
  have e : abk l i = i + k := by
    unfold abk
    rw [h1, List.drop_drop, List.length_drop]; omega
  rw [List.drop_drop] at h1 h4
  refine ⟨by omega, by omega, by rw [e]; exact h1, fun ws => ?_, by rw [e]; exact h4⟩
  rw [e, h3, List.drop_drop]

/-! ### Quotes -/
theorem qt_skip : ∀ (k : Nat) (l : List UInt8), k ≤ l.length → (∀ j, j < k → (l.getD j 0).toNat ≠ 39) → qt l = (qt (l.drop k)).map (fun x => (l.take k ++ x.1, k + x.2))
  | 0, l, _, _ => by
    show qt l = (qt l).map (fun x => ([] ++ x.1, 0 + x.2))
    cases qt l with
    | none => rfl
    | some x => rw [Option.map_some]; simp
  | k + 1, [], h, _ => by simp at h
  | k + 1, b :: l, h, h2 => by
    rw [qt_cons_ne (show ¬ b.toNat = 39 from h2 0 (by omega)), qt_skip k l (by simpa using h) (fun j hj => h2 (j + 1) (by omega))]
    show _ = (qt (l.drop k)).map _
    cases qt (l.drop k) with
    | none => rfl
    | some x => simp only [Option.map_some, List.take_succ_cons, List.cons_append]; rw [show k + x.2 + 1 = k + 1 + x.2 by omega]
theorem idx_no : ∀ (l : List UInt8), indexByte l 39 = -1 → ∀ j, j < l.length → (l.getD j 0).toNat ≠ 39
  | [], _, j, hj => by simp at hj
  | b :: l, h, j, hj => by
    unfold indexByte at h
    by_cases hb : b = 39
    · simp [hb] at h
    · have hn : ¬ b.toNat = 39 := fun e => hb (u8_eq e)
      have hge := indexByte_ge l 39
      have h' : indexByte l 39 = -1 := by
        rw [if_neg (by simpa using hb)] at h
        by_cases e : indexByte l 39 = -1
        · exact e
        · rw [if_neg (by simpa using e)] at h; omega
      cases j with
      | zero => exact hn
      | succ j => exact idx_no l h' j (by simpa using hj)
theorem qt_none : ∀ (l : List UInt8), (∀ j, j < l.length → (l.getD j 0).toNat ≠ 39) → qt l = none
  | [], _ => rfl
  | b :: l, h => by
    rw [qt_cons_ne (show ¬ b.toNat = 39 from h 0 (by simp)), qt_none l (fun j hj => h (j + 1) (by simpa using hj))]; rfl
theorem idx_yes : ∀ (l : List UInt8) (k : Nat), indexByte l 39 = (k : Int) → k < l.length ∧ (∀ j, j < k → (l.getD j 0).toNat ≠ 39) ∧ (l.getD k 0).toNat = 39
  | [], k, h => by unfold indexByte at h; omega
  | b :: l, k, h => by
    unfold indexByte at h
    by_cases hb : b = 39
    · have : k = 0 := by simp [hb] at h; omega
      subst this; subst hb
      exact ⟨by simp, fun j hj => by omega, rfl⟩
    · have hn : ¬ b.toNat = 39 := fun e => hb (u8_eq e)
      have hge := indexByte_ge l 39
      have h' : 0 ≤ indexByte l 39 ∧ indexByte l 39 + 1 = k := by
        rw [if_neg (by simpa using hb)] at h
        by_cases e : indexByte l 39 = -1
        · rw [if_pos (by simpa using e)] at h; omega
        · rw [if_neg (by simpa using e)] at h; omega
      cases k with
      | zero => omega
      | succ k =>
        obtain ⟨h1, h2, h3⟩ := idx_yes l k (by omega)
        refine ⟨by simpa using h1, fun j hj => ?_, h3⟩
        cases j with
        | zero => exact hn
        | succ j => exact h2 j (by omega)
end Go.Proofs.YtgjgbgllhbdodaaGreatDoor
/-! Lyp: Plain mathematics of the words of a line: quotes told twice, numbers with their sign, as the library replaces them. -/
namespace Go.Proofs.YtgjgbgllhbdodaaGreatDoor
open Go.Lib
set_option linter.unusedVariables false

theorem idx_hit (c : UInt8) (l : List UInt8) : index (c :: l) [c] = 0 := by
  rw [index_one]; unfold indexByte; simp
theorem idx_skip {b c : UInt8} (h : b ≠ c) (l : List UInt8) : index (b :: l) [c] = if index l [c] = -1 then -1 else index l [c] + 1 := by
  rw [index_one, index_one]
  show indexByte (b :: l) c = _
  rw [indexByte]
  simp [h]
theorem repK_skip {b c : UInt8} (h : b ≠ c) (new l : List UInt8) (k : Nat) : replaceK [c] new k (b :: l) = b :: replaceK [c] new k l := by
  cases k with
  | zero => rfl
  | succ k =>
    have hge := index_ge l [c]
    have e := idx_skip h l
    by_cases hm : index l [c] = -1
    · rw [if_pos hm] at e
      rw [replaceK, replaceK, if_pos (beq_iff_eq.2 e), if_pos (beq_iff_eq.2 hm)]
    · rw [if_neg hm] at e
      obtain ⟨i, hi⟩ : ∃ i : Nat, index l [c] = i := ⟨(index l [c]).toNat, by omega⟩
      rw [hi] at e
      rw [replaceK_hit [c] new k (b :: l) (i + 1) (by rw [e]; rfl), replaceK_hit [c] new k l i hi]
      rfl
theorem repK_dbl : ∀ l : List UInt8, replaceK [39] [39, 39] (l.count 39) l = dblQ l
  | [] => rfl
  | b :: l => by
    by_cases hb : b = 39
    · subst hb
      rw [List.count_cons_self, replaceK_hit [39] [39, 39] _ (39 :: l) 0 (idx_hit 39 l)]
      show [39, 39] ++ replaceK [39] [39, 39] (l.count 39) l = _
      rw [repK_dbl l]; rfl
    · have hn : ¬ b.toNat = 39 := fun e => hb (u8_eq e)
      rw [List.count_cons_of_ne hb, repK_skip hb, repK_dbl l]
      exact (if_neg hn).symm
/-- Quotes told twice, as the library replaces them. -/
theorem rep_dbl (l : List UInt8) : replaceAll l [39] [39, 39] = dblQ l := by
  unfold replaceAll replace
  rw [if_neg (by decide)]
  unfold replaceNum
  rw [if_pos (.inl (by decide)), count_one, repK_dbl]
theorem repK_none {l : List UInt8} (h : ∀ b ∈ l, b ≠ 45) (k : Nat) (new : List UInt8) : replaceK [45] new k l = l := by
  induction l with
  | nil => cases k <;> rfl
  | cons b l ih => rw [repK_skip (h b (by simp)), ih (fun x hx => h x (by simp [hx]))]
theorem dec_no45 (u : Nat) : ∀ b ∈ decDigits u, b ≠ 45 := fun b hb e => by
  have := dg_rng (List.all_eq_true.1 (dec_back u u (Nat.le_refl _)).2.1 b hb)
  rw [e] at this; exact absurd this (by decide)
/-- A number's sign, as the library replaces it. -/
theorem rep_dig (n : Int) : replace (itoa n) [45] minusB 1 = digS n := by
  unfold replace
  rw [if_neg (by decide)]
  unfold itoa digS
  by_cases h : n < 0
  · rw [if_pos h, if_pos h]
    have e : replaceNum (45 :: decDigits n.natAbs) [45] 1 = 1 := by
      unfold replaceNum
      rw [count_one, List.count_cons_self]
      by_cases hc : (((decDigits n.natAbs).count 45 + 1 : Nat) : Int) < 1
      · omega
      · rw [if_neg (by omega)]; rfl
    rw [e, replaceK_hit [45] minusB 0 _ 0 (idx_hit 45 _)]; rfl
  · rw [if_neg h, if_neg h, repK_none (dec_no45 _), show n.toNat = n.natAbs by omega]
theorem dbl_len : ∀ l : List UInt8, (dblQ l).length = l.length + l.count 39
  | [] => rfl
  | b :: l => by
    by_cases hb : b = 39
    · subst hb
      rw [show dblQ (39 :: l) = 39 :: 39 :: dblQ l from rfl, List.count_cons_self, List.length_cons, List.length_cons, dbl_len l, List.length_cons]; omega
    · have hn : ¬ b.toNat = 39 := fun e => hb (u8_eq e)
      rw [show dblQ (b :: l) = b :: dblQ l from if_neg hn, List.count_cons_of_ne hb, List.length_cons, dbl_len l, List.length_cons]; omega
theorem dbl_le (l : List UInt8) : (dblQ l).length ≤ 2 * l.length := by
  have := List.count_le_length (a := (39 : UInt8)) (l := l)
  rw [dbl_len]; omega
theorem dig_len {n : Int} (h : InR n) : (digS n).length ≤ 22 := by
  have h1 := itoa_length_le n h.1 h.2
  unfold itoa at h1
  unfold digS
  by_cases hn : n < 0
  · rw [if_pos hn] at h1 ⊢
    rw [List.length_cons] at h1
    rw [List.length_append]
    show 2 + _ ≤ _
    omega
  · rw [if_neg hn] at h1 ⊢
    rw [show n.natAbs = n.toNat by omega]; omega
end Go.Proofs.YtgjgbgllhbdodaaGreatDoor
