/-
  Plain mathematics of the words of a line: a blank behind a word changes nothing; reading step by step; line behind line.
-/
import Derived.Test.YthfdpfekjcdlbaaDoorLxm
namespace Go.Proofs.YthfdpfekjcdlbaaDoor
open Go.Lib
set_option linter.unusedVariables false

theorem pre_blank : ∀ (g l r : List UInt8), (∀ x ∈ g, x.toNat ≠ 32) → g.isPrefixOf (l ++ 32 :: r) = g.isPrefixOf l
  | [], l, r, _ => by simp [List.isPrefixOf]
  | a :: g, [], r, h => by
    have h1 : a ≠ 32 := fun e => h a (by simp) (by rw [e]; rfl)
    show (a == 32 && g.isPrefixOf r) = false
    rw [beq_eq_false_iff_ne.2 h1]; rfl
  | a :: g, b :: l, r, h => by
    show (a == b && g.isPrefixOf (l ++ 32 :: r)) = (a == b && g.isPrefixOf l)
    rw [pre_blank g l r (fun x hx => h x (by simp [hx]))]
theorem tk_blank (p : UInt8 → Bool) (hp : p 32 = false) : ∀ (l r : List UInt8), (l ++ 32 :: r).takeWhile p = l.takeWhile p
  | [], r => by show (match p 32 with | true => _ | false => _) = _; rw [hp]; rfl
  | b :: l, r => by
    show (match p b with | true => b :: (l ++ 32 :: r).takeWhile p | false => []) = (match p b with | true => b :: l.takeWhile p | false => [])
    rw [tk_blank p hp l r]
theorem tk_le (p : UInt8 → Bool) : ∀ l : List UInt8, (l.takeWhile p).length ≤ l.length
  | [] => by simp
  | b :: l => by
    show (match p b with | true => b :: l.takeWhile p | false => []).length ≤ _
    have := tk_le p l
    cases p b <;> simp <;> omega
theorem tk_all (p : UInt8 → Bool) : ∀ l : List UInt8, (l.takeWhile p).all p = true
  | [] => rfl
  | b :: l => by
    show (match p b with | true => b :: l.takeWhile p | false => []).all p = true
    cases h : p b
    · rfl
    · show (b :: l.takeWhile p).all p = true
      rw [List.all_cons, h, tk_all p l]; rfl
theorem tk_id (p : UInt8 → Bool) : ∀ l : List UInt8, l.all p = true → l.takeWhile p = l
  | [], _ => rfl
  | b :: l, h => by
    rw [List.all_cons, Bool.and_eq_true] at h
    show (match p b with | true => b :: l.takeWhile p | false => []) = _
    rw [h.1, tk_id p l h.2]
theorem first_blank : ∀ (tab : List (List UInt8)) (l r : List UInt8) (k : Nat), (∀ g ∈ tab, ∀ x ∈ g, x.toNat ≠ 32) → firstS tab (l ++ 32 :: r) k = firstS tab l k
  | [], l, r, k, h => rfl
  | g :: t, l, r, k, h => by
    show (if g.isPrefixOf (l ++ 32 :: r) = true then _ else firstS t (l ++ 32 :: r) (k + 1)) = (if g.isPrefixOf l = true then _ else _)
    rw [pre_blank g l r (h g (by simp)), first_blank t l r (k + 1) (fun x hx => h x (by simp [hx]))]
theorem first_in : ∀ (tab : List (List UInt8)) (l : List UInt8) (k a n : Nat), firstS tab l k = some (a, n) → k ≤ a ∧ a < k + tab.length ∧ tab.getD (a - k) [] <+: l ∧ n = (tab.getD (a - k) []).length
  | [], l, k, a, n, h => by cases h
  | g :: t, l, k, a, n, h => by
    unfold firstS at h
    split at h
    · rename_i hg
      obtain ⟨rfl, rfl⟩ := Prod.mk.inj (Option.some.inj h)
      refine ⟨Nat.le_refl _, by simp, ?_, ?_⟩ <;> rw [Nat.sub_self]
      · exact List.isPrefixOf_iff_prefix.1 hg
      · rfl
    · obtain ⟨h1, h2, h3, h4⟩ := first_in t l (k + 1) a n h
      have e : a - k = (a - (k + 1)) + 1 := by omega
      refine ⟨by omega, by simp only [List.length_cons]; omega, ?_, ?_⟩ <;> rw [e, List.getD_cons_succ]
      · exact h3
      · exact h4
theorem gly32 : ∀ g ∈ glyB, ∀ x ∈ g, x.toNat ≠ 32 := by decide
theorem sgn32 : ∀ g ∈ sgnB, ∀ x ∈ g, x.toNat ≠ 32 := by decide
theorem gly_len : ∀ a, a < 34 → 1 ≤ (glyB.getD a []).length := by decide
theorem sgn_len : ∀ a, a < 16 → 1 ≤ (sgnB.getD a []).length := by decide
theorem qt_cons_ne {b : UInt8} {r : List UInt8} (h : ¬ b.toNat = 39) : qt (b :: r) = (qt r).map (fun x => (b :: x.1, x.2 + 1)) := by
  rw [qt.eq_def]; exact if_neg h
theorem qt_one {b : UInt8} (h : b.toNat = 39) : qt [b] = some ([], 1) := by rw [qt.eq_def]; exact if_pos h
theorem qt_two {b c : UInt8} {r : List UInt8} (h : b.toNat = 39) (h2 : c.toNat = 39) : qt (b :: c :: r) = (qt r).map (fun x => (39 :: x.1, x.2 + 2)) := by
  rw [qt.eq_def]; exact (if_pos h).trans (if_pos h2)
theorem qt_end {b c : UInt8} {r : List UInt8} (h : b.toNat = 39) (h2 : ¬ c.toNat = 39) : qt (b :: c :: r) = some ([], 1) := by
  rw [qt.eq_def]; exact (if_pos h).trans (if_neg h2)
theorem qt_blank : ∀ (N : Nat) (l r : List UInt8) (t : List UInt8) (n : Nat), l.length ≤ N → qt l = some (t, n) → qt (l ++ 32 :: r) = some (t, n) ∧ 1 ≤ n ∧ n ≤ l.length
  | N, [], r, t, n, _, h => by cases h
  | 0, b :: l, r, t, n, hN, h => by simp at hN
  | N + 1, b :: l, r, t, n, hN, h => by
    rw [List.length_cons] at hN
    by_cases hb : b.toNat = 39
    · cases l with
      | nil =>
        rw [qt_one hb] at h
        obtain ⟨rfl, rfl⟩ := Prod.mk.inj (Option.some.inj h)
        exact ⟨qt_end hb (by decide), Nat.le_refl _, by simp⟩
      | cons c l' =>
        by_cases hc : c.toNat = 39
        · rw [qt_two hb hc] at h
          rw [List.length_cons] at hN
          cases hq : qt l' with
          | none => rw [hq] at h; cases h
          | some x =>
            rw [hq] at h
            obtain ⟨rfl, rfl⟩ := Prod.mk.inj (Option.some.inj h)
            obtain ⟨h1, h2, h3⟩ := qt_blank N l' r x.1 x.2 (by omega) hq
            refine ⟨?_, by omega, by simp only [List.length_cons]; omega⟩
            show qt (b :: c :: (l' ++ 32 :: r)) = _
            rw [qt_two hb hc, h1]; rfl
        · rw [qt_end hb hc] at h
          obtain ⟨rfl, rfl⟩ := Prod.mk.inj (Option.some.inj h)
          exact ⟨qt_end hb hc, Nat.le_refl _, by simp⟩
    · rw [qt_cons_ne hb] at h
      cases hq : qt l with
      | none => rw [hq] at h; cases h
      | some x =>
        rw [hq] at h
        obtain ⟨rfl, rfl⟩ := Prod.mk.inj (Option.some.inj h)
        obtain ⟨h1, h2, h3⟩ := qt_blank N l r x.1 x.2 (by omega) hq
        refine ⟨?_, by omega, by simp only [List.length_cons]; omega⟩
        show qt (b :: (l ++ 32 :: r)) = _
        rw [qt_cons_ne hb, h1]; rfl
theorem Wd.ok_inj {t u : Tk} {n m : Nat} (h : Wd.ok t n = Wd.ok u m) : t = u ∧ n = m := by cases h; exact ⟨rfl, rfl⟩
theorem numS_ok {m : Bool} {ds : List UInt8} {n k : Nat} {t : Tk} (h : numS m ds n = .ok t k) : k = n ∧ (if m = true then dgA 0 ds ≤ 9223372036854775808 else dgA 0 ds < 9223372036854775808) ∧ t = ⟨1, 0, if m = true then -(dgA 0 ds : Int) else dgA 0 ds, []⟩ := by
  unfold numS at h
  by_cases hc : (if m = true then dgA 0 ds ≤ 9223372036854775808 else dgA 0 ds < 9223372036854775808)
  · rw [if_pos hc] at h
    obtain ⟨rfl, rfl⟩ := Wd.ok_inj h
    exact ⟨rfl, hc, rfl⟩
  · rw [if_neg hc] at h; cases h
theorem sigS_ok {l : List UInt8} {n : Nat} {t : Tk} (h : sigS l = .ok t n) :
    (∃ k, k < 34 ∧ firstS glyB l 0 = some (k, n) ∧ t = ⟨4, (k : Int) + 1, 0, []⟩) ∨ (∃ k, k < 16 ∧ firstS glyB l 0 = none ∧ firstS sgnB l 0 = some (k, n) ∧ t = ⟨(k : Int) + 5, 0, 0, []⟩) := by
  unfold sigS at h
  split at h
  · rename_i k m hk
    obtain ⟨rfl, rfl⟩ := Wd.ok_inj h
    have := first_in _ _ _ _ _ hk
    exact .inl ⟨k, by have := this.2.1; rw [show glyB.length = 34 from rfl] at this; omega, hk, rfl⟩
  · rename_i hg
    split at h
    · rename_i k m hk
      obtain ⟨rfl, rfl⟩ := Wd.ok_inj h
      have := first_in _ _ _ _ _ hk
      exact .inr ⟨k, by have := this.2.1; rw [show sgnB.length = 16 from rfl] at this; omega, hg, hk, rfl⟩
    · cases h
theorem sigS_blank (l r : List UInt8) : sigS (l ++ 32 :: r) = sigS l := by
  unfold sigS; rw [first_blank glyB l r 0 gly32, first_blank sgnB l r 0 sgn32]
theorem chrS_ok {l : List UInt8} {n : Nat} {t : Tk} (h : chrS l = .ok t n) : ∃ u k, qt l = some (u, k) ∧ n = k + 1 ∧ qbl u = true ∧ t = ⟨2, 0, 0, u⟩ := by
  unfold chrS at h
  split at h
  · cases h
  · rename_i u k hq
    split at h
    · rename_i hb
      obtain ⟨rfl, rfl⟩ := Wd.ok_inj h
      exact ⟨u, k, hq, rfl, hb, rfl⟩
    · cases h
theorem chrS_blank {l : List UInt8} {n : Nat} {t : Tk} (r : List UInt8) (h : chrS l = .ok t n) : chrS (l ++ 32 :: r) = .ok t n ∧ 1 ≤ n ∧ n ≤ l.length + 1 := by
  obtain ⟨u, k, hq, rfl, hb, rfl⟩ := chrS_ok h
  obtain ⟨h1, h2, h3⟩ := qt_blank l.length l r u k (Nat.le_refl _) hq
  refine ⟨?_, by omega, by omega⟩
  unfold chrS; rw [h1]; exact if_pos hb
theorem minus_split {l : List UInt8} (h : minusB.isPrefixOf l = true) : ∃ r, l = 194 :: 175 :: r := by
  obtain ⟨r, hr⟩ := List.isPrefixOf_iff_prefix.1 h
  exact ⟨r, hr.symm⟩
theorem wordS_minus (r : List UInt8) : wordS (194 :: 175 :: r) = if r.takeWhile isDg = [] then .bad 1 else numS true (r.takeWhile isDg) (2 + (r.takeWhile isDg).length) := by
  unfold wordS; exact if_pos rfl
theorem wordS_cons {b : UInt8} {r : List UInt8} (h : minusB.isPrefixOf (b :: r) = false) : wordS (b :: r) =
    if isDg b = true then numS false ((b :: r).takeWhile isDg) ((b :: r).takeWhile isDg).length
    else if isLt b = true then
      if 12 < ((b :: r).takeWhile isPt).length then .bad 7 else .ok ⟨3, 0, 0, (b :: r).takeWhile isPt⟩ ((b :: r).takeWhile isPt).length
    else if b.toNat = 39 then chrS r
    else sigS (b :: r) := by
  unfold wordS; exact if_neg (by rw [h]; exact Bool.false_ne_true)
theorem tk_pos {p : UInt8 → Bool} {b : UInt8} {r : List UInt8} (h : p b = true) : 1 ≤ ((b :: r).takeWhile p).length := by
  show 1 ≤ (match p b with | true => b :: r.takeWhile p | false => []).length
  rw [h]; simp
theorem lt_pt {b : UInt8} (h : isLt b = true) : isPt b = true := by unfold isPt; rw [h]; rfl
theorem word_blank {l : List UInt8} {t : Tk} {n : Nat} (r : List UInt8) (h : wordS l = .ok t n) : wordS (l ++ 32 :: r) = .ok t n ∧ 1 ≤ n ∧ n ≤ l.length := by
  by_cases hm : minusB.isPrefixOf l = true
  · obtain ⟨q, rfl⟩ := minus_split hm
    rw [wordS_minus] at h
    show wordS (194 :: 175 :: (q ++ 32 :: r)) = _ ∧ _
    rw [wordS_minus, tk_blank isDg rfl q r]
    refine ⟨h, ?_⟩
    split at h
    · cases h
    · have := (numS_ok h).1
      have := tk_le isDg q
      simp only [List.length_cons]; omega
  · have hm' : minusB.isPrefixOf l = false := Bool.eq_false_iff.2 hm
    cases l with
    | nil => unfold wordS at h; rw [if_neg hm] at h; cases h
    | cons b q =>
      rw [wordS_cons hm'] at h
      have hm2 : minusB.isPrefixOf (b :: (q ++ 32 :: r)) = false := (pre_blank minusB (b :: q) r (by decide)).trans hm'
      show wordS (b :: (q ++ 32 :: r)) = _ ∧ _
      rw [wordS_cons hm2]
      have e1 := tk_blank isDg rfl (b :: q) r
      have e2 := tk_blank isPt rfl (b :: q) r
      have e3 := sigS_blank (b :: q) r
      rw [List.cons_append] at e1 e2 e3
      rw [e1, e2, e3]
      by_cases hd : isDg b = true
      · rw [if_pos hd] at h ⊢
        refine ⟨h, ?_⟩
        have := (numS_ok h).1
        have := tk_le isDg (b :: q)
        have := tk_pos (p := isDg) (r := q) hd
        omega
      · rw [if_neg hd] at h ⊢
        by_cases hl : isLt b = true
        · rw [if_pos hl] at h ⊢
          refine ⟨h, ?_⟩
          split at h
          · cases h
          · obtain ⟨_, rfl⟩ := Wd.ok_inj h
            exact ⟨tk_pos (lt_pt hl), tk_le _ _⟩
        · rw [if_neg hl] at h ⊢
          by_cases hq : b.toNat = 39
          · rw [if_pos hq] at h ⊢
            obtain ⟨h1, h2, h3⟩ := chrS_blank r h
            exact ⟨h1, h2, by simpa using h3⟩
          · rw [if_neg hq] at h ⊢
            refine ⟨h, ?_⟩
            rcases sigS_ok h with ⟨k, hk, hf, _⟩ | ⟨k, hk, _, hf, _⟩
            · obtain ⟨_, _, h3, h4⟩ := first_in _ _ _ _ _ hf
              rw [Nat.sub_zero] at h4 h3
              have := h3.length_le
              have := gly_len k hk
              omega
            · obtain ⟨_, _, h3, h4⟩ := first_in _ _ _ _ _ hf
              rw [Nat.sub_zero] at h4 h3
              have := h3.length_le
              have := sgn_len k hk
              omega
theorem word_len {l : List UInt8} {t : Tk} {n : Nat} (h : wordS l = .ok t n) : 1 ≤ n ∧ n ≤ l.length := (word_blank [] h).2

/-! ### Reading a line -/
theorem lineN_fuel : ∀ (f g : Nat) (l : List UInt8) (i : Nat) (ws : List (Tk × Nat)), l.length ≤ f → l.length ≤ g → lineN f l i ws = lineN g l i ws
  | 0, g, l, i, ws, h, _ => by
    have e : l = [] := List.length_eq_zero_iff.1 (by omega)
    subst e; cases g <;> rfl
  | f + 1, 0, l, i, ws, _, h => by
    have e : l = [] := List.length_eq_zero_iff.1 (by omega)
    subst e; rfl
  | f + 1, g + 1, l, i, ws, hf, hg => by
    cases l with
    | nil => rfl
    | cons b r =>
      rw [List.length_cons] at hf hg
      rw [lineN, lineN]
      by_cases h1 : remB.isPrefixOf (b :: r) = true
      · simp only [if_pos h1]
      · simp only [if_neg h1]
        by_cases h2 : b.toNat = 32
        · simp only [if_pos h2]
          exact lineN_fuel f g r (i + 1) ws (by omega) (by omega)
        · simp only [if_neg h2]
          cases hw : wordS (b :: r) with
          | error e => rfl
          | ok tn =>
            obtain ⟨t, n⟩ := tn
            have hn := word_len hw
            rw [List.length_cons] at hn
            simp only []
            split
            · rfl
            · exact lineN_fuel f g _ _ _ (by rw [List.length_drop, List.length_cons]; omega) (by rw [List.length_drop, List.length_cons]; omega)
/-- Reading on from a byte. -/
def lineF (l : List UInt8) (i : Nat) (ws : List (Tk × Nat)) : Ln := lineN l.length l i ws
theorem lineF_nil (i : Nat) (ws : List (Tk × Nat)) : lineF [] i ws = .ok ws := rfl
theorem lineF_rem {l : List UInt8} (h : remB.isPrefixOf l = true) (i : Nat) (ws : List (Tk × Nat)) : lineF l i ws = .ok ws := by
  cases l with
  | nil => rfl
  | cons b r => show lineN (r.length + 1) (b :: r) i ws = _; rw [lineN]; simp only [if_pos h]
theorem lineF_blank {b : UInt8} {r : List UInt8} (h : b.toNat = 32) (i : Nat) (ws : List (Tk × Nat)) : lineF (b :: r) i ws = lineF r (i + 1) ws := by
  have h1 : ¬ remB.isPrefixOf (b :: r) = true := by
    intro e
    obtain ⟨q, hq⟩ := List.isPrefixOf_iff_prefix.1 e
    have : b = 226 := (List.cons.inj hq).1.symm
    rw [this] at h; exact absurd h (by decide)
  show lineN (r.length + 1) (b :: r) i ws = _; rw [lineN]; simp only [if_neg h1, if_pos h]; rfl
theorem lineF_bad {b : UInt8} {r : List UInt8} {e : Int} (h1 : ¬ remB.isPrefixOf (b :: r) = true) (h2 : ¬ b.toNat = 32) (hw : wordS (b :: r) = .bad e) (i : Nat) (ws : List (Tk × Nat)) : lineF (b :: r) i ws = .bad i e := by
  show lineN (r.length + 1) (b :: r) i ws = _; rw [lineN]; simp only [if_neg h1, if_neg h2, hw]
theorem lineF_full {b : UInt8} {r : List UInt8} {t : Tk} {n : Nat} (h1 : ¬ remB.isPrefixOf (b :: r) = true) (h2 : ¬ b.toNat = 32) (hw : wordS (b :: r) = .ok t n) (i : Nat) (ws : List (Tk × Nat)) (h3 : 200 ≤ ws.length) : lineF (b :: r) i ws = .bad i 7 := by
  show lineN (r.length + 1) (b :: r) i ws = _; rw [lineN]; simp only [if_neg h1, if_neg h2, hw, if_pos h3]
theorem lineF_word {b : UInt8} {r : List UInt8} {t : Tk} {n : Nat} (h1 : ¬ remB.isPrefixOf (b :: r) = true) (h2 : ¬ b.toNat = 32) (hw : wordS (b :: r) = .ok t n) (i : Nat) (ws : List (Tk × Nat)) (h3 : ¬ 200 ≤ ws.length) :
    lineF (b :: r) i ws = lineF ((b :: r).drop n) (i + n) (ws ++ [(t, i)]) := by
  have hn := word_len hw
  rw [List.length_cons] at hn
  show lineN (r.length + 1) (b :: r) i ws = _; rw [lineN]; simp only [if_neg h1, if_neg h2, hw, if_neg h3]
  exact lineN_fuel _ _ _ _ _ (by rw [List.length_drop, List.length_cons]; omega) (Nat.le_refl _)
/-- By whatever a line begins with: nothing more, a remark, a blank, a wrong word, one too many, a word. -/
theorem line_cases (l : List UInt8) (ws : List (Tk × Nat)) :
    l = [] ∨ remB.isPrefixOf l = true ∨ (∃ b r, l = b :: r ∧ b.toNat = 32) ∨
    ∃ b r, l = b :: r ∧ ¬ remB.isPrefixOf l = true ∧ ¬ b.toNat = 32 ∧ ((∃ e, wordS l = .bad e) ∨ ∃ t n, wordS l = .ok t n ∧ (200 ≤ ws.length ∨ ¬ 200 ≤ ws.length)) := by
  cases l with
  | nil => exact .inl rfl
  | cons b r =>
    by_cases h1 : remB.isPrefixOf (b :: r) = true
    · exact .inr (.inl h1)
    by_cases h2 : b.toNat = 32
    · exact .inr (.inr (.inl ⟨b, r, rfl, h2⟩))
    refine .inr (.inr (.inr ⟨b, r, rfl, h1, h2, ?_⟩))
    cases hw : wordS (b :: r) with
    | error e => exact .inl ⟨e, rfl⟩
    | ok tn =>
      obtain ⟨t, n⟩ := tn
      exact .inr ⟨t, n, rfl, Classical.em _⟩
theorem Ln.ok_inj {a b : List (Tk × Nat)} (h : Ln.ok a = Ln.ok b) : a = b := by cases h; rfl
def shf (d : Nat) (vs : List (Tk × Nat)) : List (Tk × Nat) := vs.map (fun x => (x.1, x.2 + d))
/-- What is read behind other words, further on. -/
theorem line_shift : ∀ (N : Nat) (l : List UInt8) (i d : Nat) (ws us out : List (Tk × Nat)), l.length ≤ N → lineF l i ws = .ok out →
    ∃ vs, out = ws ++ vs ∧ (us.length + vs.length ≤ 200 → lineF l (i + d) us = .ok (us ++ shf d vs))
  | N, l, i, d, ws, us, out, hN, h => by
    rcases line_cases l ws with rfl | hr | ⟨b, r, rfl, hb⟩ | ⟨b, r, rfl, h1, h2, ⟨e, hw⟩ | ⟨t, n, hw, h3 | h3⟩⟩
    · exact ⟨[], by rw [Ln.ok_inj h, List.append_nil], fun _ => by rw [lineF_nil]; simp [shf]⟩
    · rw [lineF_rem hr] at h
      exact ⟨[], by rw [Ln.ok_inj h, List.append_nil], fun _ => by rw [lineF_rem hr]; simp [shf]⟩
    · cases N with
      | zero => simp at hN
      | succ N =>
        rw [lineF_blank hb] at h
        obtain ⟨vs, e1, e2⟩ := line_shift N r (i + 1) d ws us out (by simpa using hN) h
        exact ⟨vs, e1, fun hc => by rw [lineF_blank hb, show i + d + 1 = i + 1 + d by omega]; exact e2 hc⟩
    · rw [lineF_bad h1 h2 hw] at h; cases h
    · rw [lineF_full h1 h2 hw _ _ h3] at h; cases h
    · cases N with
      | zero => simp at hN
      | succ N =>
        rw [lineF_word h1 h2 hw _ _ h3] at h
        have hn := word_len hw
        rw [List.length_cons] at hN hn
        obtain ⟨vs, e1, e2⟩ := line_shift N _ (i + n) d (ws ++ [(t, i)]) (us ++ [(t, i + d)]) out (by rw [List.length_drop, List.length_cons]; omega) h
        refine ⟨(t, i) :: vs, by rw [e1, List.append_assoc]; rfl, fun hc => ?_⟩
        rw [List.length_cons] at hc
        rw [lineF_word h1 h2 hw _ _ (by omega), show i + d + n = i + n + d by omega, e2 (by rw [List.length_append, List.length_singleton]; omega)]
        simp [shf]
theorem noRem_drop {l : List UInt8} (n : Nat) (h : ∀ k, remB.isPrefixOf (l.drop k) = false) : ∀ k, remB.isPrefixOf ((l.drop n).drop k) = false := fun k => by
  rw [List.drop_drop]; exact h _
/-- A line without a remark, and a blank behind it: what stands behind that is read on. -/
theorem line_join : ∀ (N : Nat) (l r : List UInt8) (i : Nat) (ws out : List (Tk × Nat)), l.length ≤ N → (∀ k, remB.isPrefixOf (l.drop k) = false) → lineF l i ws = .ok out →
    lineF (l ++ 32 :: r) i ws = lineF r (i + l.length + 1) out
  | N, l, r, i, ws, out, hN, hR, h => by
    rcases line_cases l ws with rfl | hr | ⟨b, q, rfl, hb⟩ | ⟨b, q, rfl, h1, h2, ⟨e, hw⟩ | ⟨t, n, hw, h3 | h3⟩⟩
    · rw [Ln.ok_inj h]; exact lineF_blank (by decide) _ _
    · rw [show l = l.drop 0 from rfl, hR 0] at hr; cases hr
    · cases N with
      | zero => simp at hN
      | succ N =>
        rw [lineF_blank hb] at h
        rw [List.cons_append, lineF_blank hb, line_join N q r (i + 1) ws out (by simpa using hN) (fun k => hR (k + 1)) h, List.length_cons, show i + 1 + q.length + 1 = i + (q.length + 1) + 1 by omega]
    · rw [lineF_bad h1 h2 hw] at h; cases h
    · rw [lineF_full h1 h2 hw _ _ h3] at h; cases h
    · cases N with
      | zero => simp at hN
      | succ N =>
        rw [lineF_word h1 h2 hw _ _ h3] at h
        have hn := word_len hw
        rw [List.length_cons] at hN hn
        have hw2 := (word_blank r hw).1
        have h1' : ¬ remB.isPrefixOf (b :: (q ++ 32 :: r)) = true := by
          have := pre_blank remB (b :: q) r (by decide)
          rw [List.cons_append] at this
          rw [this]; exact h1
        rw [List.cons_append] at hw2 ⊢
        rw [lineF_word h1' h2 hw2 _ _ h3]
        have e : (b :: (q ++ 32 :: r)).drop n = (b :: q).drop n ++ 32 :: r := by
          rw [← List.cons_append, List.drop_append_of_le_length (by rw [List.length_cons]; omega)]
        rw [e, line_join N _ r (i + n) _ out (by rw [List.length_drop, List.length_cons]; omega) (noRem_drop n hR) h, List.length_drop, List.length_cons, show i + n + (q.length + 1 - n) + 1 = i + (q.length + 1) + 1 by omega]
end Go.Proofs.YthfdpfekjcdlbaaDoor
