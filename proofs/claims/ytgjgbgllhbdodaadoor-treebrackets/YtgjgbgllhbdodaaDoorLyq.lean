
/-
  Plain mathematics of the words of a line: what is wrong with a word, and its text, apart; texts one behind the other.
-/
import Derived.Test.YtgjgbgllhbdodaaDoorLyp
namespace Go.Proofs.YtgjgbgllhbdodaaDoor
open Go.Lib
set_option linter.unusedVariables false

/-- A Name, however long it is. -/
def nmB : List UInt8 → Bool
  | [] => false
  | b :: r => isLt b && (b :: r).all isPt
/-- A word that could be read, however long it is. -/
def rtB (t : Tk) : Bool :=
  if t.kind = 1 then decide (t.fn = 0 ∧ t.text = [])
  else if t.kind = 2 then decide (t.fn = 0 ∧ t.num = 0) && qbl t.text
  else if t.kind = 3 then decide (t.fn = 0 ∧ t.num = 0) && nmB t.text
  else if t.kind = 4 then decide (t.num = 0 ∧ t.text = [] ∧ 1 ≤ t.fn ∧ t.fn ≤ 34)
  else decide (t.fn = 0 ∧ t.num = 0 ∧ t.text = [] ∧ 5 ≤ t.kind ∧ t.kind ≤ 20)
/-- What is wrong with a word. -/
def ckE (t : Tk) : Int := if rtB t = false then 1 else if t.kind = 3 ∧ 12 < t.text.length then 7 else 0
/-- What a right word looks like. -/
def spT (t : Tk) : List UInt8 :=
  if t.kind = 1 then digS t.num
  else if t.kind = 2 then 39 :: dblQ t.text ++ [39]
  else if t.kind = 3 then t.text
  else if t.kind = 4 then glyB.getD (t.fn.toNat - 1) []
  else sgnB.getD (t.kind.toNat - 5) []
theorem nm_F (l : List UInt8) : namF l = if nmB l = true then (if 12 < l.length then 7 else 0) else 1 := by
  cases l with
  | nil => rfl
  | cons b r =>
    unfold namF nmB
    simp only [Bool.and_eq_true]
theorem spel_ck (t : Tk) : spelS t = if ckE t = 0 then .ok (spT t) else .bad (ckE t) := by
  obtain ⟨kind, fn, num, text⟩ := t
  have z : ∀ e : Int, e ≠ 0 → ∀ a : List UInt8, (if e = 0 then Sp.ok a else .bad e) = .bad e := fun e h a => if_neg h
  unfold spelS
  by_cases hf : fldF ⟨kind, fn, num, text⟩ = true
  · rw [if_pos hf]
    have e : rtB ⟨kind, fn, num, text⟩ = false := by
      unfold fldF at hf
      rw [Bool.or_eq_true, Bool.or_eq_true, decide_eq_true_iff, decide_eq_true_iff, decide_eq_true_iff] at hf
      simp only at hf
      unfold rtB
      simp only
      by_cases k1 : kind = 1
      · rw [if_pos k1]
        refine decide_eq_false fun h => ?_
        rcases hf with (hf | hf) | hf
        · omega
        · omega
        · exact hf.2.2 h.2
      rw [if_neg k1]
      by_cases k2 : kind = 2
      · rw [if_pos k2, decide_eq_false (by rcases hf with (hf | hf) | hf <;> omega)]; rfl
      rw [if_neg k2]
      by_cases k3 : kind = 3
      · rw [if_pos k3, decide_eq_false (by rcases hf with (hf | hf) | hf <;> omega)]; rfl
      rw [if_neg k3]
      by_cases k4 : kind = 4
      · rw [if_pos k4]
        refine decide_eq_false fun h => ?_
        rcases hf with (hf | hf) | hf
        · omega
        · omega
        · exact hf.2.2 h.2.1
      rw [if_neg k4]
      refine decide_eq_false fun h => ?_
      rcases hf with (hf | hf) | hf
      · omega
      · omega
      · exact hf.2.2 h.2.2.1
    have e2 : ckE ⟨kind, fn, num, text⟩ = 1 := by unfold ckE; rw [if_pos e]
    rw [e2]; exact (z 1 (by decide) _).symm
  · rw [if_neg hf]
    obtain ⟨f1, f2, f3⟩ := fld_no hf
    simp only at f1 f2 f3
    by_cases k1 : kind = 1
    · subst k1
      obtain rfl : fn = 0 := by omega
      obtain rfl : text = [] := by rcases f3 with h | h | h; · omega
                                   · omega
                                   · exact h
      rfl
    by_cases k3 : kind = 3
    · subst k3
      obtain rfl : fn = 0 := by omega
      obtain rfl : num = 0 := by omega
      simp only
      rw [if_neg (by decide), if_pos trivial, nm_F]
      have hr : rtB ⟨3, 0, 0, text⟩ = nmB text := by unfold rtB; simp
      have hs : spT ⟨3, 0, 0, text⟩ = text := rfl
      rw [hs]
      unfold ckE
      rw [hr]
      cases nmB text
      · rfl
      · by_cases h12 : 12 < text.length
        · simp [h12]
        · simp [h12]
    by_cases k2 : kind = 2
    · subst k2
      obtain rfl : fn = 0 := by omega
      obtain rfl : num = 0 := by omega
      simp only
      rw [if_neg (by decide), if_neg (by decide), if_pos trivial]
      have hr : rtB ⟨2, 0, 0, text⟩ = qbl text := by unfold rtB; simp
      unfold ckE
      rw [hr]
      cases qbl text <;> rfl
    obtain rfl : num = 0 := by omega
    obtain rfl : text = [] := by rcases f3 with h | h | h; · omega
                                 · omega
                                 · exact h
    simp only
    rw [if_neg k1, if_neg k3, if_neg k2]
    by_cases k4 : kind = 4
    · subst k4
      rw [if_pos rfl]
      by_cases hg : 1 ≤ fn ∧ fn ≤ 34
      · have hr : rtB ⟨4, fn, 0, []⟩ = true := by unfold rtB; simp [hg]
        have hc : ckE ⟨4, fn, 0, []⟩ = 0 := by unfold ckE; rw [hr]; rfl
        rw [if_pos hg, hc]; rfl
      · have hr : rtB ⟨4, fn, 0, []⟩ = false := by
          unfold rtB
          rw [if_neg (by show ¬ (4 : Int) = 1; decide), if_neg (by show ¬ (4 : Int) = 2; decide), if_neg (by show ¬ (4 : Int) = 3; decide), if_pos rfl]
          exact decide_eq_false fun h => hg h.2.2
        have hc : ckE ⟨4, fn, 0, []⟩ = 1 := by unfold ckE; rw [hr]; rfl
        rw [if_neg hg, hc]; rfl
    obtain rfl : fn = 0 := by omega
    rw [if_neg k4]
    by_cases hg : 5 ≤ kind ∧ kind ≤ 20
    · have hr : rtB ⟨kind, 0, 0, []⟩ = true := by unfold rtB; simp only; rw [if_neg k1, if_neg k2, if_neg k3, if_neg k4]; exact decide_eq_true (by simpa using hg)
      have hc : ckE ⟨kind, 0, 0, []⟩ = 0 := by unfold ckE; rw [hr, if_neg (by decide), if_neg (fun h => k3 h.1)]
      have hs : spT ⟨kind, 0, 0, []⟩ = sgnB.getD (kind.toNat - 5) [] := by unfold spT; simp only; rw [if_neg k1, if_neg k2, if_neg k3, if_neg k4]
      rw [if_pos hg, hc, hs]; rfl
    · have hr : rtB ⟨kind, 0, 0, []⟩ = false := by unfold rtB; simp only; rw [if_neg k1, if_neg k2, if_neg k3, if_neg k4]; exact decide_eq_false (by simpa using hg)
      have hc : ckE ⟨kind, 0, 0, []⟩ = 1 := by unfold ckE; rw [hr]; rfl
      rw [if_neg hg, hc]; rfl
theorem ckE_cases (t : Tk) : ckE t = 0 ∨ ckE t = 1 ∨ ckE t = 7 := by unfold ckE; split <;> (try split) <;> omega
/-- What is wrong with the first word that is wrong. -/
def ckL : List Tk → Int
  | [] => 0
  | t :: r => if ckE t = 0 then ckL r else ckE t
theorem ckL_cases : ∀ ts, ckL ts = 0 ∨ ckL ts = 1 ∨ ckL ts = 7
  | [] => .inl rfl
  | t :: r => by
    unfold ckL
    split
    · exact ckL_cases r
    · exact ckE_cases t
theorem ckL_at : ∀ (ts : List Tk) (k : Nat) (d : Tk), k < ts.length → (∀ j, j < k → ckE (ts.getD j d) = 0) → ckE (ts.getD k d) ≠ 0 → ckL ts = ckE (ts.getD k d)
  | [], k, d, h, _, _ => by simp at h
  | t :: r, 0, d, _, _, h => by unfold ckL; exact if_neg h
  | t :: r, k + 1, d, h, h1, h2 => by
    unfold ckL
    have h0 : ckE t = 0 := h1 0 (by omega)
    rw [if_pos h0]
    exact ckL_at r k d (by simpa using h) (fun j hj => h1 (j + 1) (by omega)) h2
theorem ckL_none : ∀ (ts : List Tk) (d : Tk), (∀ j, j < ts.length → ckE (ts.getD j d) = 0) → ckL ts = 0
  | [], d, _ => rfl
  | t :: r, d, h => by
    unfold ckL
    have h0 : ckE t = 0 := h 0 (by simp)
    rw [if_pos h0]
    exact ckL_none r d (fun j hj => h (j + 1) (by simpa using hj))
theorem spelsN_ck : ∀ (ts : List Tk) (acc : List (List UInt8)), spelsN ts acc = if ckL ts = 0 then (if 1000 < (joinB (acc ++ ts.map spT)).length then .bad 7 else .ok (joinB (acc ++ ts.map spT))) else .bad (ckL ts)
  | [], acc => by
    rw [spelsN]
    show _ = if (0 : Int) = 0 then _ else _
    rw [if_pos rfl, List.map_nil, List.append_nil]
  | t :: r, acc => by
    rw [spelsN, spel_ck]
    unfold ckL
    by_cases h : ckE t = 0
    · rw [if_pos h, if_pos h]
      simp only
      rw [spelsN_ck r, List.append_assoc]; rfl
    · rw [if_neg h, if_neg h]
      simp only
      rw [if_neg h]
theorem spelsS_ck {ts : List Tk} (h : ts.length ≤ 200) : spelsS ts = if ckL ts = 0 then (if 1000 < (joinB (ts.map spT)).length then .bad 7 else .ok (joinB (ts.map spT))) else .bad (ckL ts) := by
  unfold spelsS
  rw [if_neg (by omega), spelsN_ck]; rfl
theorem joinB_snoc : ∀ (l : List (List UInt8)) (b : List UInt8), joinB (l ++ [b]) = if l = [] then b else joinB l ++ 32 :: b
  | [], b => rfl
  | [a], b => rfl
  | a :: c :: l, b => by
    show a ++ 32 :: joinB (c :: l ++ [b]) = _
    rw [joinB_snoc (c :: l) b, if_neg (by simp), if_neg (by simp)]
    show a ++ 32 :: (joinB (c :: l) ++ 32 :: b) = (a ++ 32 :: joinB (c :: l)) ++ 32 :: b
    simp
theorem joinB_take : ∀ (l r : List (List UInt8)), (joinB l).length ≤ (joinB (l ++ r)).length
  | [], r => Nat.zero_le _
  | [a], [] => Nat.le_refl _
  | [a], b :: r => by
    show a.length ≤ (a ++ 32 :: joinB (b :: r)).length
    rw [List.length_append]; omega
  | a :: c :: l, r => by
    show (a ++ 32 :: joinB (c :: l)).length ≤ (a ++ 32 :: joinB (c :: l ++ r)).length
    have := joinB_take (c :: l) r
    rw [List.length_append, List.length_append, List.length_cons, List.length_cons]; omega
theorem joinB_last (l r : List (List UInt8)) (b : List UInt8) : b.length ≤ (joinB (l ++ b :: r)).length := by
  have h := joinB_take (l ++ [b]) r
  rw [List.append_assoc] at h
  refine Nat.le_trans ?_ h
  rw [joinB_snoc]
  by_cases hl : l = []
  · rw [if_pos hl]; exact Nat.le_refl _
  · rw [if_neg hl, List.length_append, List.length_cons]; omega
theorem dbl_ge (l : List UInt8) : l.length ≤ (dblQ l).length := by rw [dbl_len]; omega
/-- A right word's text is no shorter than what stands in it. -/
theorem spT_ge {t : Tk} (h : ckE t = 0) : t.text.length ≤ (spT t).length := by
  obtain ⟨kind, fn, num, text⟩ := t
  have hr : rtB ⟨kind, fn, num, text⟩ = true := by
    unfold ckE at h
    by_cases e : rtB ⟨kind, fn, num, text⟩ = false
    · rw [if_pos e] at h; omega
    · simpa using e
  unfold rtB at hr
  simp only at hr
  unfold spT
  simp only
  by_cases k1 : kind = 1
  · rw [if_pos k1, decide_eq_true_iff] at hr
    rw [hr.2]; exact Nat.zero_le _
  rw [if_neg k1] at hr ⊢
  by_cases k2 : kind = 2
  · rw [if_pos k2]
    have := dbl_ge text
    rw [List.length_append, List.length_cons]; omega
  rw [if_neg k2] at hr ⊢
  by_cases k3 : kind = 3
  · rw [if_pos k3]; exact Nat.le_refl _
  rw [if_neg k3] at hr ⊢
  by_cases k4 : kind = 4
  · rw [if_pos k4, decide_eq_true_iff] at hr
    rw [hr.2.1]; exact Nat.zero_le _
  rw [if_neg k4, decide_eq_true_iff] at hr
  rw [hr.2.2.1]; exact Nat.zero_le _
end Go.Proofs.YtgjgbgllhbdodaaDoor
