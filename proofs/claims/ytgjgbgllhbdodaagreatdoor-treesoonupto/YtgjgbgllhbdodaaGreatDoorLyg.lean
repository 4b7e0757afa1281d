/-
  Lyq Lyf Lyg, together.
-/
import Derived.Test.YtgjgbgllhbdodaaGreatDoorLyp
import Derived.Test.YtgjgbgllhbdodaaGreatDoorLxs
import Derived.Lib.SmallJoins
import Derived.Lib.AppendIntMem
/-! Lyq: Plain mathematics of the words of a line: what is wrong with a word, and its text, apart; texts one behind the other. -/
namespace Go.Proofs.YtgjgbgllhbdodaaGreatDoor
open Go.Lib
set_option linter.unusedVariables false

/-- A Name, however long it is. -/
def nmB : List UInt8 → Bool
  | [] => false
  | b :: r => isLt b && (b :: r).all isPt
/-- A word that could be read, however long it is. -/
def rtB (t : Tk) : Bool :=
  if t.kind = 1 then decide (t.fn = 0 ∧ t.text = [])
  else if t.kind = 2 then decide (t.fn = 0 ∧ t.num = 0) && qbl t.text
  else if t.kind = 3 then decide (t.fn = 0 ∧ t.num = 0) && nmB t.text
  else if t.kind = 4 then decide (t.num = 0 ∧ t.text = [] ∧ 1 ≤ t.fn ∧ t.fn ≤ 34)
  else decide (t.fn = 0 ∧ t.num = 0 ∧ t.text = [] ∧ 5 ≤ t.kind ∧ t.kind ≤ 20)
/-- What is wrong with a word. -/
def ckE (t : Tk) : Int := if rtB t = false then 1 else if t.kind = 3 ∧ 12 < t.text.length then 7 else 0
/-- What a right word looks like. -/
def spT (t : Tk) : List UInt8 :=
  if t.kind = 1 then digS t.num
  else if t.kind = 2 then 39 :: dblQ t.text ++ [39]
  else if t.kind = 3 then t.text
  else if t.kind = 4 then glyB.getD (t.fn.toNat - 1) []
  else sgnB.getD (t.kind.toNat - 5) []
theorem nm_F (l : List UInt8) : namF l = if nmB l = true then (if 12 < l.length then 7 else 0) else 1 := by
  cases l with
  | nil => rfl
  | cons b r =>
    unfold namF nmB
    simp only [Bool.and_eq_true]
theorem spel_ck (t : Tk) : spelS t = if ckE t = 0 then .ok (spT t) else .bad (ckE t) := by
  obtain ⟨kind, fn, num, text⟩ := t
  have z : ∀ e : Int, e ≠ 0 → ∀ a : List UInt8, (if e = 0 then Sp.ok a else .bad e) = .bad e := fun e h a => if_neg h
  unfold spelS
  by_cases hf : fldF ⟨kind, fn, num, text⟩ = true
  · rw [if_pos hf]
    have e : rtB ⟨kind, fn, num, text⟩ = false := by
      unfold fldF at hf
      rw [Bool.or_eq_true, Bool.or_eq_true, decide_eq_true_iff, decide_eq_true_iff, decide_eq_true_iff] at hf
      simp only at hf
      unfold rtB
      simp only
      by_cases k1 : kind = 1
      · rw [if_pos k1]
        refine decide_eq_false fun h => ?_
        rcases hf with (hf | hf) | hf
        · omega
        · omega
        · exact hf.2.2 h.2
      rw [if_neg k1]
      by_cases k2 : kind = 2
      · rw [if_pos k2, decide_eq_false (by rcases hf with (hf | hf) | hf <;> omega)]; rfl
      rw [if_neg k2]
      by_cases k3 : kind = 3
      · rw [if_pos k3, decide_eq_false (by rcases hf with (hf | hf) | hf <;> omega)]; rfl
      rw [if_neg k3]
      by_cases k4 : kind = 4
      · rw [if_pos k4]
        refine decide_eq_false fun h => ?_
        rcases hf with (hf | hf) | hf
        · omega
        · omega
        · exact hf.2.2 h.2.1
      rw [if_neg k4]
      refine decide_eq_false fun h => ?_
      rcases hf with (hf | hf) | hf
      · omega
      · omega
      · exact hf.2.2 h.2.2.1
    have e2 : ckE ⟨kind, fn, num, text⟩ = 1 := by unfold ckE; rw [if_pos e]
    rw [e2]; exact (z 1 (by decide) _).symm
  · rw [if_neg hf]
    obtain ⟨f1, f2, f3⟩ := fld_no hf
    simp only at f1 f2 f3
    by_cases k1 : kind = 1
    · subst k1
      obtain rfl : fn = 0 := by omega
      obtain rfl : text = [] := by rcases f3 with h | h | h; · omega
                                   · omega
                                   · exact h
      rfl
    by_cases k3 : kind = 3
    · subst k3
      obtain rfl : fn = 0 := by omega
      obtain rfl : num = 0 := by omega
      simp only
      rw [if_neg (by decide), if_pos trivial, nm_F]
      have hr : rtB ⟨3, 0, 0, text⟩ = nmB text := by unfold rtB; simp
      have hs : spT ⟨3, 0, 0, text⟩ = text := rfl
      rw [hs]
      unfold ckE
      rw [hr]
      cases nmB text
      · rfl
      · by_cases h12 : 12 < text.length
        · simp [h12]
        · simp [h12]
    by_cases k2 : kind = 2
    · subst k2
      obtain rfl : fn = 0 := by omega
      obtain rfl : num = 0 := by omega
      simp only
      rw [if_neg (by decide), if_neg (by decide), if_pos trivial]
      have hr : rtB ⟨2, 0, 0, text⟩ = qbl text := by unfold rtB; simp
      unfold ckE
      rw [hr]
      cases qbl text <;> rfl
    obtain rfl : num = 0 := by omega
    obtain rfl : text = [] := by rcases f3 with h | h | h; · omega
                                 · omega
                                 · exact h
    simp only
    rw [if_neg k1, if_neg k3, if_neg k2]
    by_cases k4 : kind = 4
    · subst k4
      rw [if_pos rfl]
      by_cases hg : 1 ≤ fn ∧ fn ≤ 34
      · have hr : rtB ⟨4, fn, 0, []⟩ = true := by unfold rtB; simp [hg]
        have hc : ckE ⟨4, fn, 0, []⟩ = 0 := by unfold ckE; rw [hr]; rfl
        rw [if_pos hg, hc]; rfl
      · have hr : rtB ⟨4, fn, 0, []⟩ = false := by
          unfold rtB
          rw [if_neg (by show ¬ (4 : Int) = 1; decide), if_neg (by show ¬ (4 : Int) = 2; decide), if_neg (by show ¬ (4 : Int) = 3; decide), if_pos rfl]
          exact decide_eq_false fun h => hg h.2.2
        have hc : ckE ⟨4, fn, 0, []⟩ = 1 := by unfold ckE; rw [hr]; rfl
        rw [if_neg hg, hc]; rfl
    obtain rfl : fn = 0 := by omega
    rw [if_neg k4]
    by_cases hg : 5 ≤ kind ∧ kind ≤ 20
    · have hr : rtB ⟨kind, 0, 0, []⟩ = true := by unfold rtB; simp only; rw [if_neg k1, if_neg k2, if_neg k3, if_neg k4]; exact decide_eq_true (by simpa using hg)
      have hc : ckE ⟨kind, 0, 0, []⟩ = 0 := by unfold ckE; rw [hr, if_neg (by decide), if_neg (fun h => k3 h.1)]
      have hs : spT ⟨kind, 0, 0, []⟩ = sgnB.getD (kind.toNat - 5) [] := by unfold spT; simp only; rw [if_neg k1, if_neg k2, if_neg k3, if_neg k4]
      rw [if_pos hg, hc, hs]; rfl
    · have hr : rtB ⟨kind, 0, 0, []⟩ = false := by unfold rtB; simp only; rw [if_neg k1, if_neg k2, if_neg k3, if_neg k4]; exact decide_eq_false (by simpa using hg)
      have hc : ckE ⟨kind, 0, 0, []⟩ = 1 := by unfold ckE; rw [hr]; rfl
      rw [if_neg hg, hc]; rfl
theorem ckE_cases (t : Tk) : ckE t = 0 ∨ ckE t = 1 ∨ ckE t = 7 := by unfold ckE; split <;> (try split) <;> omega
/-- What is wrong with the first word that is wrong. -/
def ckL : List Tk → Int
  | [] => 0
  | t :: r => if ckE t = 0 then ckL r else ckE t
theorem ckL_cases : ∀ ts, ckL ts = 0 ∨ ckL ts = 1 ∨ ckL ts = 7
  | [] => .inl rfl
  | t :: r => by
    unfold ckL
    split
    · exact ckL_cases r
    · exact ckE_cases t
theorem ckL_at : ∀ (ts : List Tk) (k : Nat) (d : Tk), k < ts.length → (∀ j, j < k → ckE (ts.getD j d) = 0) → ckE (ts.getD k d) ≠ 0 → ckL ts = ckE (ts.getD k d)
  | [], k, d, h, _, _ => by simp at h
  | t :: r, 0, d, _, _, h => by unfold ckL; exact if_neg h
  | t :: r, k + 1, d, h, h1, h2 => by
    unfold ckL
    have h0 : ckE t = 0 := h1 0 (by omega)
    rw [if_pos h0]
    exact ckL_at r k d (by simpa using h) (fun j hj => h1 (j + 1) (by omega)) h2
theorem ckL_none : ∀ (ts : List Tk) (d : Tk), (∀ j, j < ts.length → ckE (ts.getD j d) = 0) → ckL ts = 0
  | [], d, _ => rfl
  | t :: r, d, h => by
    unfold ckL
    have h0 : ckE t = 0 := h 0 (by simp)
    rw [if_pos h0]
    exact ckL_none r d (fun j hj => h (j + 1) (by simpa using hj))
theorem spelsN_ck : ∀ (ts : List Tk) (acc : List (List UInt8)), spelsN ts acc = if ckL ts = 0 then (if 1000 < (joinB (acc ++ ts.map spT)).length then .bad 7 else .ok (joinB (acc ++ ts.map spT))) else .bad (ckL ts)
  | [], acc => by
    rw [spelsN]
    show _ = if (0 : Int) = 0 then _ else _
    rw [if_pos rfl, List.map_nil, List.append_nil]
  | t :: r, acc => by
    rw [spelsN, spel_ck]
    unfold ckL
    by_cases h : ckE t = 0
    · rw [if_pos h, if_pos h]
      simp only
      rw [spelsN_ck r, List.append_assoc]; rfl
    · rw [if_neg h, if_neg h]
      simp only
      rw [if_neg h]
theorem spelsS_ck {ts : List Tk} (h : ts.length ≤ 200) : spelsS ts = if ckL ts = 0 then (if 1000 < (joinB (ts.map spT)).length then .bad 7 else .ok (joinB (ts.map spT))) else .bad (ckL ts) := by
  unfold spelsS
  rw [if_neg (by omega), spelsN_ck]; rfl
theorem joinB_snoc : ∀ (l : List (List UInt8)) (b : List UInt8), joinB (l ++ [b]) = if l = [] then b else joinB l ++ 32 :: b
  | [], b => rfl
  | [a], b => rfl
  | a :: c :: l, b => by
    show a ++ 32 :: joinB (c :: l ++ [b]) = _
    rw [joinB_snoc (c :: l) b, if_neg (by simp), if_neg (by simp)]
    show a ++ 32 :: (joinB (c :: l) ++ 32 :: b) = (a ++ 32 :: joinB (c :: l)) ++ 32 :: b
    simp
theorem joinB_take : ∀ (l r : List (List UInt8)), (joinB l).length ≤ (joinB (l ++ r)).length
  | [], r => Nat.zero_le _
  | [a], [] => Nat.le_refl _
  | [a], b :: r => by
    show a.length ≤ (a ++ 32 :: joinB (b :: r)).length
    rw [List.length_append]; omega
  | a :: c :: l, r => by
    show (a ++ 32 :: joinB (c :: l)).length ≤ (a ++ 32 :: joinB (c :: l ++ r)).length
    have := joinB_take (c :: l) r
    rw [List.length_append, List.length_append, List.length_cons, List.length_cons]; omega
theorem joinB_last (l r : List (List UInt8)) (b : List UInt8) : b.length ≤ (joinB (l ++ b :: r)).length := by
  have h := joinB_take (l ++ [b]) r
  rw [List.append_assoc] at h
  refine Nat.le_trans ?_ h
  rw [joinB_snoc]
  by_cases hl : l = []
  · rw [if_pos hl]; exact Nat.le_refl _
  · rw [if_neg hl, List.length_append, List.length_cons]; omega
theorem dbl_ge (l : List UInt8) : l.length ≤ (dblQ l).length := by rw [dbl_len]; omega
/-- A right word's text is no shorter than what stands in it. -/
theorem spT_ge {t : Tk} (h : ckE t = 0) : t.text.length ≤ (spT t).length := by
  obtain ⟨kind, fn, num, text⟩ := t
  have hr : rtB ⟨kind, fn, num, text⟩ = true := by
    unfold ckE at h
    by_cases e : rtB ⟨kind, fn, num, text⟩ = false
    · rw [if_pos e] at h; omega
    · simpa using e
  unfold rtB at hr
  simp only at hr
  unfold spT
  simp only
  by_cases k1 : kind = 1
  · rw [if_pos k1, decide_eq_true_iff] at hr
    rw [hr.2]; exact Nat.zero_le _
  rw [if_neg k1] at hr ⊢
  by_cases k2 : kind = 2
  · rw [if_pos k2]
    have := dbl_ge text
    rw [List.length_append, List.length_cons]; omega
  rw [if_neg k2] at hr ⊢
  by_cases k3 : kind = 3
  · rw [if_pos k3]; exact Nat.le_refl _
  rw [if_neg k3] at hr ⊢
  by_cases k4 : kind = 4
  · rw [if_pos k4, decide_eq_true_iff] at hr
    rw [hr.2.1]; exact Nat.zero_le _
  rw [if_neg k4, decide_eq_true_iff] at hr
  rw [hr.2.2.1]; exact Nat.zero_le _
end Go.Proofs.YtgjgbgllhbdodaaGreatDoor
/-! Lyf: The program asks whether a word is right. -/
namespace Go.Proofs.YtgjgbgllhbdodaaGreatDoor
open Go.RowKit Go.Lib
set_option linter.unusedVariables false

def tokI (t : Tk) (a : Int) : Value := .agg #[.int .i64 t.kind, .int .i64 t.fn, .int .i64 t.num, .string ⟨t.text.toArray⟩, .int .i64 a]
theorem tok_eql (k f n : Int) (t : ByteArray) (a k' f' n' : Int) (t' : ByteArray) (a' : Int) (w : World) :
    (binOp .eql 30 (.agg #[.int .i64 k, .int .i64 f, .int .i64 n, .string t, .int .i64 a]) (.agg #[.int .i64 k', .int .i64 f', .int .i64 n', .string t', .int .i64 a'])).run Tryz.prog w = .ok (.bool (decide (k = k' ∧ f = f' ∧ n = n' ∧ t = t' ∧ a = a'))) w := by
  simp [go_sem]
  by_cases h1 : k = k'
  · by_cases h2 : f = f'
    · by_cases h3 : n = n'
      · by_cases h4 : t = t'
        · by_cases h5 : a = a' <;> simp [h1, h2, h3, h4, h5]
        · have h4' : ¬ t.toList = t'.toList := fun e => h4 (by rw [toList_data, toList_data] at e; exact ByteArray.ext (Array.toList_inj.1 e))
          simp [h1, h2, h3, h4, h4']
      · simp [h1, h2, h3]
    · simp [h1, h2]
  · simp [h1]
theorem tok_yes {k f n : Int} {t : ByteArray} {a k' f' n' : Int} {t' : ByteArray} {a' : Int} (h : k = k' ∧ f = f' ∧ n = n' ∧ t = t' ∧ a = a') (w : World) :
    (binOp .eql 30 (.agg #[.int .i64 k, .int .i64 f, .int .i64 n, .string t, .int .i64 a]) (.agg #[.int .i64 k', .int .i64 f', .int .i64 n', .string t', .int .i64 a'])).run Tryz.prog w = .ok (.bool true) w := by
  rw [tok_eql, decide_eq_true h]
theorem tok_no {k f n : Int} {t : ByteArray} {a k' f' n' : Int} {t' : ByteArray} {a' : Int} (h : ¬ (k = k' ∧ f = f' ∧ n = n' ∧ t = t' ∧ a = a')) (w : World) :
    (binOp .eql 30 (.agg #[.int .i64 k, .int .i64 f, .int .i64 n, .string t, .int .i64 a]) (.agg #[.int .i64 k', .int .i64 f', .int .i64 n', .string t', .int .i64 a'])).run Tryz.prog w = .ok (.bool false) w := by
  rw [tok_eql, decide_eq_false h]
theorem mk_nil (x : List UInt8) : (⟨x.toArray⟩ : ByteArray) = ⟨#[]⟩ ↔ x = [] := by
  constructor
  · intro h
    have := congrArg (fun b : ByteArray => b.data.toList) h
    simpa using this
  · rintro rfl; rfl
theorem nmB_cons (b : UInt8) (r : List UInt8) : nmB (b :: r) = (isLt b && (b :: r).all isPt) := rfl
theorem nm_all {b : UInt8} {l : List UInt8} (h : l.takeWhile isPt = l) : l.all isPt = true := by rw [← h]; exact tk_all isPt l
set_option maxRecDepth 100000 in
set_option maxHeartbeats 4000000 in
theorem isname_any (s : ByteArray) (hs : s.size ≤ 9223372036854775807) (w : World) :
    Calls Tryz.prog 103 #[.string s] w fun e w' => e = .returned (.bool (nmB (tl s 0))) ∧ Below w.heap.size w w' := by
  have hl := leadP s hs
  by_cases hn : s.data.toList = []
  · have HE : Hid (nmB (tl s 0) = false) := by show _ = _; rw [tl_zero, hn]; rfl
    have he : s.toList.isEmpty = true := by rw [toList_data, hn]; rfl
    clear hn hl
    go_enter Tryz.func103, Tryz.ntmps103
    go_wp2_with fail
    go_ret
    exact ⟨ret_bool HE.out.symm, Below.refl _ _⟩
  · have he := emp_no hn
    have h0 : 0 < s.size := by
      rw [size_eq]
      cases h : s.data.toList with
      | nil => exact absurd h hn
      | cons b r => simp
    have hc := tl_cons h0
    have hb := show (s.data.toList.getD 0 0).toNat = bt s 0 from rfl
    have hix := index_at s 0 0 rfl h0
    generalize s.data.toList.getD 0 0 = b at hc hb
    cases hlt : isLt b
    · have HE : Hid (nmB (tl s 0) = false) := by show _ = _; rw [hc, nmB_cons, hlt]; rfl
      have HL : Hid (ltI (bt s 0) = false) := by show _ = _; rw [← hb, ltI_is]; exact hlt
      clear hn hl hc hb hlt
      go_enter Tryz.func103, Tryz.ntmps103
      go_wp2_with fail
      refine (let_any _ _).mono ?_
      rintro e w' ⟨rfl, hw'⟩
      obtain rfl := hw'.symm
      rw [HL.out]
      go_wp2_with fail
      go_ret
      exact ⟨ret_bool HE.out.symm, Below.refl _ _⟩
    · have HL : Hid (ltI (bt s 0) = true) := by show _ = _; rw [← hb, ltI_is]; exact hlt
      by_cases hall : s.data.toList.takeWhile isPt = s.data.toList
      · have HE : Hid (nmB (tl s 0) = true) := by
          show _ = _
          have h2 := nm_all (b := b) hall
          rw [← tl_zero, hc] at h2
          rw [hc, nmB_cons, hlt, h2]; rfl
        have HS : Hid ((⟨(s.data.toList.takeWhile isPt).toArray⟩ : ByteArray) = s) := by show _ = _; rw [hall]
        rw [HS.out] at hl
        clear hn hc hb hlt hall
        go_enter Tryz.func103, Tryz.ntmps103
        go_wp2_with fail
        refine (let_any _ _).mono ?_
        rintro e w' ⟨rfl, hw'⟩
        obtain rfl := hw'.symm
        rw [HL.out]
        go_wp2_with fail
        refine (hl _).mono ?_
        rintro e w' ⟨rfl, hw'⟩
        obtain rfl := hw'.symm
        go_wp2_with fail
        go_ret
        exact ⟨ret_bool HE.out.symm, Below.refl _ _⟩
      · have HE : Hid (nmB (tl s 0) = false) := by
          show _ = _
          have h2 : (s.data.toList).all isPt = false := Bool.eq_false_iff.2 fun h => hall (tk_id isPt _ h)
          rw [← tl_zero, hc] at h2
          rw [hc, nmB_cons, hlt, h2]; rfl
        obtain ⟨q, hq⟩ : ∃ q : ByteArray, q = ⟨(s.data.toList.takeWhile isPt).toArray⟩ := ⟨_, rfl⟩
        have hne : (q.toList == s.toList) = false := by
          rw [beq_eq_false_iff_ne, toList_data, toList_data, hq]; exact hall
        rw [← hq] at hl
        clear hn hc hb hlt hall hq
        go_enter Tryz.func103, Tryz.ntmps103
        go_wp2_with fail
        refine (let_any _ _).mono ?_
        rintro e w' ⟨rfl, hw'⟩
        obtain rfl := hw'.symm
        rw [HL.out]
        go_wp2_with fail
        refine (hl _).mono ?_
        rintro e w' ⟨rfl, hw'⟩
        obtain rfl := hw'.symm
        go_wp2_with fail
        go_ret
        exact ⟨ret_bool HE.out.symm, Below.refl _ _⟩
set_option maxRecDepth 100000 in
set_option maxHeartbeats 2000000 in
theorem right_1n (f n : Int) (X : ByteArray) (B : Bool) (a : Int) (w : World) (HB : Hid (false = B)) (hv : ¬ (f = 0 ∧ X = ⟨#[]⟩)) :
    Calls Tryz.prog 66 #[.agg #[.int .i64 1, .int .i64 f, .int .i64 n, .string X, .int .i64 a]] w fun e w' => e = .returned (.bool B) ∧ Below w.heap.size w w' := by
  have he := tok_no (k := 1) (f := f) (n := n) (t := X) (a := a) (k' := 1) (f' := 0) (n' := n) (t' := ⟨#[]⟩) (a' := a) (fun h => hv (by simpa using h))
  clear hv
  go_enter Tryz.func66, Tryz.ntmps66
  go_wp2_with fail
  go_ret
  exact ⟨ret_bool HB.out, ((Below.refl _ w).alloc (Nat.le_refl _) _).alloc (by simp) _⟩
set_option maxRecDepth 100000 in
set_option maxHeartbeats 2000000 in
theorem right_1y (f n : Int) (X : ByteArray) (B : Bool) (a : Int) (w : World) (HB : Hid (true = B)) (hv : f = 0 ∧ X = ⟨#[]⟩) :
    Calls Tryz.prog 66 #[.agg #[.int .i64 1, .int .i64 f, .int .i64 n, .string X, .int .i64 a]] w fun e w' => e = .returned (.bool B) ∧ Below w.heap.size w w' := by
  have he := tok_yes (k := 1) (f := f) (n := n) (t := X) (a := a) (k' := 1) (f' := 0) (n' := n) (t' := ⟨#[]⟩) (a' := a) (by simpa using hv)
  clear hv
  go_enter Tryz.func66, Tryz.ntmps66
  go_wp2_with fail
  go_ret
  exact ⟨ret_bool HB.out, ((Below.refl _ w).alloc (Nat.le_refl _) _).alloc (by simp) _⟩
set_option maxRecDepth 100000 in
set_option maxHeartbeats 2000000 in
theorem right_2n (f n : Int) (X : ByteArray) (B : Bool) (a : Int) (w : World) (HB : Hid (false = B)) (hv : ¬ (f = 0 ∧ n = 0)) :
    Calls Tryz.prog 66 #[.agg #[.int .i64 2, .int .i64 f, .int .i64 n, .string X, .int .i64 a]] w fun e w' => e = .returned (.bool B) ∧ Below w.heap.size w w' := by
  have he := tok_no (k := 2) (f := f) (n := n) (t := X) (a := a) (k' := 2) (f' := 0) (n' := 0) (t' := X) (a' := a) (fun h => hv (by simpa using h))
  clear hv
  go_enter Tryz.func66, Tryz.ntmps66
  go_wp2_with fail
  go_ret
  exact ⟨ret_bool HB.out, ((Below.refl _ w).alloc (Nat.le_refl _) _).alloc (by simp) _⟩
set_option maxRecDepth 100000 in
set_option maxHeartbeats 2000000 in
theorem right_2y (f n : Int) (X : ByteArray) (B : Bool) (a : Int) (w : World) (HB : Hid (qbl (tl X 0) = B)) (hv : f = 0 ∧ n = 0) (hs : X.size ≤ 9223372036854775807) (hT : Lib.Utf8Tabs (Tryz.laysValid_ren.g 3) (Tryz.laysValid_ren.g 4) w) :
    Calls Tryz.prog 66 #[.agg #[.int .i64 2, .int .i64 f, .int .i64 n, .string X, .int .i64 a]] w fun e w' => e = .returned (.bool B) ∧ Below w.heap.size w w' := by
  have he := tok_yes (k := 2) (f := f) (n := n) (t := X) (a := a) (k' := 2) (f' := 0) (n' := 0) (t' := X) (a' := a) (by simpa using hv)
  obtain ⟨rfl, rfl⟩ := hv
  have HW2 : Hid (Below w.heap.size w ((w.alloc (.cells #[.int .i64 2, .int .i64 0, .int .i64 0, .string X, .int .i64 a] 30)).alloc (.cells #[.int .i64 2, .int .i64 0, .int .i64 0, .string X, .int .i64 a] 30))) := ((Below.refl _ w).alloc (Nat.le_refl _) _).alloc (by simp) _
  go_enter Tryz.func66, Tryz.ntmps66
  go_wp2_with fail
  refine (arec_any X hs _ (tabs_go hT HW2.out)).mono ?_
  rintro e w1 ⟨rfl, hB1⟩
  have HB1 : Hid (Below w.heap.size w w1) := HW2.out.trans (hB1.mono HW2.out.size)
  clear hB1
  rw [HB.out]
  go_wp2_with fail
  go_ret
  exact ⟨rfl, HB1.out⟩
set_option maxRecDepth 100000 in
set_option maxHeartbeats 2000000 in
theorem right_3n (f n : Int) (X : ByteArray) (B : Bool) (a : Int) (w : World) (HB : Hid (false = B)) (hv : ¬ (f = 0 ∧ n = 0)) :
    Calls Tryz.prog 66 #[.agg #[.int .i64 3, .int .i64 f, .int .i64 n, .string X, .int .i64 a]] w fun e w' => e = .returned (.bool B) ∧ Below w.heap.size w w' := by
  have he := tok_no (k := 3) (f := f) (n := n) (t := X) (a := a) (k' := 3) (f' := 0) (n' := 0) (t' := X) (a' := a) (fun h => hv (by simpa using h))
  clear hv
  go_enter Tryz.func66, Tryz.ntmps66
  go_wp2_with fail
  go_ret
  exact ⟨ret_bool HB.out, ((Below.refl _ w).alloc (Nat.le_refl _) _).alloc (by simp) _⟩
set_option maxRecDepth 100000 in
set_option maxHeartbeats 2000000 in
theorem right_3y (f n : Int) (X : ByteArray) (B : Bool) (a : Int) (w : World) (HB : Hid (nmB (tl X 0) = B)) (hv : f = 0 ∧ n = 0) (hs : X.size ≤ 9223372036854775807) :
    Calls Tryz.prog 66 #[.agg #[.int .i64 3, .int .i64 f, .int .i64 n, .string X, .int .i64 a]] w fun e w' => e = .returned (.bool B) ∧ Below w.heap.size w w' := by
  have he := tok_yes (k := 3) (f := f) (n := n) (t := X) (a := a) (k' := 3) (f' := 0) (n' := 0) (t' := X) (a' := a) (by simpa using hv)
  obtain ⟨rfl, rfl⟩ := hv
  have HW2 : Hid (Below w.heap.size w ((w.alloc (.cells #[.int .i64 3, .int .i64 0, .int .i64 0, .string X, .int .i64 a] 30)).alloc (.cells #[.int .i64 3, .int .i64 0, .int .i64 0, .string X, .int .i64 a] 30))) := ((Below.refl _ w).alloc (Nat.le_refl _) _).alloc (by simp) _
  go_enter Tryz.func66, Tryz.ntmps66
  go_wp2_with fail
  refine (isname_any X hs _).mono ?_
  rintro e w1 ⟨rfl, hB1⟩
  have HB1 : Hid (Below w.heap.size w w1) := HW2.out.trans (hB1.mono HW2.out.size)
  clear hB1
  rw [HB.out]
  go_wp2_with fail
  go_ret
  exact ⟨rfl, HB1.out⟩
set_option maxRecDepth 100000 in
set_option maxHeartbeats 2000000 in
theorem right_4n (f n : Int) (X : ByteArray) (B : Bool) (a : Int) (w : World) (HB : Hid (false = B)) (hv : ¬ (n = 0 ∧ X = ⟨#[]⟩)) :
    Calls Tryz.prog 66 #[.agg #[.int .i64 4, .int .i64 f, .int .i64 n, .string X, .int .i64 a]] w fun e w' => e = .returned (.bool B) ∧ Below w.heap.size w w' := by
  have he := tok_no (k := 4) (f := f) (n := n) (t := X) (a := a) (k' := 4) (f' := f) (n' := 0) (t' := ⟨#[]⟩) (a' := a) (fun h => hv (by simpa using h))
  clear hv
  go_enter Tryz.func66, Tryz.ntmps66
  go_wp2_with fail
  go_ret
  exact ⟨ret_bool HB.out, ((Below.refl _ w).alloc (Nat.le_refl _) _).alloc (by simp) _⟩
set_option maxRecDepth 100000 in
set_option maxHeartbeats 2000000 in
theorem right_4l (f n : Int) (X : ByteArray) (B : Bool) (a : Int) (w : World) (HB : Hid (false = B)) (hv : n = 0 ∧ X = ⟨#[]⟩) (h1 : ¬ 1 ≤ f) :
    Calls Tryz.prog 66 #[.agg #[.int .i64 4, .int .i64 f, .int .i64 n, .string X, .int .i64 a]] w fun e w' => e = .returned (.bool B) ∧ Below w.heap.size w w' := by
  have he := tok_yes (k := 4) (f := f) (n := n) (t := X) (a := a) (k' := 4) (f' := f) (n' := 0) (t' := ⟨#[]⟩) (a' := a) (by simpa using hv)
  clear hv
  go_enter Tryz.func66, Tryz.ntmps66
  go_wp2_with fail
  go_ret
  exact ⟨ret_bool HB.out, ((Below.refl _ w).alloc (Nat.le_refl _) _).alloc (by simp) _⟩
set_option maxRecDepth 100000 in
set_option maxHeartbeats 2000000 in
theorem right_4h (f n : Int) (X : ByteArray) (B : Bool) (a : Int) (w : World) (HB : Hid (false = B)) (hv : n = 0 ∧ X = ⟨#[]⟩) (h1 : 1 ≤ f) (h2 : ¬ f ≤ 34) :
    Calls Tryz.prog 66 #[.agg #[.int .i64 4, .int .i64 f, .int .i64 n, .string X, .int .i64 a]] w fun e w' => e = .returned (.bool B) ∧ Below w.heap.size w w' := by
  have he := tok_yes (k := 4) (f := f) (n := n) (t := X) (a := a) (k' := 4) (f' := f) (n' := 0) (t' := ⟨#[]⟩) (a' := a) (by simpa using hv)
  clear hv
  go_enter Tryz.func66, Tryz.ntmps66
  go_wp2_with fail
  go_ret
  exact ⟨ret_bool HB.out, ((Below.refl _ w).alloc (Nat.le_refl _) _).alloc (by simp) _⟩
set_option maxRecDepth 100000 in
set_option maxHeartbeats 2000000 in
theorem right_4y (f n : Int) (X : ByteArray) (B : Bool) (a : Int) (w : World) (HB : Hid (true = B)) (hv : n = 0 ∧ X = ⟨#[]⟩) (h1 : 1 ≤ f) (h2 : f ≤ 34) :
    Calls Tryz.prog 66 #[.agg #[.int .i64 4, .int .i64 f, .int .i64 n, .string X, .int .i64 a]] w fun e w' => e = .returned (.bool B) ∧ Below w.heap.size w w' := by
  have he := tok_yes (k := 4) (f := f) (n := n) (t := X) (a := a) (k' := 4) (f' := f) (n' := 0) (t' := ⟨#[]⟩) (a' := a) (by simpa using hv)
  clear hv
  go_enter Tryz.func66, Tryz.ntmps66
  go_wp2_with fail
  go_ret
  exact ⟨ret_bool HB.out, ((Below.refl _ w).alloc (Nat.le_refl _) _).alloc (by simp) _⟩
set_option maxRecDepth 100000 in
set_option maxHeartbeats 2000000 in
theorem right_kn (k f n : Int) (X : ByteArray) (B : Bool) (a : Int) (w : World) (HB : Hid (false = B)) (hv : ¬ (f = 0 ∧ n = 0 ∧ X = ⟨#[]⟩)) (hk : k ≠ 1 ∧ k ≠ 2 ∧ k ≠ 3 ∧ k ≠ 4) :
    Calls Tryz.prog 66 #[.agg #[.int .i64 k, .int .i64 f, .int .i64 n, .string X, .int .i64 a]] w fun e w' => e = .returned (.bool B) ∧ Below w.heap.size w w' := by
  have e1 : (k == 1) = false := beq_eq_false_iff_ne.2 hk.1
  have e2 : (k == 2) = false := beq_eq_false_iff_ne.2 hk.2.1
  have e3 : (k == 3) = false := beq_eq_false_iff_ne.2 hk.2.2.1
  have e4 : (k == 4) = false := beq_eq_false_iff_ne.2 hk.2.2.2
  clear hk
  have he := tok_no (k := k) (f := f) (n := n) (t := X) (a := a) (k' := k) (f' := 0) (n' := 0) (t' := ⟨#[]⟩) (a' := a) (fun h => hv (by simpa using h))
  clear hv
  go_enter Tryz.func66, Tryz.ntmps66
  go_wp2_with fail
  go_ret
  exact ⟨ret_bool HB.out, ((Below.refl _ w).alloc (Nat.le_refl _) _).alloc (by simp) _⟩
set_option maxRecDepth 100000 in
set_option maxHeartbeats 2000000 in
theorem right_kl (k f n : Int) (X : ByteArray) (B : Bool) (a : Int) (w : World) (HB : Hid (false = B)) (hv : f = 0 ∧ n = 0 ∧ X = ⟨#[]⟩) (hk : k ≠ 1 ∧ k ≠ 2 ∧ k ≠ 3 ∧ k ≠ 4) (h1 : ¬ 5 ≤ k) :
    Calls Tryz.prog 66 #[.agg #[.int .i64 k, .int .i64 f, .int .i64 n, .string X, .int .i64 a]] w fun e w' => e = .returned (.bool B) ∧ Below w.heap.size w w' := by
  have e1 : (k == 1) = false := beq_eq_false_iff_ne.2 hk.1
  have e2 : (k == 2) = false := beq_eq_false_iff_ne.2 hk.2.1
  have e3 : (k == 3) = false := beq_eq_false_iff_ne.2 hk.2.2.1
  have e4 : (k == 4) = false := beq_eq_false_iff_ne.2 hk.2.2.2
  clear hk
  have he := tok_yes (k := k) (f := f) (n := n) (t := X) (a := a) (k' := k) (f' := 0) (n' := 0) (t' := ⟨#[]⟩) (a' := a) (by simpa using hv)
  clear hv
  go_enter Tryz.func66, Tryz.ntmps66
  go_wp2_with fail
  go_ret
  exact ⟨ret_bool HB.out, ((Below.refl _ w).alloc (Nat.le_refl _) _).alloc (by simp) _⟩
set_option maxRecDepth 100000 in
set_option maxHeartbeats 2000000 in
theorem right_kh (k f n : Int) (X : ByteArray) (B : Bool) (a : Int) (w : World) (HB : Hid (false = B)) (hv : f = 0 ∧ n = 0 ∧ X = ⟨#[]⟩) (hk : k ≠ 1 ∧ k ≠ 2 ∧ k ≠ 3 ∧ k ≠ 4) (h1 : 5 ≤ k) (h2 : ¬ k ≤ 20) :
    Calls Tryz.prog 66 #[.agg #[.int .i64 k, .int .i64 f, .int .i64 n, .string X, .int .i64 a]] w fun e w' => e = .returned (.bool B) ∧ Below w.heap.size w w' := by
  have e1 : (k == 1) = false := beq_eq_false_iff_ne.2 hk.1
  have e2 : (k == 2) = false := beq_eq_false_iff_ne.2 hk.2.1
  have e3 : (k == 3) = false := beq_eq_false_iff_ne.2 hk.2.2.1
  have e4 : (k == 4) = false := beq_eq_false_iff_ne.2 hk.2.2.2
  clear hk
  have he := tok_yes (k := k) (f := f) (n := n) (t := X) (a := a) (k' := k) (f' := 0) (n' := 0) (t' := ⟨#[]⟩) (a' := a) (by simpa using hv)
  clear hv
  go_enter Tryz.func66, Tryz.ntmps66
  go_wp2_with fail
  go_ret
  exact ⟨ret_bool HB.out, ((Below.refl _ w).alloc (Nat.le_refl _) _).alloc (by simp) _⟩
set_option maxRecDepth 100000 in
set_option maxHeartbeats 2000000 in
theorem right_ky (k f n : Int) (X : ByteArray) (B : Bool) (a : Int) (w : World) (HB : Hid (true = B)) (hv : f = 0 ∧ n = 0 ∧ X = ⟨#[]⟩) (hk : k ≠ 1 ∧ k ≠ 2 ∧ k ≠ 3 ∧ k ≠ 4) (h1 : 5 ≤ k) (h2 : k ≤ 20) :
    Calls Tryz.prog 66 #[.agg #[.int .i64 k, .int .i64 f, .int .i64 n, .string X, .int .i64 a]] w fun e w' => e = .returned (.bool B) ∧ Below w.heap.size w w' := by
  have e1 : (k == 1) = false := beq_eq_false_iff_ne.2 hk.1
  have e2 : (k == 2) = false := beq_eq_false_iff_ne.2 hk.2.1
  have e3 : (k == 3) = false := beq_eq_false_iff_ne.2 hk.2.2.1
  have e4 : (k == 4) = false := beq_eq_false_iff_ne.2 hk.2.2.2
  clear hk
  have he := tok_yes (k := k) (f := f) (n := n) (t := X) (a := a) (k' := k) (f' := 0) (n' := 0) (t' := ⟨#[]⟩) (a' := a) (by simpa using hv)
  clear hv
  go_enter Tryz.func66, Tryz.ntmps66
  go_wp2_with fail
  go_ret
  exact ⟨ret_bool HB.out, ((Below.refl _ w).alloc (Nat.le_refl _) _).alloc (by simp) _⟩
theorem right_any (t : Tk) (a : Int) (hz : t.text.length ≤ 9223372036854775807) (w : World) (hT : Lib.Utf8Tabs (Tryz.laysValid_ren.g 3) (Tryz.laysValid_ren.g 4) w) :
    Calls Tryz.prog 66 #[tokI t a] w fun e w' => e = .returned (.bool (rtB t)) ∧ Below w.heap.size w w' := by
  obtain ⟨k, f, n, x⟩ := t
  simp only [tokI]
  have hX := mk_nil x
  have hx : tl (⟨x.toArray⟩ : ByteArray) 0 = x := rfl
  have hs : (⟨x.toArray⟩ : ByteArray).size ≤ 9223372036854775807 := by rw [size_mk]; exact hz
  generalize hR : rtB ⟨k, f, n, x⟩ = B
  unfold rtB at hR
  simp only at hR
  generalize (⟨x.toArray⟩ : ByteArray) = X at *
  by_cases k1 : k = 1
  · rw [if_pos k1] at hR
    subst k1
    by_cases h : f = 0 ∧ X = ⟨#[]⟩
    · exact right_1y f n X B a w (by rw [decide_eq_true ⟨h.1, hX.1 h.2⟩] at hR; exact hR) h
    · exact right_1n f n X B a w (by rw [decide_eq_false (fun g => h ⟨g.1, hX.2 g.2⟩)] at hR; exact hR) h
  rw [if_neg k1] at hR
  by_cases k2 : k = 2
  · rw [if_pos k2] at hR
    subst k2
    by_cases h : f = 0 ∧ n = 0
    · exact right_2y f n X B a w (by rw [decide_eq_true h, Bool.true_and] at hR; rw [hx]; exact hR) h hs hT
    · exact right_2n f n X B a w (by rw [decide_eq_false h, Bool.false_and] at hR; exact hR) h
  rw [if_neg k2] at hR
  by_cases k3 : k = 3
  · rw [if_pos k3] at hR
    subst k3
    by_cases h : f = 0 ∧ n = 0
    · exact right_3y f n X B a w (by rw [decide_eq_true h, Bool.true_and] at hR; rw [hx]; exact hR) h hs
    · exact right_3n f n X B a w (by rw [decide_eq_false h, Bool.false_and] at hR; exact hR) h
  rw [if_neg k3] at hR
  by_cases k4 : k = 4
  · rw [if_pos k4] at hR
    subst k4
    by_cases h : n = 0 ∧ X = ⟨#[]⟩
    · by_cases h1 : 1 ≤ f
      · by_cases h2 : f ≤ 34
        · exact right_4y f n X B a w (by rw [decide_eq_true ⟨h.1, hX.1 h.2, h1, h2⟩] at hR; exact hR) h h1 h2
        · exact right_4h f n X B a w (by rw [decide_eq_false (fun g => h2 g.2.2.2)] at hR; exact hR) h h1 h2
      · exact right_4l f n X B a w (by rw [decide_eq_false (fun g => h1 g.2.2.1)] at hR; exact hR) h h1
    · exact right_4n f n X B a w (by rw [decide_eq_false (fun g => h ⟨g.1, hX.2 g.2.1⟩)] at hR; exact hR) h
  rw [if_neg k4] at hR
  by_cases h : f = 0 ∧ n = 0 ∧ X = ⟨#[]⟩
  · by_cases h1 : 5 ≤ k
    · by_cases h2 : k ≤ 20
      · exact right_ky k f n X B a w (by rw [decide_eq_true ⟨h.1, h.2.1, hX.1 h.2.2, h1, h2⟩] at hR; exact hR) h ⟨k1, k2, k3, k4⟩ h1 h2
      · exact right_kh k f n X B a w (by rw [decide_eq_false (fun g => h2 g.2.2.2.2)] at hR; exact hR) h ⟨k1, k2, k3, k4⟩ h1 h2
    · exact right_kl k f n X B a w (by rw [decide_eq_false (fun g => h1 g.2.2.2.1)] at hR; exact hR) h ⟨k1, k2, k3, k4⟩ h1
  · exact right_kn k f n X B a w (by rw [decide_eq_false (fun g => h ⟨g.1, g.2.1, hX.2 g.2.2.1⟩)] at hR; exact hR) h ⟨k1, k2, k3, k4⟩
/-- What checking a word ends with. -/
def ChP (t : Tk) (w : World) (e : Ending) (w' : World) : Prop := Below w.heap.size w w' ∧ e = if ckE t = 0 then .returned (.tuple #[]) else panV (errT (ckE t)) 0
set_option maxRecDepth 100000 in
set_option maxHeartbeats 4000000 in
theorem check_any17 (t : Tk) (a : Int) (hz : t.text.length ≤ 9223372036854775807) (w : World) (hT : Lib.Utf8Tabs (Tryz.laysValid_ren.g 3) (Tryz.laysValid_ren.g 4) w) :
    Calls Tryz.prog 34 #[tokI t a] w (ChP t w) := by
  have HB : Hid (Below w.heap.size w (w.alloc (.cells #[.int .i64 t.kind, .int .i64 t.fn, .int .i64 t.num, .string ⟨t.text.toArray⟩, .int .i64 a] 30))) := (Below.refl _ w).alloc (Nat.le_refl _) _
  have HK : Hid (Tbx (w.alloc (.cells #[.int .i64 t.kind, .int .i64 t.fn, .int .i64 t.num, .string ⟨t.text.toArray⟩, .int .i64 a] 30)) w.heap.size (.int .i64 t.kind) (.int .i64 t.fn) (.int .i64 t.num) (.string ⟨t.text.toArray⟩) (.int .i64 a)) := Tbx.new w _ _ _ _ _
  have hc := right_any t a hz _ (tabs_go hT HB.out)
  have HX : Hid (∀ c, ckE t = c → ∀ e w', Below w.heap.size w w' ∧ e = (if c = 0 then .returned (.tuple #[]) else panV (errT c) 0) → ChP t w e w') := fun c h e w' g => by unfold ChP; rw [h]; exact g
  have hck : ckE t = if rtB t = false then 1 else if t.kind = 3 ∧ 12 < t.text.length then 7 else 0 := rfl
  have HS : Hid ((⟨t.text.toArray⟩ : ByteArray).size = t.text.length) := size_mk _
  have hs := HS.out
  obtain ⟨k, f, n, x⟩ := t
  simp only [tokI] at hc ⊢
  simp only at HK HB hck HS hs
  obtain ⟨B, hb⟩ : ∃ B, B = rtB ⟨k, f, n, x⟩ := ⟨_, rfl⟩
  rw [← hb] at hc hck
  clear hb
  generalize (⟨x.toArray⟩ : ByteArray) = X at *
  cases B
  · have HC : Hid (ckE ⟨k, f, n, x⟩ = 1) := hck
    clear hck
    go_enter Tryz.func34, Tryz.ntmps34
    go_wp2_with fail
    refine hc.mono ?_
    rintro e w1 ⟨rfl, hB1⟩
    have K := HK.out.go hB1
    have HB1 : Hid (Below w.heap.size w w1) := HB.out.trans (hB1.mono HB.out.size)
    have r0 := K.c0
    have r3 := K.c3
    clear hB1 hc
    go_wp2_with fail
    exact ⟨rfl, HX.out _ HC.out _ _ ⟨HB1.out, rfl⟩⟩
  · rw [if_neg (by decide)] at hck
    by_cases k3 : k = 3
    · by_cases h12 : 12 < x.length
      · have HC : Hid (ckE ⟨k, f, n, x⟩ = 7) := hck.trans (if_pos ⟨k3, h12⟩)
        have e3 : (k == 3) = true := by rw [beq_iff_eq]; exact k3
        have h13 : (12 : Int) < (X.size : Int) := by omega
        clear hck k3
        go_enter Tryz.func34, Tryz.ntmps34
        go_wp2_with fail
        refine hc.mono ?_
        rintro e w1 ⟨rfl, hB1⟩
        have K := HK.out.go hB1
        have HB1 : Hid (Below w.heap.size w w1) := HB.out.trans (hB1.mono HB.out.size)
        have r0 := K.c0
        have r3 := K.c3
        clear hB1 hc
        go_wp2_with fail
        exact ⟨rfl, HX.out _ HC.out _ _ ⟨HB1.out, rfl⟩⟩
      · have HC : Hid (ckE ⟨k, f, n, x⟩ = 0) := hck.trans (if_neg (fun h => h12 h.2))
        have e3 : (k == 3) = true := by rw [beq_iff_eq]; exact k3
        have h13 : ¬ (12 : Int) < (X.size : Int) := by omega
        clear hck k3
        go_enter Tryz.func34, Tryz.ntmps34
        go_wp2_with fail
        refine hc.mono ?_
        rintro e w1 ⟨rfl, hB1⟩
        have K := HK.out.go hB1
        have HB1 : Hid (Below w.heap.size w w1) := HB.out.trans (hB1.mono HB.out.size)
        have r0 := K.c0
        have r3 := K.c3
        clear hB1 hc
        go_wp2_with fail
        exact bodyPost_ret (v := .tuple #[]) (by simp [results, Tryz.results34]; done) rfl (HX.out _ HC.out _ _ ⟨HB1.out, rfl⟩)
    · have HC : Hid (ckE ⟨k, f, n, x⟩ = 0) := hck.trans (if_neg (fun h => k3 h.1))
      have e3 : (k == 3) = false := beq_eq_false_iff_ne.2 k3
      clear hck k3
      go_enter Tryz.func34, Tryz.ntmps34
      go_wp2_with fail
      refine hc.mono ?_
      rintro e w1 ⟨rfl, hB1⟩
      have K := HK.out.go hB1
      have HB1 : Hid (Below w.heap.size w w1) := HB.out.trans (hB1.mono HB.out.size)
      have r0 := K.c0
      have r3 := K.c3
      clear hB1 hc
      go_wp2_with fail
      exact bodyPost_ret (v := .tuple #[]) (by simp [results, Tryz.results34]; done) rfl (HX.out _ HC.out _ _ ⟨HB1.out, rfl⟩)
end Go.Proofs.YtgjgbgllhbdodaaGreatDoor
/-! Lyg: The program's sign at a place; what the texts of numbers lean on; a word's text. -/
namespace Go.Proofs.YtgjgbgllhbdodaaGreatDoor
open Go.RowKit Go.Lib
set_option linter.unusedVariables false

theorem signs_enc : (∀ k, k < 34 → (Utf8.encode (glyR.getD k 0)).data.toList = glyB.getD k []) ∧ (∀ k, k < 16 → (Utf8.encode (sgnR.getD k 0)).data.toList = sgnB.getD k []) := by
  constructor <;> decide +kernel
set_option maxRecDepth 100000 in
set_option maxHeartbeats 4000000 in
theorem signat_any (K : Nat) (s : ByteArray) (hs : s.size ≤ 100000) (hv : validD (tl s 0) = true) (hK : K < (runesL (tl s 0)).length) (w : World) :
    Calls Tryz.prog 108 #[.int .i64 (K : Int), .string s] w fun e w' => e = .returned (.string (Utf8.encode ((runesL (tl s 0)).getD K 0))) ∧ Below w.heap.size w w' := by
  have HV : Hid (validD (tl s 0) = true) := hv
  have hKs : K < 100000 := by
    have := runesL_le _ (tl s 0) (Nat.le_refl _)
    rw [tl_len] at this; omega
  clear hv
  go_enter Tryz.func108, Tryz.ntmps108
  go_wp2_with fail
  go_loopw [0] (fun v wr => ∃ (pos : Nat) (xs : List Int), Hid (Rd s pos xs) ∧ xs.length ≤ K ∧ v = .int .i64 ((K - xs.length : Nat) : Int) ∧ wr.heap[w.heap.size]? = some (.stringIter s pos) ∧ Below w.heap.size w wr) (fun _ wr => s.size - wr.iterPos w.heap.size)
  case atStart =>
    exact ⟨0, [], Rd.zero s, Nat.zero_le _, rfl, World.iter_heap w s 0, (Below.refl _ w).alloc (Nat.le_refl _) _⟩
  case round =>
    obtain ⟨pos, xs, HR, hxK, rfl, hit, hB⟩ := hrel
    have HB : Hid (Below w.heap.size w wr) := hB
    clear hB
    have hp : pos < s.size := by
      rcases Nat.lt_or_ge pos s.size with h | h
      · exact h
      · have := HR.out.done (by omega : ¬ pos < s.size)
        rw [this] at hK; omega
    obtain ⟨c, m, hd, hc, hok⟩ := HR.out.step hp HV.out
    have hnx : ∀ ty, (Instr.next (.pointer (some ⟨w.heap.size, 0, none⟩)) true ty).run Tryz.prog wr = _ := fun ty => Lib.run_next_any_at wr w.heap.size s pos ty hit hp
    rw [hd] at hnx
    dsimp only at hnx
    have hit2 := Lib.iterAt_heap wr w.heap.size s pos (pos + (m + 1)) hit
    have hB2 : Hid (Below w.heap.size w (wr.iterAt w.heap.size s (pos + (m + 1)))) := Lib.below_iterAt HB.out (k := w.heap.size) (Nat.le_refl _) s (pos + (m + 1))
    have HX : Hid (Rd s (pos + (m + 1)) (xs ++ [(c : Int)])) := HR.out.next hp hok
    have HI : Hid (wr.heap[w.heap.size]? = some (.stringIter s pos)) := hit
    have HRR : Hid (runesL (tl s 0) = xs ++ (c : Int) :: runesL (tl s (pos + (m + 1)))) := by
      show _ = _
      rw [HR.out.2.1, hok.runes hp]
    clear hok hd hit hK
    obtain ⟨wi, hwi⟩ : ∃ wi, wi = wr.iterAt w.heap.size s (pos + (m + 1)) := ⟨_, rfl⟩
    rw [← hwi] at hnx hit2 hB2
    clear hwi
    by_cases he : xs.length = K
    · have HE : Hid (Utf8.encode ((runesL (tl s 0)).getD K 0) = Utf8.encode (c : Int)) := by
        show _ = _
        rw [HRR.out, ← he, List.getD_eq_getElem?_getD, List.getElem?_append_right (Nat.le_refl _), Nat.sub_self]; rfl
      have te : (((K - xs.length : Nat) : Int) == 0) = true := by rw [beq_iff_eq]; omega
      clear he
      go_wp2_with fail
      go_ret
      exact ⟨by rw [HE.out]; rfl, hB2.out⟩
    · have te : (((K - xs.length : Nat) : Int) == 0) = false := by rw [beq_eq_false_iff_ne]; omega
      have hn : ((K - xs.length : Nat) : Int) - 1 = ((K - (xs ++ [(c : Int)]).length : Nat) : Int) := by rw [List.length_append, List.length_singleton]; omega
      have hl : (xs ++ [(c : Int)]).length ≤ K := by rw [List.length_append, List.length_singleton]; omega
      clear he
      generalize hys : xs ++ [(c : Int)] = ys at *
      clear hys
      go_wp2_with fail
      refine ⟨⟨pos + (m + 1), ys, HX, hl, rfl, hit2, hB2.out⟩, ?_⟩
      simp only [World.iterPos, hit2, HI.out]
      omega
theorem signat_gly (K : Nat) (hK : K < 34) (s : ByteArray) (h : s.data.toList = glyB.flatten) (w : World) :
    Calls Tryz.prog 108 #[.int .i64 (K : Int), .string s] w fun e w' => e = .returned (.string ⟨(glyB.getD K []).toArray⟩) ∧ Below w.heap.size w w' := by
  have hz : s.size ≤ 100000 := by rw [size_eq, h]; decide
  have hc : runesL (tl s 0) = glyR := by rw [tl_zero, h]; exact gly_const.2
  have := signat_any K s hz (by rw [tl_zero, h]; exact gly_const.1) (by rw [hc]; exact hK) w
  rw [hc, show Utf8.encode (glyR.getD K 0) = ⟨(glyB.getD K []).toArray⟩ by rw [← signs_enc.1 K hK]] at this
  exact this
theorem signat_sgn (K : Nat) (hK : K < 16) (s : ByteArray) (h : s.data.toList = sgnB.flatten) (w : World) :
    Calls Tryz.prog 108 #[.int .i64 (K : Int), .string s] w fun e w' => e = .returned (.string ⟨(sgnB.getD K []).toArray⟩) ∧ Below w.heap.size w w' := by
  have hz : s.size ≤ 100000 := by rw [size_eq, h]; decide
  have hc : runesL (tl s 0) = sgnR := by rw [tl_zero, h]; exact sgn_const.2
  have := signat_any K s hz (by rw [tl_zero, h]; exact sgn_const.1) (by rw [hc]; exact hK) w
  rw [hc, show Utf8.encode (sgnR.getD K 0) = ⟨(sgnB.getD K []).toArray⟩ by rw [← signs_enc.2 K hK]] at this
  exact this
/-- The library's variables that the texts of numbers and of quotes lean on. -/
def Spl (w : World) : Prop := (∃ nm, Tryz.prog.globalNamed nm = some 6 ∧ Lib.TabIs Tryz.prog w nm .u64 Lib.pow10Tab) ∧ ∃ m : Int, w.cell? ⟨3, 0, none⟩ = some (.int .i64 m)
theorem Spl.go {w w' : World} (h : Spl w) (hB : Below w.heap.size w w') : Spl w' := by
  obtain ⟨⟨nm, h1, h2⟩, m, h3⟩ := h
  exact ⟨⟨nm, h1, Go.Joins.var_stays h1 h2 hB (Nat.le_refl _)⟩, m, (hB.cell (p := ⟨3, 0, none⟩) (World.block_lt_of_cell? w _ h3)).trans h3⟩
theorem tab_any {w : World} (h : Spl w) (nm : String) (hn : Tryz.prog.globalNamed nm = some 6) : Lib.TabIs Tryz.prog w nm .u64 Lib.pow10Tab := by
  obtain ⟨⟨nm', h1, h2⟩, _⟩ := h
  unfold Lib.TabIs World.var? at h2 ⊢
  rw [h1] at h2
  rw [hn]; exact h2
theorem itoa_any17 (n : Int) (hn : InR n) (w : World) (h : Spl w) :
    Calls Tryz.prog 106 #[.int .i64 n] w fun e w' => e = .returned (.string ⟨(Lib.itoa n).toArray⟩) ∧ Below w.heap.size w w' := by
  refine (Any.strconv_Itoa Tryz.laysM171 n hn.1 hn.2 w (tab_any h _ (by kernel_rfl))).mono ?_
  rintro e w' ⟨rfl, k, os, rfl⟩
  exact ⟨rfl, Lib.below_grow _ w (Nat.le_refl _) k os⟩
theorem repl_any17 (n : Int) (hn : InR n) (s : ByteArray) (hS : s = ⟨(Lib.itoa n).toArray⟩) (w : World) (h : Spl w) :
    Calls Tryz.prog 105 #[.string s, .string ⟨#[45]⟩, .string ⟨#[194, 175]⟩, .int .i64 1] w fun e w' => e = .returned (.string ⟨(digS n).toArray⟩) ∧ Below w.heap.size w w' := by
  obtain ⟨_, m, hm⟩ := h
  have hl := itoa_length_le n hn.1 hn.2
  have hsz : s.size = (Lib.itoa n).length := by rw [hS, size_mk]
  have hcn := count_le s.data.toList [45]
  rw [← size_eq] at hcn
  have hc := Tryz.strings_Replace s ⟨#[45]⟩ ⟨#[194, 175]⟩ 1 m w (by omega) hm (by decide) (by
    show s.size + Lib.count s.data.toList [45] * 2 ≤ _
    omega)
  rw [show Lib.replace s.data.toList ((⟨#[45]⟩ : ByteArray).data.toList) ((⟨#[194, 175]⟩ : ByteArray).data.toList) 1 = digS n by rw [hS]; exact rep_dig n] at hc
  exact hc
theorem repa_any17 (s : ByteArray) (hs : s.size ≤ 1000000) (w : World) (h : Spl w) :
    Calls Tryz.prog 107 #[.string s, .string ⟨#[39]⟩, .string ⟨#[39, 39]⟩] w fun e w' => e = .returned (.string ⟨(dblQ s.data.toList).toArray⟩) ∧ Below w.heap.size w w' := by
  obtain ⟨_, m, hm⟩ := h
  have hcn := count_le s.data.toList [39]
  rw [← size_eq] at hcn
  have hc := Tryz.strings_ReplaceAll s ⟨#[39]⟩ ⟨#[39, 39]⟩ m w (by omega) hm (by decide) (by
    show s.size + Lib.count s.data.toList [39] * 2 ≤ _
    omega)
  rw [show Lib.replaceAll s.data.toList ((⟨#[39]⟩ : ByteArray).data.toList) ((⟨#[39, 39]⟩ : ByteArray).data.toList) = dblQ s.data.toList from rep_dbl _] at hc
  exact hc
end Go.Proofs.YtgjgbgllhbdodaaGreatDoor
