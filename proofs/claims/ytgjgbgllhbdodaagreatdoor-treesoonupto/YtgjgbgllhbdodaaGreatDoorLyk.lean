/-
  Lyc Lyk, together.
-/
import Derived.Test.YtgjgbgllhbdodaaGreatDoorLyb
import Derived.Test.YtgjgbgllhbdodaaGreatDoorLyj
/-! Lyc: The reference reads Chars. -/
namespace Go.Proofs.YtgjgbgllhbdodaaGreatDoor
open Go.RowKit Go.Lib
set_option linter.unusedVariables false

def tokZ : Value := .agg #[.int .i64 0, .int .i64 0, .int .i64 0, .string ⟨#[]⟩, .int .i64 0]
/-- What the reference tells of a word. -/
def RwP (W : Wd) (i : Nat) (w : World) (e : Ending) (w' : World) : Prop :=
  Below w.heap.size w w' ∧ match W with
    | Except.ok (t, n) => e = .returned (.tuple #[tokV t i, .int .i64 ((i + n : Nat) : Int), .int .i64 0])
    | Except.error c => e = .returned (.tuple #[tokZ, .int .i64 0, .int .i64 c])
theorem bt_getD (s : ByteArray) (i : Nat) : (s.data.toList.getD i 0).toNat = bt s i := rfl
/-- What has been read of Chars, byte by byte. -/
def Qr (s : ByteArray) (i j : Nat) (txt : List UInt8) : Prop :=
  i + 1 ≤ j ∧ j ≤ s.size ∧ qt (tl s (i + 1)) = (qt (tl s j)).map (fun x => (txt ++ x.1, j - (i + 1) + x.2))
theorem Qr.zero {s : ByteArray} {i : Nat} (hi : i < s.size) : Qr s i (i + 1) [] := by
  refine ⟨Nat.le_refl _, hi, ?_⟩
  rw [Nat.sub_self]
  cases qt (tl s (i + 1)) with
  | none => rfl
  | some x => rw [Option.map_some, List.nil_append, Nat.zero_add]
theorem Qr.no {s : ByteArray} {i j : Nat} {txt : List UInt8} (h : Qr s i j txt) (hj : ¬ j < s.size) : chrS (tl s (i + 1)) = .bad 1 := by
  refine chrS_none ?_
  rw [h.2.2, tl_end hj]; rfl
theorem Qr.one {s : ByteArray} {i j : Nat} {txt : List UInt8} (h : Qr s i j txt) (hj : j < s.size) (hb : bt s j ≠ 39) : Qr s i (j + 1) (txt ++ [s.data.toList.getD j 0]) := by
  obtain ⟨h1, h2, h3⟩ := h
  refine ⟨by omega, hj, ?_⟩
  rw [h3, tl_cons hj, qt_cons_ne (show ¬ _ = 39 from hb)]
  cases qt (tl s (j + 1)) with
  | none => rfl
  | some x => simp only [Option.map_some, List.append_assoc, List.cons_append, List.nil_append]; rw [show j - (i + 1) + (x.2 + 1) = j + 1 - (i + 1) + x.2 by omega]
theorem Qr.two {s : ByteArray} {i j : Nat} {txt : List UInt8} (h : Qr s i j txt) (hj : j + 1 < s.size) (hb : bt s j = 39) (hc : bt s (j + 1) = 39) : Qr s i (j + 2) (txt ++ [39]) := by
  obtain ⟨h1, h2, h3⟩ := h
  refine ⟨by omega, by omega, ?_⟩
  rw [h3, tl_cons (show j < s.size by omega), tl_cons hj, qt_two (show _ = 39 from hb) (show _ = 39 from hc)]
  show _ = (qt (tl s (j + 1 + 1))).map _
  cases qt (tl s (j + 1 + 1)) with
  | none => rfl
  | some x => simp only [Option.map_some, List.append_assoc, List.cons_append, List.nil_append]; rw [show j - (i + 1) + (x.2 + 2) = j + 2 - (i + 1) + x.2 by omega]
theorem Qr.fin {s : ByteArray} {i j : Nat} {txt : List UInt8} (h : Qr s i j txt) (hj : j < s.size) (hb : bt s j = 39) (hc : ¬ j + 1 < s.size ∨ bt s (j + 1) ≠ 39) :
    chrS (tl s (i + 1)) = if qbl txt = true then .ok ⟨2, 0, 0, txt⟩ (j + 1 - i) else .bad 1 := by
  obtain ⟨h1, h2, h3⟩ := h
  have hend : qt (tl s j) = some ([], 1) := by
    rw [tl_cons hj]
    by_cases hlt : j + 1 < s.size
    · rw [tl_cons hlt]
      exact qt_end (show _ = 39 from hb) (show ¬ _ = 39 from hc.resolve_left (fun h => h hlt))
    · rw [tl_end hlt]; exact qt_one (show _ = 39 from hb)
  have he : qt (tl s (i + 1)) = some (txt, j - (i + 1) + 1) := by
    rw [h3, hend]; simp only [Option.map_some, List.append_nil]
  rw [chrS_some he, show j - (i + 1) + 1 + 1 = j + 1 - i by omega]
theorem cat_byte {T s : ByteArray} {j : Nat} (hj : j < s.size) : (T ++ s.extract j (j + 1)).data.toList = T.data.toList ++ [s.data.toList.getD j 0] := by
  have hl : j < s.data.toList.length := by rw [← size_eq]; exact hj
  rw [ByteArray.data_append, Array.toList_append, extract_data, Nat.add_sub_cancel_left, List.drop_eq_getElem_cons hl, List.getD_eq_getElem?_getD, List.getElem?_eq_getElem hl]; rfl
theorem cat_quote (T : ByteArray) : (T ++ (⟨#[39]⟩ : ByteArray)).data.toList = T.data.toList ++ [39] := by
  rw [ByteArray.data_append, Array.toList_append]
end Go.Proofs.YtgjgbgllhbdodaaGreatDoor
/-! Lyk: What is read is no longer than the line; the statements' words as if each began at byte 0. -/
namespace Go.Proofs.YtgjgbgllhbdodaaGreatDoor
open Go.RowKit Go.Lib
set_option linter.unusedVariables false

theorem qt_text : ∀ (N : Nat) (l : List UInt8) (t : List UInt8) (n : Nat), l.length ≤ N → qt l = some (t, n) → t.length ≤ n
  | N, [], t, n, _, h => by cases h
  | 0, b :: l, t, n, hN, h => by simp at hN
  | N + 1, b :: l, t, n, hN, h => by
    rw [List.length_cons] at hN
    by_cases hb : b.toNat = 39
    · cases l with
      | nil =>
        rw [qt_one hb] at h
        obtain ⟨rfl, rfl⟩ := Prod.mk.inj (Option.some.inj h)
        exact Nat.zero_le _
      | cons c l' =>
        by_cases hc : c.toNat = 39
        · rw [qt_two hb hc] at h
          rw [List.length_cons] at hN
          cases hq : qt l' with
          | none => rw [hq] at h; cases h
          | some x =>
            rw [hq] at h
            obtain ⟨rfl, rfl⟩ := Prod.mk.inj (Option.some.inj h)
            have := qt_text N l' x.1 x.2 (by omega) hq
            show (39 :: x.1).length ≤ x.2 + 2
            rw [List.length_cons]; omega
        · rw [qt_end hb hc] at h
          obtain ⟨rfl, rfl⟩ := Prod.mk.inj (Option.some.inj h)
          exact Nat.zero_le _
    · rw [qt_cons_ne hb] at h
      cases hq : qt l with
      | none => rw [hq] at h; cases h
      | some x =>
        rw [hq] at h
        obtain ⟨rfl, rfl⟩ := Prod.mk.inj (Option.some.inj h)
        have := qt_text N l x.1 x.2 (by omega) hq
        show (b :: x.1).length ≤ x.2 + 1
        rw [List.length_cons]; omega
theorem word_text {l : List UInt8} {t : Tk} {n : Nat} (h : wordS l = .ok t n) : t.text.length ≤ n := by
  have num : ∀ {m : Bool} {ds : List UInt8} {k : Nat}, numS m ds k = .ok t n → t.text.length ≤ n := by
    intro m ds k h
    obtain ⟨_, _, rfl⟩ := numS_ok h
    exact Nat.zero_le _
  by_cases hm : minusB.isPrefixOf l = true
  · obtain ⟨q, rfl⟩ := minus_split hm
    rw [wordS_minus] at h
    split at h
    · cases h
    · exact num h
  · cases l with
    | nil => unfold wordS at h; rw [if_neg hm] at h; cases h
    | cons b q =>
      rw [wordS_cons (Bool.eq_false_iff.2 hm)] at h
      by_cases hd : isDg b = true
      · rw [if_pos hd] at h; exact num h
      rw [if_neg hd] at h
      by_cases hl : isLt b = true
      · rw [if_pos hl] at h
        split at h
        · cases h
        · obtain ⟨rfl, rfl⟩ := Wd.ok_inj h
          exact Nat.le_refl _
      rw [if_neg hl] at h
      by_cases hq : b.toNat = 39
      · rw [if_pos hq] at h
        obtain ⟨u, k, hqq, rfl, _, rfl⟩ := chrS_ok h
        have := qt_text _ _ _ _ (Nat.le_refl _) hqq
        show u.length ≤ k + 1
        omega
      rw [if_neg hq] at h
      rcases sigS_ok h with ⟨k, hk, hf, rfl⟩ | ⟨k, hk, _, hf, rfl⟩
      · exact Nat.zero_le _
      · exact Nat.zero_le _
theorem line_err {l : List UInt8} {i : Nat} {c : Int} (h : lineS l = .bad i c) : c ≠ 0 := by
  have go : ∀ (N : Nat) (l : List UInt8) (i0 : Nat) (ws : List (Tk × Nat)), l.length ≤ N → lineF l i0 ws = .bad i c → c ≠ 0 := by
    intro N
    induction N with
    | zero =>
      intro l i0 ws hN h
      have e : l = [] := List.length_eq_zero_iff.1 (by omega)
      subst e; cases h
    | succ N ih =>
      intro l i0 ws hN h
      rcases line_cases l ws with rfl | hr | ⟨b, q, rfl, hb⟩ | ⟨b, q, rfl, h1, h2, ⟨e, hw⟩ | ⟨t, n, hw, h3 | h3⟩⟩
      · cases h
      · rw [lineF_rem hr] at h; cases h
      · rw [lineF_blank hb] at h
        exact ih q _ ws (by simpa using hN) h
      · rw [lineF_bad h1 h2 hw] at h
        have := word_err hw
        cases h; omega
      · rw [lineF_full h1 h2 hw _ _ h3] at h
        cases h; decide
      · rw [lineF_word h1 h2 hw _ _ h3] at h
        have hn := word_len hw
        rw [List.length_cons] at hN hn
        exact ih _ _ _ (by rw [List.length_drop, List.length_cons]; omega) h
  unfold lineS at h
  split at h
  · cases h; decide
  · exact go l.length l 0 [] (Nat.le_refl _) h
theorem line_texts : ∀ (N M : Nat) (l : List UInt8) (i : Nat) (ws out : List (Tk × Nat)), l.length ≤ N → l.length ≤ M → (∀ v ∈ ws, v.1.text.length ≤ M) → lineF l i ws = .ok out → ∀ v ∈ out, v.1.text.length ≤ M
  | N, M, l, i, ws, out, hN, hM, hw0, h => by
    rcases line_cases l ws with rfl | hr | ⟨b, q, rfl, hb⟩ | ⟨b, q, rfl, h1, h2, ⟨e, hw⟩ | ⟨t, n, hw, h3 | h3⟩⟩
    · rw [← Ln.ok_inj h]; exact hw0
    · rw [lineF_rem hr] at h
      rw [← Ln.ok_inj h]; exact hw0
    · cases N with
      | zero => simp at hN
      | succ N =>
        rw [lineF_blank hb] at h
        rw [List.length_cons] at hN hM
        exact line_texts N M q (i + 1) ws out (by omega) (by omega) hw0 h
    · rw [lineF_bad h1 h2 hw] at h; cases h
    · rw [lineF_full h1 h2 hw _ _ h3] at h; cases h
    · cases N with
      | zero => simp at hN
      | succ N =>
        rw [lineF_word h1 h2 hw _ _ h3] at h
        have hn := word_len hw
        have ht := word_text hw
        rw [List.length_cons] at hN hn hM
        refine line_texts N M _ (i + n) (ws ++ [(t, i)]) out (by rw [List.length_drop, List.length_cons]; omega) (by rw [List.length_drop, List.length_cons]; omega) (fun v hv => ?_) h
        rcases List.mem_append.1 hv with hv | hv
        · exact hw0 v hv
        · rw [List.mem_singleton] at hv
          rw [hv]; show t.text.length ≤ M; omega
theorem line_short {l : List UInt8} {ws : List (Tk × Nat)} (h : lineS l = .ok ws) : ∀ v ∈ ws, v.1.text.length ≤ 1000 := by
  unfold lineS at h
  split at h
  · cases h
  · exact line_texts l.length 1000 l 0 [] ws (Nat.le_refl _) (by omega) (by simp) h
theorem bt_at0 (s : ByteArray) (k : Nat) : ((tl s 0).getD k 0).toNat = bt s k := rfl
theorem rdA_at {ws : List (Tk × Nat)} {j : Nat} (hj : j < ws.length) : tkz (rdA ws) j = (ws[j].1, (ws[j].2 : Int)) := by
  rw [tkz_get (by rw [rdA_length]; exact hj)]
  unfold rdA
  rw [List.getElem_map]
theorem rdA_fst (ws : List (Tk × Nat)) : (rdA ws).map Prod.fst = ws.map Prod.fst := by unfold rdA; rw [List.map_map]; rfl
/-- Words as if each began at byte 0. -/
def barA (ts : List TkA) : List TkA := ts.map fun b => (b.1, 0)
theorem barA_length (ts : List TkA) : (barA ts).length = ts.length := by unfold barA; simp
theorem barA_take {ts : List TkA} {k : Nat} (hk : k < ts.length) : barA (ts.take (k + 1)) = barA (ts.take k) ++ [((tkz ts k).1, 0)] := by
  unfold barA; rw [List.take_succ_eq_append_getElem hk, List.map_append, tkz_get hk]; rfl
theorem barA_eq {ts us : List TkA} (h : ts.map Prod.fst = us.map Prod.fst) : barA ts = barA us := by
  have e : ∀ l : List TkA, barA l = (l.map Prod.fst).map fun t => (t, (0 : Int)) := fun l => by unfold barA; rw [List.map_map]; rfl
  rw [e, e, h]
def BareP (ts : List TkA) (w : World) (e : Ending) (w' : World) : Prop := ∃ a cap, e = .returned (.slice a ts.length cap) ∧ IsTk w'.heap.size w' a (barA ts) ∧ Below w.heap.size w w'
end Go.Proofs.YtgjgbgllhbdodaaGreatDoor
