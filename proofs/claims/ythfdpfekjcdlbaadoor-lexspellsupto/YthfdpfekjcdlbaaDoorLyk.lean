/-
  What is read is no longer than the line; the statements' words as if each began at byte 0.
-/
import Derived.Test.YthfdpfekjcdlbaaDoorLyj
namespace Go.Proofs.YthfdpfekjcdlbaaDoor
open Go.RowKit Go.Lib
set_option linter.unusedVariables false

theorem qt_text : ∀ (N : Nat) (l : List UInt8) (t : List UInt8) (n : Nat), l.length ≤ N → qt l = some (t, n) → t.length ≤ n
  | N, [], t, n, _, h => by cases h
  | 0, b :: l, t, n, hN, h => by simp at hN
  | N + 1, b :: l, t, n, hN, h => by
    rw [List.length_cons] at hN
    by_cases hb : b.toNat = 39
    · cases l with
      | nil =>
        rw [qt_one hb] at h
        obtain ⟨rfl, rfl⟩ := Prod.mk.inj (Option.some.inj h)
        exact Nat.zero_le _
      | cons c l' =>
        by_cases hc : c.toNat = 39
        · rw [qt_two hb hc] at h
          rw [List.length_cons] at hN
          cases hq : qt l' with
          | none => rw [hq] at h; cases h
          | some x =>
            rw [hq] at h
            obtain ⟨rfl, rfl⟩ := Prod.mk.inj (Option.some.inj h)
            have := qt_text N l' x.1 x.2 (by omega) hq
            show (39 :: x.1).length ≤ x.2 + 2
            rw [List.length_cons]; omega
        · rw [qt_end hb hc] at h
          obtain ⟨rfl, rfl⟩ := Prod.mk.inj (Option.some.inj h)
          exact Nat.zero_le _
    · rw [qt_cons_ne hb] at h
      cases hq : qt l with
      | none => rw [hq] at h; cases h
      | some x =>
        rw [hq] at h
        obtain ⟨rfl, rfl⟩ := Prod.mk.inj (Option.some.inj h)
        have := qt_text N l x.1 x.2 (by omega) hq
        show (b :: x.1).length ≤ x.2 + 1
        rw [List.length_cons]; omega
theorem word_text {l : List UInt8} {t : Tk} {n : Nat} (h : wordS l = .ok t n) : t.text.length ≤ n := by
  have num : ∀ {m : Bool} {ds : List UInt8} {k : Nat}, numS m ds k = .ok t n → t.text.length ≤ n := by
    intro m ds k h
    obtain ⟨_, _, rfl⟩ := numS_ok h
    exact Nat.zero_le _
  by_cases hm : minusB.isPrefixOf l = true
  · obtain ⟨q, rfl⟩ := minus_split hm
    rw [wordS_minus] at h
    split at h
    · cases h
    · exact num h
  · cases l with
    | nil => unfold wordS at h; rw [if_neg hm] at h; cases h
    | cons b q =>
      rw [wordS_cons (Bool.eq_false_iff.2 hm)] at h
      by_cases hd : isDg b = true
      · rw [if_pos hd] at h; exact num h
      rw [if_neg hd] at h
      by_cases hl : isLt b = true
      · rw [if_pos hl] at h
        split at h
        · cases h
        · obtain ⟨rfl, rfl⟩ := Wd.ok_inj h
          exact Nat.le_refl _
      rw [if_neg hl] at h
      by_cases hq : b.toNat = 39
      · rw [if_pos hq] at h
        obtain ⟨u, k, hqq, rfl, _, rfl⟩ := chrS_ok h
        have := qt_text _ _ _ _ (Nat.le_refl _) hqq
        show u.length ≤ k + 1
        omega
      rw [if_neg hq] at h
      rcases sigS_ok h with ⟨k, hk, hf, rfl⟩ | ⟨k, hk, _, hf, rfl⟩
      · exact Nat.zero_le _
      · exact Nat.zero_le _
theorem line_err {l : List UInt8} {i : Nat} {c : Int} (h : lineS l = .bad i c) : c ≠ 0 := by
  have go : ∀ (N : Nat) (l : List UInt8) (i0 : Nat) (ws : List (Tk × Nat)), l.length ≤ N → lineF l i0 ws = .bad i c → c ≠ 0 := by
    intro N
    induction N with
    | zero =>
      intro l i0 ws hN h
      have e : l = [] := List.length_eq_zero_iff.1 (by omega)
      subst e; cases h
    | succ N ih =>
      intro l i0 ws hN h
      rcases line_cases l ws with rfl | hr | ⟨b, q, rfl, hb⟩ | ⟨b, q, rfl, h1, h2, ⟨e, hw⟩ | ⟨t, n, hw, h3 | h3⟩⟩
      · cases h
      · rw [lineF_rem hr] at h; cases h
      · rw [lineF_blank hb] at h
        exact ih q _ ws (by simpa using hN) h
      · rw [lineF_bad h1 h2 hw] at h
        have := word_err hw
        cases h; omega
      · rw [lineF_full h1 h2 hw _ _ h3] at h
        cases h; decide
      · rw [lineF_word h1 h2 hw _ _ h3] at h
        have hn := word_len hw
        rw [List.length_cons] at hN hn
        exact ih _ _ _ (by rw [List.length_drop, List.length_cons]; omega) h
  unfold lineS at h
  split at h
  · cases h; decide
  · exact go l.length l 0 [] (Nat.le_refl _) h
theorem line_texts : ∀ (N M : Nat) (l : List UInt8) (i : Nat) (ws out : List (Tk × Nat)), l.length ≤ N → l.length ≤ M → (∀ v ∈ ws, v.1.text.length ≤ M) → lineF l i ws = .ok out → ∀ v ∈ out, v.1.text.length ≤ M
  | N, M, l, i, ws, out, hN, hM, hw0, h => by
    rcases line_cases l ws with rfl | hr | ⟨b, q, rfl, hb⟩ | ⟨b, q, rfl, h1, h2, ⟨e, hw⟩ | ⟨t, n, hw, h3 | h3⟩⟩
    · rw [← Ln.ok_inj h]; exact hw0
    · rw [lineF_rem hr] at h
      rw [← Ln.ok_inj h]; exact hw0
    · cases N with
      | zero => simp at hN
      | succ N =>
        rw [lineF_blank hb] at h
        rw [List.length_cons] at hN hM
        exact line_texts N M q (i + 1) ws out (by omega) (by omega) hw0 h
    · rw [lineF_bad h1 h2 hw] at h; cases h
    · rw [lineF_full h1 h2 hw _ _ h3] at h; cases h
    · cases N with
      | zero => simp at hN
      | succ N =>
        rw [lineF_word h1 h2 hw _ _ h3] at h
        have hn := word_len hw
        have ht := word_text hw
        rw [List.length_cons] at hN hn hM
        refine line_texts N M _ (i + n) (ws ++ [(t, i)]) out (by rw [List.length_drop, List.length_cons]; omega) (by rw [List.length_drop, List.length_cons]; omega) (fun v hv => ?_) h
        rcases List.mem_append.1 hv with hv | hv
        · exact hw0 v hv
        · rw [List.mem_singleton] at hv
          rw [hv]; show t.text.length ≤ M; omega
theorem line_short {l : List UInt8} {ws : List (Tk × Nat)} (h : lineS l = .ok ws) : ∀ v ∈ ws, v.1.text.length ≤ 1000 := by
  unfold lineS at h
  split at h
  · cases h
  · exact line_texts l.length 1000 l 0 [] ws (Nat.le_refl _) (by omega) (by simp) h
theorem bt_at0 (s : ByteArray) (k : Nat) : ((tl s 0).getD k 0).toNat = bt s k := rfl
theorem rdA_at {ws : List (Tk × Nat)} {j : Nat} (hj : j < ws.length) : tkz (rdA ws) j = (ws[j].1, (ws[j].2 : Int)) := by
  rw [tkz_get (by rw [rdA_length]; exact hj)]
  unfold rdA
  rw [List.getElem_map]
theorem rdA_fst (ws : List (Tk × Nat)) : (rdA ws).map Prod.fst = ws.map Prod.fst := by unfold rdA; rw [List.map_map]; rfl
/-- Words as if each began at byte 0. -/
def barA (ts : List TkA) : List TkA := ts.map fun b => (b.1, 0)
theorem barA_length (ts : List TkA) : (barA ts).length = ts.length := by unfold barA; simp
theorem barA_take {ts : List TkA} {k : Nat} (hk : k < ts.length) : barA (ts.take (k + 1)) = barA (ts.take k) ++ [((tkz ts k).1, 0)] := by
  unfold barA; rw [List.take_succ_eq_append_getElem hk, List.map_append, tkz_get hk]; rfl
theorem barA_eq {ts us : List TkA} (h : ts.map Prod.fst = us.map Prod.fst) : barA ts = barA us := by
  have e : ∀ l : List TkA, barA l = (l.map Prod.fst).map fun t => (t, (0 : Int)) := fun l => by unfold barA; rw [List.map_map]; rfl
  rw [e, e, h]
def BareP (ts : List TkA) (w : World) (e : Ending) (w' : World) : Prop := ∃ a cap, e = .returned (.slice a ts.length cap) ∧ IsTk w'.heap.size w' a (barA ts) ∧ Below w.heap.size w w'
set_option maxRecDepth 100000 in
set_option maxHeartbeats 8000000 in
theorem bare_any (a : Option Addr) (cap : Nat) (ts : List TkA) (hl : ts.length ≤ 200) (w : World) (hI : IsTk w.heap.size w a ts) :
    Calls Tryd.prog 11 #[.slice a ts.length cap] w (BareP ts w) := by
  obtain ⟨i0, hi, hz0, hz1, hz2⟩ := info_parts Tryd.infoTok
  have HII : Hid (IsTk w.heap.size w a ts) := hI
  clear hI
  go_enter Tryd.func11, Tryd.ntmps11
  go_wp2_with fail
  go_loopw [3, 4] (fun u v wr => ∃ k : Nat, k ≤ ts.length ∧ v = .int .i64 k ∧ Hid (wr.ownsRow w.heap.size 29 5 u k (cl5 (barA (ts.take k)))) ∧ Hid (Below w.heap.size w wr)) (fun _ v _ => ts.length - (RowKit.intOf v).toNat)
  case atStart => exact ⟨0, Nat.zero_le _, rfl, World.ownsRow_nil _ _ _ _, Below.refl _ _⟩
  case round =>
    obtain ⟨k, hk, rfl, HO, HB⟩ := hrel
    obtain ⟨b, bcap, hu, hIs⟩ := own5_is (by rw [barA_length, List.length_take]; omega) HO.out
    subst hu
    by_cases hlt : k < ts.length
    · obtain ⟨g, off, rfl, hg, hcell⟩ := (HII.out.go HB.out).at hlt
      obtain ⟨c0, c1, c2, c3, c4⟩ := hcell k hlt
      have hlk : (k : Int) < (ts.length : Int) := by omega
      have HN : Hid (barA (ts.take (k + 1)) = barA (ts.take k) ++ [((tkz ts k).1, 0)]) := barA_take hlt
      have hsz := HB.out.size
      clear hcell hIs
      generalize hx : tkz ts k = x at *
      obtain ⟨⟨tk, tg, tn, tt⟩, ta⟩ := x
      simp only [TkA.s] at c0 c1 c2 c3 c4
      clear hx
      obtain ⟨y3, hy3⟩ : ∃ y3, y3 = (wr.alloc (.cells #[.int .i64 tk, .int .i64 tg, .int .i64 tn, .string ⟨tt.toArray⟩, .int .i64 0] 29)).alloc (.cells #[.int .i64 tk, .int .i64 tg, .int .i64 tn, .string ⟨tt.toArray⟩, .int .i64 0] 29) := ⟨_, rfl⟩
      have HY3 : Hid (y3 = (wr.alloc (.cells #[.int .i64 tk, .int .i64 tg, .int .i64 tn, .string ⟨tt.toArray⟩, .int .i64 0] 29)).alloc (.cells #[.int .i64 tk, .int .i64 tg, .int .i64 tn, .string ⟨tt.toArray⟩, .int .i64 0] 29)) := hy3
      have hB3 : Below wr.heap.size wr y3 := by rw [hy3]; exact ((Below.refl _ wr).alloc (Nat.le_refl _) _).alloc (by simp) _
      have HO3 : Hid (y3.ownsRow w.heap.size 29 5 (.slice b k bcap) k (cl5 (barA (ts.take k)))) := own5_go HO.out hB3
      have HB3 : Hid (Below w.heap.size w y3) := HB.out.trans (hB3.mono hsz)
      have HH3 : Hid (y3.heap[wr.heap.size + 1]? = some (.cells #[.int .i64 tk, .int .i64 tg, .int .i64 tn, .string ⟨tt.toArray⟩, .int .i64 0] 29 (0, 0))) := by rw [hy3]; have h := World.alloc_heap_new (wr.alloc (.cells #[.int .i64 tk, .int .i64 tg, .int .i64 tn, .string ⟨tt.toArray⟩, .int .i64 0] 29)) (.cells #[.int .i64 tk, .int .i64 tg, .int .i64 tn, .string ⟨tt.toArray⟩, .int .i64 0] 29); rw [World.size_alloc] at h; exact h
      have hsz3 : y3.heap.size = wr.heap.size + 1 + 1 := by rw [hy3]; simp
      clear hB3 hy3
      go_wp2_with (at_builtin; rw [← HY3.out]; refine wpList_append_lies y3 rfl _ _ 22 rfl w.heap.size 29 i0 (.agg #[.int .i64 0, .int .i64 0, .int .i64 0, .string ⟨#[]⟩, .int .i64 0]) 5 48 Tryd.underlying22 hi hz0 hz1 hz2 rfl (by decide) (.slice b k bcap) k (cl5 (barA (ts.take k))) rfl HO3.out ⟨wr.heap.size + 1, 0, none⟩ 1 1 [.int .i64 tk, .int .i64 tg, .int .i64 tn, .string ⟨tt.toArray⟩, .int .i64 0] rfl rfl (World.news_of_block (cs := #[.int .i64 tk, .int .i64 tg, .int .i64 tn, .string ⟨tt.toArray⟩, .int .i64 0]) HH3.out) (by simp [Value.oneCell']) (by decide) (by unfold maxLen; omega) (by omega) (by omega) y3.heap.size rfl ?_; intro g' gc y4 hown4 hg4 hw4 hl4; have HB4 : Hid (Below w.heap.size w y4) := HB3.out.grown hg4 (by omega) (fun j hj => by have := own_ge HO3.out j hj; omega))
      refine ⟨⟨k + 1, hlt, by first | rfl | go_num, ?_, HB4⟩, by simp [RowKit.intOf]; omega⟩
      show World.ownsRow _ _ _ _ _ _ _
      rw [HN.out, cl5_snoc]
      exact hown4
    · obtain rfl : k = ts.length := by omega
      rw [List.take_length] at hIs
      have HIs : Hid (IsTk wr.heap.size wr b (barA ts)) := hIs
      clear hIs
      go_wp2_with fail
      go_ret
      exact ⟨b, bcap, rfl, HIs.out, HB.out⟩
end Go.Proofs.YthfdpfekjcdlbaaDoor
