/-
  Plain mathematics of the words of a line: what is spelt is read, what is read can be spelt, and where words begin.
-/
import Derived.Test.YthfdpfekjcdlbaaDoorLxn
namespace Go.Proofs.YthfdpfekjcdlbaaDoor
open Go.Lib
set_option linter.unusedVariables false

def InR (n : Int) : Prop := -9223372036854775808 ≤ n ∧ n ≤ 9223372036854775807
theorem Sp.ok_inj {a b : List UInt8} (h : Sp.ok a = Sp.ok b) : a = b := by cases h; rfl
theorem u8_eq {b : UInt8} {n : Nat} (h : b.toNat = n) : b = UInt8.ofNat n := by rw [← h]; exact UInt8.ofNat_toNat.symm
theorem dgA_app : ∀ (l r : List UInt8) (a : Nat), dgA a (l ++ r) = dgA (dgA a l) r
  | [], r, a => rfl
  | b :: l, r, a => dgA_app l r _
theorem dig_toNat {u : Nat} (h : u < 10) : (UInt8.ofNat (48 + u)).toNat = 48 + u := by
  rw [UInt8.toNat_ofNat']; exact Nat.mod_eq_of_lt (by omega)
theorem dig_isDg {u : Nat} (h : u < 10) : isDg (UInt8.ofNat (48 + u)) = true := by
  unfold isDg; rw [dig_toNat h, decide_eq_true (by omega), decide_eq_true (by omega)]; rfl
theorem dec_back : ∀ (N u : Nat), u ≤ N → dgA 0 (decDigits u) = u ∧ (decDigits u).all isDg = true ∧ decDigits u ≠ []
  | 0, u, h => by
    obtain rfl : u = 0 := by omega
    rw [decDigits, dif_pos (by omega)]; exact ⟨rfl, rfl, by simp⟩
  | N + 1, u, h => by
    rw [decDigits]
    by_cases hu : u < 10
    · rw [dif_pos hu]
      refine ⟨?_, ?_, by simp⟩
      · show 0 * 10 + ((UInt8.ofNat (48 + u)).toNat - 48) = u
        rw [dig_toNat hu]; omega
      · rw [List.all_cons, dig_isDg hu]; rfl
    · rw [dif_neg hu]
      obtain ⟨h1, h2, h3⟩ := dec_back N (u / 10) (by omega)
      have hm : u % 10 < 10 := Nat.mod_lt _ (by omega)
      refine ⟨?_, ?_, by simp⟩
      · rw [dgA_app, h1]
        show u / 10 * 10 + ((UInt8.ofNat (48 + u % 10)).toNat - 48) = u
        rw [dig_toNat hm]; omega
      · rw [List.all_append, h2, List.all_cons, dig_isDg hm]; rfl
theorem dblQ_back : ∀ t : List UInt8, qt (dblQ t ++ [39]) = some (t, (dblQ t).length + 1)
  | [] => qt_one rfl
  | b :: r => by
    by_cases hb : b.toNat = 39
    · have e : dblQ (b :: r) = 39 :: 39 :: dblQ r := if_pos hb
      rw [e]
      show qt (39 :: 39 :: (dblQ r ++ [39])) = _
      rw [qt_two rfl rfl, dblQ_back r, u8_eq hb]; rfl
    · have e : dblQ (b :: r) = b :: dblQ r := if_neg hb
      rw [e]
      show qt (b :: (dblQ r ++ [39])) = _
      rw [qt_cons_ne hb, dblQ_back r]; rfl
theorem noMin {b : UInt8} {r : List UInt8} (h : b.toNat < 194) : minusB.isPrefixOf (b :: r) = false := by
  refine Bool.eq_false_iff.2 fun e => ?_
  obtain ⟨q, hq⟩ := minus_split e
  rw [(List.cons.inj hq).1] at h; exact absurd h (by decide)
theorem noRm {b : UInt8} {r : List UInt8} (h : b.toNat ≠ 226) : ¬ remB.isPrefixOf (b :: r) = true := by
  intro e
  obtain ⟨q, hq⟩ := List.isPrefixOf_iff_prefix.1 e
  rw [← (List.cons.inj hq).1] at h; exact h rfl
theorem lt_rng {b : UInt8} (h : isLt b = true) : 65 ≤ b.toNat ∧ b.toNat ≤ 122 := by
  unfold isLt at h
  rw [Bool.or_eq_true, Bool.and_eq_true, Bool.and_eq_true, decide_eq_true_iff, decide_eq_true_iff, decide_eq_true_iff, decide_eq_true_iff] at h
  omega
theorem dg_rng {b : UInt8} (h : isDg b = true) : 48 ≤ b.toNat ∧ b.toNat ≤ 57 := by
  unfold isDg at h
  rw [Bool.and_eq_true, decide_eq_true_iff, decide_eq_true_iff] at h
  omega
theorem lt_dg {b : UInt8} (h : isLt b = true) : ¬ isDg b = true := fun e => by
  have := lt_rng h; have := dg_rng e; omega
set_option maxRecDepth 100000 in
theorem gly_back : ∀ k, k < 34 → wordS (glyB.getD k []) = .ok ⟨4, (k : Int) + 1, 0, []⟩ (glyB.getD k []).length ∧ remB.isPrefixOf (glyB.getD k []) = false ∧ ((glyB.getD k []).getD 0 0).toNat ≠ 32 := by
  intro k hk
  have : k = 0 ∨ k = 1 ∨ k = 2 ∨ k = 3 ∨ k = 4 ∨ k = 5 ∨ k = 6 ∨ k = 7 ∨ k = 8 ∨ k = 9 ∨ k = 10 ∨ k = 11 ∨ k = 12 ∨ k = 13 ∨ k = 14 ∨ k = 15 ∨ k = 16 ∨ k = 17 ∨ k = 18 ∨ k = 19 ∨ k = 20 ∨ k = 21 ∨ k = 22 ∨ k = 23 ∨ k = 24 ∨ k = 25 ∨ k = 26 ∨ k = 27 ∨ k = 28 ∨ k = 29 ∨ k = 30 ∨ k = 31 ∨ k = 32 ∨ k = 33 := by omega
  rcases this with rfl | rfl | rfl | rfl | rfl | rfl | rfl | rfl | rfl | rfl | rfl | rfl | rfl | rfl | rfl | rfl | rfl | rfl | rfl | rfl | rfl | rfl | rfl | rfl | rfl | rfl | rfl | rfl | rfl | rfl | rfl | rfl | rfl | rfl <;> exact ⟨rfl, rfl, by decide⟩
set_option maxRecDepth 100000 in
theorem sgn_back : ∀ k, k < 16 → wordS (sgnB.getD k []) = .ok ⟨(k : Int) + 5, 0, 0, []⟩ (sgnB.getD k []).length ∧ remB.isPrefixOf (sgnB.getD k []) = false ∧ ((sgnB.getD k []).getD 0 0).toNat ≠ 32 := by
  intro k hk
  have : k = 0 ∨ k = 1 ∨ k = 2 ∨ k = 3 ∨ k = 4 ∨ k = 5 ∨ k = 6 ∨ k = 7 ∨ k = 8 ∨ k = 9 ∨ k = 10 ∨ k = 11 ∨ k = 12 ∨ k = 13 ∨ k = 14 ∨ k = 15 := by omega
  rcases this with rfl | rfl | rfl | rfl | rfl | rfl | rfl | rfl | rfl | rfl | rfl | rfl | rfl | rfl | rfl | rfl <;> exact ⟨rfl, rfl, by decide⟩
theorem fld_no {t : Tk} (h : ¬ fldF t = true) : (t.kind = 1 ∨ t.num = 0) ∧ (t.kind = 4 ∨ t.fn = 0) ∧ (t.kind = 3 ∨ t.kind = 2 ∨ t.text = []) := by
  have h' := Bool.eq_false_iff.2 h
  unfold fldF at h'
  rw [Bool.or_eq_false_iff, Bool.or_eq_false_iff, decide_eq_false_iff_not, decide_eq_false_iff_not, decide_eq_false_iff_not] at h'
  obtain ⟨⟨h1, h2⟩, h3⟩ := h'
  refine ⟨by omega, by omega, ?_⟩
  by_cases e : t.text = []
  · exact .inr (.inr e)
  · by_cases e3 : t.kind = 3
    · exact .inl e3
    · by_cases e2 : t.kind = 2
      · exact .inr (.inl e2)
      · exact absurd ⟨e3, e2, e⟩ h3
/-- WHAT IS SPELT IS READ, word by word. -/
theorem spel_word {t : Tk} {b : List UInt8} (hr : InR t.num) (h : spelS t = .ok b) : wordS b = .ok t b.length ∧ (∃ c r, b = c :: r ∧ ¬ c.toNat = 32) ∧ ¬ remB.isPrefixOf b = true := by
  obtain ⟨kind, fn, num, text⟩ := t
  unfold spelS at h
  by_cases hf : fldF ⟨kind, fn, num, text⟩ = true
  · rw [if_pos hf] at h; cases h
  rw [if_neg hf] at h
  obtain ⟨f1, f2, f3⟩ := fld_no hf
  simp only at f1 f2 f3 h hr
  by_cases k1 : kind = 1
  · rw [if_pos k1] at h
    subst k1
    obtain rfl := Sp.ok_inj h
    obtain rfl : fn = 0 := by omega
    obtain rfl : text = [] := by rcases f3 with h | h | h; · omega
                                 · omega
                                 · exact h
    obtain ⟨d1, d2, d3⟩ := dec_back num.natAbs num.natAbs (Nat.le_refl _)
    obtain ⟨hr1, hr2⟩ := hr
    unfold digS
    by_cases hn : num < 0
    · rw [if_pos hn]
      refine ⟨?_, ⟨194, 175 :: decDigits num.natAbs, rfl, by decide⟩, noRm (by decide)⟩
      show wordS (194 :: 175 :: decDigits num.natAbs) = _
      rw [wordS_minus, tk_id isDg _ d2, if_neg d3]
      unfold numS
      rw [d1, if_pos (by rw [if_pos rfl]; omega), if_pos rfl]
      have e1 : (-(num.natAbs : Int)) = num := by omega
      have e2 : 2 + (decDigits num.natAbs).length = (minusB ++ decDigits num.natAbs).length := by rw [List.length_append]; rfl
      rw [e1, e2]
    · rw [if_neg hn]
      cases hd : decDigits num.natAbs with
      | nil => exact absurd hd d3
      | cons c r =>
        rw [hd] at d1 d2
        have hc : isDg c = true := by rw [List.all_cons, Bool.and_eq_true] at d2; exact d2.1
        have hc2 := dg_rng hc
        refine ⟨?_, ⟨c, r, rfl, by omega⟩, noRm (by omega)⟩
        rw [wordS_cons (noMin (by omega)), if_pos hc, tk_id isDg _ d2]
        unfold numS
        rw [d1, if_pos (by rw [if_neg Bool.false_ne_true]; omega), if_neg Bool.false_ne_true]
        have e1 : ((num.natAbs : Nat) : Int) = num := by omega
        rw [e1]
  rw [if_neg k1] at h
  obtain rfl : num = 0 := by omega
  by_cases k3 : kind = 3
  · rw [if_pos k3] at h
    subst k3
    obtain rfl : fn = 0 := by omega
    by_cases hz : namF text = 0
    · rw [if_pos hz] at h
      obtain rfl := Sp.ok_inj h
      cases text with
      | nil => cases hz
      | cons c r =>
        unfold namF at hz
        simp only at hz
        by_cases hp : isLt c = true ∧ (c :: r).all isPt = true
        · rw [if_pos hp] at hz
          by_cases hl : 12 < (c :: r).length
          · rw [if_pos hl] at hz; cases hz
          have hc := lt_rng hp.1
          refine ⟨?_, ⟨c, r, rfl, by omega⟩, noRm (by omega)⟩
          rw [wordS_cons (noMin (by omega)), if_neg (lt_dg hp.1), if_pos hp.1, tk_id isPt _ hp.2, if_neg hl]
        · rw [if_neg hp] at hz; cases hz
    · rw [if_neg hz] at h; cases h
  rw [if_neg k3] at h
  by_cases k2 : kind = 2
  · rw [if_pos k2] at h
    subst k2
    obtain rfl : fn = 0 := by omega
    by_cases hq : qbl text = true
    · rw [if_pos hq] at h
      obtain rfl := Sp.ok_inj h
      refine ⟨?_, ⟨39, dblQ text ++ [39], rfl, by decide⟩, noRm (by decide)⟩
      show wordS (39 :: (dblQ text ++ [39])) = _
      rw [wordS_cons (noMin (by decide)), if_neg (by decide), if_neg (by decide), if_pos (by decide)]
      unfold chrS
      rw [dblQ_back text]
      simp only [if_pos hq]
      simp
    · rw [if_neg hq] at h; cases h
  rw [if_neg k2] at h
  obtain rfl : text = [] := by rcases f3 with h | h | h; · omega
                               · omega
                               · exact h
  by_cases k4 : kind = 4
  · rw [if_pos k4] at h
    subst k4
    by_cases hg : 1 ≤ fn ∧ fn ≤ 34
    · rw [if_pos hg] at h
      obtain rfl := Sp.ok_inj h
      obtain ⟨h1, h2, h3⟩ := gly_back (fn.toNat - 1) (by omega)
      have h4 := gly_len (fn.toNat - 1) (by omega)
      have e : ((fn.toNat - 1 : Nat) : Int) + 1 = fn := by omega
      rw [e] at h1
      refine ⟨h1, ?_, by rw [h2]; exact Bool.false_ne_true⟩
      cases hx : glyB.getD (fn.toNat - 1) [] with
      | nil => rw [hx] at h4; simp at h4
      | cons c r => rw [hx] at h3; exact ⟨c, r, rfl, h3⟩
    · rw [if_neg hg] at h; cases h
  rw [if_neg k4] at h
  obtain rfl : fn = 0 := by omega
  by_cases k5 : 5 ≤ kind ∧ kind ≤ 20
  · rw [if_pos k5] at h
    obtain rfl := Sp.ok_inj h
    obtain ⟨h1, h2, h3⟩ := sgn_back (kind.toNat - 5) (by omega)
    have h4 := sgn_len (kind.toNat - 5) (by omega)
    have e : ((kind.toNat - 5 : Nat) : Int) + 5 = kind := by omega
    rw [e] at h1
    refine ⟨h1, ?_, by rw [h2]; exact Bool.false_ne_true⟩
    cases hx : sgnB.getD (kind.toNat - 5) [] with
    | nil => rw [hx] at h4; simp at h4
    | cons c r => rw [hx] at h3; exact ⟨c, r, rfl, h3⟩
  · rw [if_neg k5] at h; cases h
/-- WHAT IS READ CAN BE SPELT, word by word. -/
theorem word_spel {l : List UInt8} {t : Tk} {n : Nat} (h : wordS l = .ok t n) : (∃ b, spelS t = .ok b) ∧ InR t.num := by
  have z : InR 0 := ⟨by decide, by decide⟩
  have num : ∀ {m : Bool} {ds : List UInt8} {k : Nat}, numS m ds k = .ok t n → (∃ b, spelS t = .ok b) ∧ InR t.num := by
    intro m ds k h
    obtain ⟨_, hc, rfl⟩ := numS_ok h
    refine ⟨⟨digS (if m = true then -(dgA 0 ds : Int) else dgA 0 ds), ?_⟩, ?_⟩
    · unfold spelS
      rw [if_neg (by unfold fldF; simp), if_pos rfl]
    · show InR (if m = true then -(dgA 0 ds : Int) else dgA 0 ds)
      cases m
      · rw [if_neg Bool.false_ne_true] at hc ⊢; exact ⟨by omega, by omega⟩
      · rw [if_pos rfl] at hc ⊢; exact ⟨by omega, by omega⟩
  by_cases hm : minusB.isPrefixOf l = true
  · obtain ⟨q, rfl⟩ := minus_split hm
    rw [wordS_minus] at h
    split at h
    · cases h
    · exact num h
  · cases l with
    | nil => unfold wordS at h; rw [if_neg hm] at h; cases h
    | cons b q =>
      rw [wordS_cons (Bool.eq_false_iff.2 hm)] at h
      by_cases hd : isDg b = true
      · rw [if_pos hd] at h; exact num h
      rw [if_neg hd] at h
      by_cases hl : isLt b = true
      · rw [if_pos hl] at h
        split at h
        · cases h
        · rename_i hle
          obtain ⟨rfl, rfl⟩ := Wd.ok_inj h
          refine ⟨⟨(b :: q).takeWhile isPt, ?_⟩, z⟩
          unfold spelS
          rw [if_neg (by unfold fldF; simp), if_neg (by show ¬ (3 : Int) = 1; decide), if_pos rfl]
          have e : (b :: q).takeWhile isPt = b :: q.takeWhile isPt := by
            show (match isPt b with | true => b :: q.takeWhile isPt | false => []) = _
            rw [lt_pt hl]
          have ha := tk_all isPt (b :: q)
          have hz : namF ((b :: q).takeWhile isPt) = 0 := by
            rw [e] at ha hle ⊢
            unfold namF
            simp only
            rw [if_pos ⟨hl, ha⟩, if_neg hle]
          rw [if_pos hz]
      rw [if_neg hl] at h
      by_cases hq : b.toNat = 39
      · rw [if_pos hq] at h
        obtain ⟨u, k, _, _, hb, rfl⟩ := chrS_ok h
        refine ⟨⟨39 :: dblQ u ++ [39], ?_⟩, z⟩
        unfold spelS
        rw [if_neg (by unfold fldF; simp), if_neg (by show ¬ (2 : Int) = 1; decide), if_neg (by show ¬ (2 : Int) = 3; decide), if_pos rfl]
        exact if_pos hb
      rw [if_neg hq] at h
      rcases sigS_ok h with ⟨k, hk, hf, rfl⟩ | ⟨k, hk, _, hf, rfl⟩
      · refine ⟨⟨glyB.getD (((k : Int) + 1).toNat - 1) [], ?_⟩, z⟩
        unfold spelS
        rw [if_neg (by unfold fldF; simp), if_neg (by show ¬ (4 : Int) = 1; decide), if_neg (by show ¬ (4 : Int) = 3; decide), if_neg (by show ¬ (4 : Int) = 2; decide), if_pos rfl]
        exact if_pos (by show 1 ≤ (k : Int) + 1 ∧ (k : Int) + 1 ≤ 34; omega)
      · refine ⟨⟨sgnB.getD (((k : Int) + 5).toNat - 5) [], ?_⟩, z⟩
        unfold spelS
        rw [if_neg (by unfold fldF; simp), if_neg (by show ¬ (k : Int) + 5 = 1; omega), if_neg (by show ¬ (k : Int) + 5 = 3; omega), if_neg (by show ¬ (k : Int) + 5 = 2; omega), if_neg (by show ¬ (k : Int) + 5 = 4; omega)]
        exact if_pos (by show 5 ≤ (k : Int) + 5 ∧ (k : Int) + 5 ≤ 20; omega)

/-! ### Lines -/
def AllSp : List Tk → List (List UInt8) → Prop
  | [], [] => True
  | t :: ts, b :: bs => spelS t = .ok b ∧ AllSp ts bs
  | _, _ => False
theorem spels_ok : ∀ (ts : List Tk) (acc : List (List UInt8)) (s : List UInt8), spelsN ts acc = .ok s → ∃ bs, AllSp ts bs ∧ s = joinB (acc ++ bs) ∧ s.length ≤ 1000
  | [], acc, s, h => by
    rw [spelsN] at h
    split at h
    · cases h
    · obtain rfl := Sp.ok_inj h
      exact ⟨[], trivial, by rw [List.append_nil], by omega⟩
  | t :: ts, acc, s, h => by
    rw [spelsN] at h
    split at h
    · cases h
    · rename_i b hb
      obtain ⟨bs, h1, h2, h3⟩ := spels_ok ts _ s h
      exact ⟨b :: bs, ⟨hb, h1⟩, by rw [h2, List.append_assoc]; rfl, h3⟩
theorem spels_can : ∀ (ts : List Tk) (acc : List (List UInt8)), (∀ t ∈ ts, ∃ b, spelS t = .ok b) → (∃ s, spelsN ts acc = .ok s) ∨ spelsN ts acc = .bad 7
  | [], acc, _ => by
    rw [spelsN]
    split
    · exact .inr rfl
    · exact .inl ⟨_, rfl⟩
  | t :: ts, acc, h => by
    rw [spelsN]
    obtain ⟨b, hb⟩ := h t (by simp)
    rw [hb]
    exact spels_can ts _ (fun u hu => h u (by simp [hu]))
theorem line_one {b : List UInt8} {t : Tk} (hr : InR t.num) (h : spelS t = .ok b) (i : Nat) (ws : List (Tk × Nat)) (h3 : ¬ 200 ≤ ws.length) :
    lineF b i ws = .ok (ws ++ [(t, i)]) ∧ ∀ r, lineF (b ++ 32 :: r) i ws = lineF r (i + b.length + 1) (ws ++ [(t, i)]) := by
  obtain ⟨h1, ⟨c, q, rfl, h2⟩, h4⟩ := spel_word hr h
  constructor
  · rw [lineF_word h4 h2 h1 _ _ h3, List.drop_length]; rfl
  · intro r
    have e := (word_blank r h1).1
    have h4' : ¬ remB.isPrefixOf (c :: (q ++ 32 :: r)) = true := by
      have := pre_blank remB (c :: q) r (by decide)
      rw [List.cons_append] at this
      rw [this]; exact h4
    rw [List.cons_append] at e ⊢
    rw [lineF_word h4' h2 e _ _ h3]
    have e2 : (c :: (q ++ 32 :: r)).drop (c :: q).length = 32 :: r := by
      rw [← List.cons_append]; exact List.drop_left
    rw [e2]
    exact lineF_blank (by decide) _ _
theorem line_back : ∀ (ts : List Tk) (bs : List (List UInt8)) (i : Nat) (ws : List (Tk × Nat)), AllSp ts bs → (∀ t ∈ ts, InR t.num) → ws.length + ts.length ≤ 200 →
    ∃ vs, lineF (joinB bs) i ws = .ok (ws ++ vs) ∧ vs.map Prod.fst = ts
  | [], [], i, ws, _, _, _ => ⟨[], by rw [List.append_nil]; rfl, rfl⟩
  | [], b :: bs, i, ws, h, _, _ => h.elim
  | t :: ts, [], i, ws, h, _, _ => h.elim
  | [t], b :: b2 :: bs, i, ws, h, _, _ => h.2.elim
  | [t], [b], i, ws, h, hr, hl => ⟨[(t, i)], (line_one (hr t (by simp)) h.1 i ws (by simp at hl; omega)).1, rfl⟩
  | t :: t2 :: ts, [b], i, ws, h, _, _ => h.2.elim
  | t :: t2 :: ts, b :: b2 :: bs, i, ws, h, hr, hl => by
    simp only [List.length_cons] at hl
    have h1 := (line_one (hr t (by simp)) h.1 i ws (by omega)).2 (joinB (b2 :: bs))
    obtain ⟨vs, h2, h3⟩ := line_back (t2 :: ts) (b2 :: bs) (i + b.length + 1) (ws ++ [(t, i)]) h.2 (fun u hu => hr u (List.mem_cons_of_mem _ hu)) (by simp only [List.length_append, List.length_cons, List.length_nil]; omega)
    refine ⟨(t, i) :: vs, ?_, by rw [List.map_cons, h3]⟩
    show lineF (b ++ 32 :: joinB (b2 :: bs)) i ws = _
    rw [h1, h2, List.append_assoc]; rfl
/-- WHAT IS SPELT IS READ. -/
theorem back17 {ts : List Tk} {s : List UInt8} (hr : ∀ t ∈ ts, InR t.num) (h : spelsS ts = .ok s) : ∃ ws, lineS s = .ok ws ∧ ws.map Prod.fst = ts ∧ s.length ≤ 1000 := by
  unfold spelsS at h
  split at h
  · cases h
  · rename_i hl
    obtain ⟨bs, h1, h2, h3⟩ := spels_ok ts [] s h
    rw [List.nil_append] at h2
    obtain ⟨vs, h4, h5⟩ := line_back ts bs 0 [] h1 hr (by simp; omega)
    refine ⟨vs, ?_, h5, h3⟩
    unfold lineS
    rw [if_neg (by omega), h2]; exact h4
/-- Each begins behind the ones ahead of it. -/
def Inc : Nat → List (Tk × Nat) → Prop
  | _, [] => True
  | i, v :: vs => i ≤ v.2 ∧ Inc (v.2 + 1) vs
theorem Inc.mono : ∀ {vs : List (Tk × Nat)} {i j : Nat}, j ≤ i → Inc i vs → Inc j vs
  | [], _, _, _, _ => trivial
  | v :: vs, _, _, hj, h => ⟨Nat.le_trans hj h.1, h.2⟩
theorem line_pos : ∀ (N : Nat) (l : List UInt8) (i : Nat) (ws out : List (Tk × Nat)), l.length ≤ N → ws.length ≤ 200 → lineF l i ws = .ok out →
    ∃ vs, out = ws ++ vs ∧ Inc i vs ∧ out.length ≤ 200 ∧ ∀ v ∈ vs, i ≤ v.2 ∧ v.2 < i + l.length ∧ (l.getD (v.2 - i) 0).toNat ≠ 32 ∧ (∃ b, spelS v.1 = .ok b) ∧ InR v.1.num
  | N, l, i, ws, out, hN, hw2, h => by
    rcases line_cases l ws with rfl | hr | ⟨b, q, rfl, hb⟩ | ⟨b, q, rfl, h1, h2, ⟨e, hw⟩ | ⟨t, n, hw, h3 | h3⟩⟩
    · exact ⟨[], by rw [Ln.ok_inj h, List.append_nil], trivial, by rw [← Ln.ok_inj h]; exact hw2, by simp⟩
    · rw [lineF_rem hr] at h
      exact ⟨[], by rw [Ln.ok_inj h, List.append_nil], trivial, by rw [← Ln.ok_inj h]; exact hw2, by simp⟩
    · cases N with
      | zero => simp at hN
      | succ N =>
        rw [lineF_blank hb] at h
        obtain ⟨vs, e1, e2, e3, e4⟩ := line_pos N q (i + 1) ws out (by simpa using hN) hw2 h
        refine ⟨vs, e1, Inc.mono (by omega) e2, e3, fun v hv => ?_⟩
        obtain ⟨a1, a2, a3, a4⟩ := e4 v hv
        refine ⟨by omega, by rw [List.length_cons]; omega, ?_, a4⟩
        rw [show v.2 - i = (v.2 - (i + 1)) + 1 by omega, List.getD_cons_succ]; exact a3
    · rw [lineF_bad h1 h2 hw] at h; cases h
    · rw [lineF_full h1 h2 hw _ _ h3] at h; cases h
    · cases N with
      | zero => simp at hN
      | succ N =>
        rw [lineF_word h1 h2 hw _ _ h3] at h
        have hn := word_len hw
        rw [List.length_cons] at hN hn
        obtain ⟨vs, e1, e2, e3, e4⟩ := line_pos N _ (i + n) (ws ++ [(t, i)]) out (by rw [List.length_drop, List.length_cons]; omega) (by rw [List.length_append, List.length_singleton]; omega) h
        refine ⟨(t, i) :: vs, by rw [e1, List.append_assoc]; rfl, ⟨Nat.le_refl _, Inc.mono (by omega) e2⟩, e3, fun v hv => ?_⟩
        rcases List.mem_cons.1 hv with rfl | hv
        · refine ⟨Nat.le_refl _, by show i < i + (b :: q).length; rw [List.length_cons]; omega, ?_, word_spel hw⟩
          show ((b :: q).getD (i - i) 0).toNat ≠ 32
          rw [Nat.sub_self]; exact h2
        · obtain ⟨a1, a2, a3, a4⟩ := e4 v hv
          rw [List.length_drop, List.length_cons] at a2
          refine ⟨by omega, by rw [List.length_cons]; omega, ?_, a4⟩
          rw [List.getD_eq_getElem?_getD, List.getElem?_drop] at a3
          rw [List.getD_eq_getElem?_getD, show v.2 - i = n + (v.2 - (i + n)) by omega]; exact a3
theorem Inc.at : ∀ {vs : List (Tk × Nat)} {i : Nat} (k : Nat) (h : k + 1 < vs.length), Inc i vs → (vs[k]'(by omega)).2 < (vs[k + 1]'h).2
  | [], _, _, h, _ => by simp at h
  | [v], _, k, h, _ => by simp at h
  | v :: v2 :: vs, _, 0, _, hI => hI.2.1
  | v :: v2 :: vs, _, k + 1, h, hI => Inc.at (vs := v2 :: vs) k (by simpa using h) hI.2
/-- WHAT IS READ CAN BE SPELT, if it is not too long; and read again. -/
theorem again17 {l : List UInt8} {ws : List (Tk × Nat)} (h : lineS l = .ok ws) :
    Inc 0 ws ∧ ws.length ≤ 200 ∧ (∀ v ∈ ws, v.2 < l.length ∧ (l.getD v.2 0).toNat ≠ 32 ∧ InR v.1.num) ∧
    (spelsS (ws.map Prod.fst) = .bad 7 ∨ ∃ s us, spelsS (ws.map Prod.fst) = .ok s ∧ lineS s = .ok us ∧ us.map Prod.fst = ws.map Prod.fst ∧ s.length ≤ 1000) := by
  unfold lineS at h
  split at h
  · cases h
  · obtain ⟨vs, e1, e2, e3, e4⟩ := line_pos l.length l 0 [] ws (Nat.le_refl _) (by simp) h
    rw [List.nil_append] at e1
    subst e1
    refine ⟨e2, e3, fun v hv => ?_, ?_⟩
    · obtain ⟨a1, a2, a3, a4, a5⟩ := e4 v hv
      exact ⟨by omega, by rw [Nat.sub_zero] at a3; exact a3, a5⟩
    · have hs : ∀ t ∈ ws.map Prod.fst, (∃ b, spelS t = .ok b) ∧ InR t.num := by
        intro t ht
        obtain ⟨v, hv, rfl⟩ := List.mem_map.1 ht
        exact (e4 v hv).2.2.2
      have hu : spelsS (ws.map Prod.fst) = spelsN (ws.map Prod.fst) [] := by
        unfold spelsS; rw [if_neg (by rw [List.length_map]; omega)]
      rcases spels_can (ws.map Prod.fst) [] (fun t ht => (hs t ht).1) with ⟨s, hc⟩ | hc
      · rw [← hu] at hc
        obtain ⟨us, b1, b2, b3⟩ := back17 (fun t ht => (hs t ht).2) hc
        exact .inr ⟨s, us, hc, b1, b2, b3⟩
      · exact .inl (hu.trans hc)
/-- LINE BEHIND LINE. -/
theorem join17 {l r : List UInt8} {xs ys : List (Tk × Nat)} (hR : ∀ k, remB.isPrefixOf (l.drop k) = false) (hx : lineS l = .ok xs) (hy : lineS r = .ok ys)
    (h1 : l.length + r.length + 1 ≤ 1000) (h2 : xs.length + ys.length ≤ 200) : lineS (l ++ 32 :: r) = .ok (xs ++ shf (l.length + 1) ys) := by
  unfold lineS at hx hy ⊢
  rw [if_neg (by omega)] at hx hy
  rw [if_neg (by rw [List.length_append, List.length_cons]; omega)]
  show lineF (l ++ 32 :: r) 0 [] = _
  rw [line_join l.length l r 0 [] xs (Nat.le_refl _) hR hx]
  obtain ⟨vs, e1, e2⟩ := line_shift r.length r 0 (l.length + 1) [] xs ys (Nat.le_refl _) hy
  rw [List.nil_append] at e1
  subst e1
  have := e2 h2
  rw [show 0 + l.length + 1 = 0 + (l.length + 1) by omega]; exact this
end Go.Proofs.YthfdpfekjcdlbaaDoor
