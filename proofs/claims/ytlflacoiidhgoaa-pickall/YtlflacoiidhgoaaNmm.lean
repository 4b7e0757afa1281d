/-
  Where the shapes of arrays lie, one behind the other; the places that they tell: plain mathematics.
-/
import Derived.Test.YtlflacoiidhgoaaArrs
import Derived.Test.YtlflacoiidhgoaaPikm
import Derived.Test.YtlflacoiidhgoaaPlacem
namespace Go.Proofs.Ytlflacoiidhgoaa
open Go.RowKit
set_option linter.unusedVariables false

def bya (bs : List ArV) : List Ar := bs.map ArV.ar
theorem bya_length (bs : List ArV) : (bya bs).length = bs.length := by simp [bya]
theorem bya_take (bs : List ArV) {k : Nat} (h : k < bs.length) : (bya bs).take (k + 1) = (bya bs).take k ++ [(arz bs k).ar] := by
  rw [List.take_succ_eq_append_getElem (by rw [bya_length]; exact h)]
  simp [bya, arz, h]
theorem bya_cut (bs : List ArV) {k : Nat} (h : k < bs.length) : bya bs = (bya bs).take k ++ (arz bs k).ar :: (bya bs).drop (k + 1) := by
  have e := (List.take_append_drop k (bya bs)).symm
  rw [List.drop_eq_getElem_cons (by rw [bya_length]; exact h)] at e
  refine e.trans ?_
  simp [bya, arz, h]
theorem pkS_append : ∀ (l r : List Ar), pkS (l ++ r) = pkS l ++ pkS r
  | [], r => rfl
  | b :: l, r => by simp [pkS, pkS_append l r]
/-- How many axes come ahead of the k-th array's. -/
def offs (bs : List ArV) (k : Nat) : Nat := (pkS ((bya bs).take k)).length
theorem offs_zero (bs : List ArV) : offs bs 0 = 0 := by simp [offs, pkS]
theorem offs_succ (bs : List ArV) {k : Nat} (h : k < bs.length) : offs bs (k + 1) = offs bs k + (arz bs k).2.1.2.length := by
  unfold offs
  rw [bya_take bs h, pkS_append, List.length_append]
  simp [pkS, ArV.ar]
theorem offs_all (bs : List ArV) : offs bs bs.length = (pkS (bya bs)).length := by
  unfold offs
  rw [← bya_length bs, List.take_length]
theorem pkS_cut (bs : List ArV) {k : Nat} (h : k < bs.length) : pkS (bya bs) = pkS ((bya bs).take k) ++ ((arz bs k).2.1.2 ++ pkS ((bya bs).drop (k + 1))) := by
  have e := congrArg pkS (bya_cut bs h)
  rw [pkS_append] at e
  exact e
theorem offs_le (bs : List ArV) {k : Nat} (h : k < bs.length) : offs bs k + (arz bs k).2.1.2.length ≤ (pkS (bya bs)).length := by
  have e := congrArg List.length (pkS_cut bs h)
  simp only [List.length_append] at e
  unfold offs
  omega
theorem nth_app_r (l r : List Int) (i : Nat) : nth (l ++ r) (l.length + i) = nth r i := by
  unfold nth
  rw [List.getD_eq_getElem?_getD, List.getD_eq_getElem?_getD, List.getElem?_append_right (by omega), Nat.add_sub_cancel_left]
theorem nth_app_l (l r : List Int) {i : Nat} (h : i < l.length) : nth (l ++ r) i = nth l i := by
  unfold nth
  rw [List.getD_eq_getElem?_getD, List.getD_eq_getElem?_getD, List.getElem?_append_left h]
theorem offs_nth (bs : List ArV) {k : Nat} (h : k < bs.length) {i : Nat} (hi : i < (arz bs k).2.1.2.length) : nth (pkS (bya bs)) (offs bs k + i) = nth (arz bs k).2.1.2 i := by
  rw [pkS_cut bs h]
  unfold offs
  rw [nth_app_r, nth_app_l _ _ hi]
/-- What stands at the k-th place of the indices told. -/
theorem pkT_nth : ∀ (bys : List Ar) (t : List Int) (k : Nat) (b : Ar), bys[k]? = some b → nth (pkT bys t) k = cel b.2.1 b.2.2 ((t.drop (pkS (bys.take k)).length).take b.2.1.length)
  | [], t, k, b, h => by simp at h
  | x :: r, t, 0, b, h => by
    simp at h
    subst h
    simp [pkT, pkS, nth]
  | x :: r, t, k + 1, b, h => by
    have ih := pkT_nth r (t.drop x.2.1.length) k b (by simpa using h)
    simp only [pkT]
    have e : nth (cel x.2.1 x.2.2 (t.take x.2.1.length) :: pkT r (t.drop x.2.1.length)) (k + 1) = nth (pkT r (t.drop x.2.1.length)) k := by simp [nth]
    rw [e, ih, List.drop_drop]
    simp [pkS]
theorem pkT_at (bs : List ArV) (t : List Int) {k : Nat} (h : k < bs.length) : nth (pkT (bya bs) t) k = cel (arz bs k).2.1.2 (arz bs k).2.2.2 ((t.drop (offs bs k)).take (arz bs k).2.1.2.length) :=
  pkT_nth (bya bs) t k (arz bs k).ar (by simp [bya, arz, h])
theorem chL_take (bs : List ArV) {k : Nat} (h : k < bs.length) : chL ((bya bs).take (k + 1)) = (chL ((bya bs).take k) || (arz bs k).1) := by
  rw [bya_take bs h]
  simp [chL, ArV.ar]
theorem chL_bad (bs : List ArV) {k : Nat} (h : k < bs.length) (hc : (arz bs k).1 = true) : chL (bya bs) = true := by
  rw [bya_cut bs h]
  simp [chL, ArV.ar, hc]
theorem flL_at : ∀ (l : List Ar) (k : Nat) (b : Ar), l[k]? = some b → flL l = 0 → flawE b.1 b.2.1 b.2.2 = 0
  | [], k, b, h, _ => by simp at h
  | x :: r, 0, b, h, hf => by simp at h; subst h; exact (flL_cons hf).1
  | x :: r, k + 1, b, h, hf => flL_at r k b (by simpa using h) (flL_cons hf).2
theorem fl_at (bs : List ArV) (hf : flL (bya bs) = 0) {k : Nat} (h : k < bs.length) : flawE (arz bs k).1 (arz bs k).2.1.2 (arz bs k).2.2.2 = 0 :=
  flL_at (bya bs) k (arz bs k).ar (by simp [bya, arz, h]) hf
theorem ixB_at : ∀ (l : List Ar) (s : List Int), (ixB l s = true ↔ ∀ k b, l[k]? = some b → ∀ i, i < b.2.2.length → 0 ≤ nth b.2.2 i ∧ nth b.2.2 i < nth s k)
  | [], s => by simp [ixB]
  | x :: r, s => by
    simp only [ixB, Bool.and_eq_true, List.all_eq_true, decide_eq_true_eq, ixB_at r s.tail]
    have et : ∀ k, nth s.tail k = nth s (k + 1) := fun k => by cases s <;> simp [nth]
    constructor
    · rintro ⟨h1, h2⟩ k b hk i hi
      cases k with
      | zero => simp at hk; subst hk; exact h1 _ (nth_mem _ _ hi)
      | succ k => rw [← et]; exact h2 k b (by simpa using hk) i hi
    · intro h
      refine ⟨fun y hy => ?_, fun k b hk i hi => ?_⟩
      · obtain ⟨i, hi, e⟩ := List.mem_iff_getElem.1 hy
        have := h 0 x rfl i hi
        rw [nth_get _ _ hi, e] at this
        exact this
      · rw [et]; exact h (k + 1) b (by simpa using hk) i hi
theorem ix_ok (bs : List ArV) (s : List Int) (h : ∀ k, k < bs.length → ∀ i, i < (arz bs k).2.2.2.length → 0 ≤ nth (arz bs k).2.2.2 i ∧ nth (arz bs k).2.2.2 i < nth s k) : ixB (bya bs) s = true :=
  (ixB_at _ s).2 fun k b hk i hi => by
    have hl : k < bs.length := by
      have := List.getElem?_eq_some_iff.1 hk
      obtain ⟨h1, _⟩ := this
      rw [bya_length] at h1
      exact h1
    have e : b = (arz bs k).ar := by
      have : (bya bs)[k]? = some (arz bs k).ar := by simp [bya, arz, hl]
      rw [this] at hk
      exact (Option.some.inj hk).symm
    subst e
    exact h k hl i hi
theorem ix_bad (bs : List ArV) (s : List Int) {k : Nat} (hk : k < bs.length) {i : Nat} (hi : i < (arz bs k).2.2.2.length) (h : ¬ (0 ≤ nth (arz bs k).2.2.2 i ∧ nth (arz bs k).2.2.2 i < nth s k)) : ixB (bya bs) s = false := by
  cases e : ixB (bya bs) s
  · rfl
  · exact absurd ((ixB_at _ s).1 e k (arz bs k).ar (by simp [bya, arz, hk]) i hi) h
/-- The shapes of six arrays at most: 36 axes at most. -/
theorem pkS_short : ∀ (l : List Ar), flL l = 0 → (pkS l).length ≤ 6 * l.length
  | [], _ => by simp [pkS]
  | b :: r, h => by
    have h1 := (errOf_zero.1 (flawE_zero (flL_cons h).1).1).1
    have h2 := pkS_short r (flL_cons h).2
    simp only [pkS, List.length_append, List.length_cons]
    omega
/-- The places that are told. -/
def plL (s : List Int) (bys : List Ar) : List Int := (List.range (prod (pkS bys)).toNat).map (pkP s bys)
theorem plL_length (s : List Int) (bys : List Ar) : (plL s bys).length = (prod (pkS bys)).toNat := by simp [plL]
theorem plL_nth (s : List Int) (bys : List Ar) {i : Nat} (h : i < (prod (pkS bys)).toNat) : nth (plL s bys) i = pkP s bys i := by simp [plL, nth, h]
/-- A part of the indices lies in its array. -/
theorem part_in (bs : List ArV) {t : List Int} (ht : insB (pkS (bya bs)) t = true) {k : Nat} (hk : k < bs.length) : insB (arz bs k).2.1.2 ((t.drop (offs bs k)).take (arz bs k).2.1.2.length) = true := by
  have hl := insB_len ht
  have h1 := insB_drop (offs bs k) ht
  have e : (pkS (bya bs)).drop (offs bs k) = (arz bs k).2.1.2 ++ pkS ((bya bs).drop (k + 1)) := by
    have e := congrArg (List.drop (offs bs k)) (pkS_cut bs hk)
    refine e.trans ?_
    unfold offs
    rw [List.drop_left]
  rw [e] at h1
  have hle := offs_le bs hk
  have hlen : ((t.drop (offs bs k)).take (arz bs k).2.1.2.length).length = (arz bs k).2.1.2.length := by
    rw [List.length_take, List.length_drop]; omega
  have h2 : insB ((arz bs k).2.1.2 ++ pkS ((bya bs).drop (k + 1))) ((t.drop (offs bs k)).take (arz bs k).2.1.2.length ++ (t.drop (offs bs k)).drop (arz bs k).2.1.2.length) = true := by
    rw [List.take_append_drop]; exact h1
  exact (insB_append hlen h2).1
end Go.Proofs.Ytlflacoiidhgoaa
