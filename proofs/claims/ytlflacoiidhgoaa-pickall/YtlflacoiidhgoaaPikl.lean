/-
  Plain mathematics: a lens, some of some; nothing of the program.
-/
import Derived.Test.YtlflacoiidhgoaaPikm
namespace Go.Proofs.Ytlflacoiidhgoaa
open Go.RowKit
set_option linter.unusedVariables false

theorem prod_nil : prod [] = 1 := rfl
theorem nth_rep (n : Nat) (v : Int) {k : Nat} (h : k < n) : nth (List.replicate n v) k = v := by simp [nth, h]
section
variable {c cv : Bool} {s dz sv dv : List Int} {bys : List Ar}
theorem ptE_zero : ptE c s dz bys cv sv dv = 0 ↔ pkE c s dz bys = 0 ∧ flawE cv sv dv = 0 ∧ c = cv ∧ (sv.length = 0 ∨ sv = pkS bys) := by
  unfold ptE pkE
  by_cases h1 : flawE c s dz = 0
  · rw [if_neg (show ¬ flawE c s dz ≠ 0 by simpa using h1), if_neg (show ¬ flawE c s dz ≠ 0 by simpa using h1)]
    by_cases h2 : flL bys = 0
    · rw [if_neg (show ¬ flL bys ≠ 0 by simpa using h2), if_neg (show ¬ flL bys ≠ 0 by simpa using h2)]
      by_cases h3 : flawE cv sv dv = 0
      · rw [if_neg (show ¬ flawE cv sv dv ≠ 0 by simpa using h3)]
        by_cases h4 : nmE s bys = 0
        · rw [if_neg (show ¬ nmE s bys ≠ 0 by simpa using h4)]
          by_cases h5 : c = cv
          · rw [if_neg (show ¬ c ≠ cv by simpa using h5)]
            by_cases h6 : sv.length = 0
            · rw [if_pos h6]; exact ⟨fun _ => ⟨h4, h3, h5, .inl h6⟩, fun _ => rfl⟩
            · rw [if_neg h6]
              by_cases h7 : sv.length = (pkS bys).length
              · rw [if_neg (show ¬ sv.length ≠ (pkS bys).length by simpa using h7)]
                by_cases h8 : sv = pkS bys
                · rw [if_neg (show ¬ sv ≠ pkS bys by simpa using h8)]; exact ⟨fun _ => ⟨h4, h3, h5, .inr h8⟩, fun _ => rfl⟩
                · rw [if_pos h8]; exact ⟨fun e => absurd e (by decide), fun e => (e.2.2.2.elim (fun q => absurd q h6) (fun q => absurd q h8))⟩
              · rw [if_pos h7]; exact ⟨fun e => absurd e (by decide), fun e => (e.2.2.2.elim (fun q => absurd q h6) (fun q => absurd (by rw [q]) h7))⟩
          · rw [if_pos h5]; exact ⟨fun e => absurd e (by decide), fun e => absurd e.2.2.1 h5⟩
        · rw [if_pos h4]; exact ⟨fun e => absurd e h4, fun e => absurd e.1 h4⟩
      · rw [if_pos h3]; exact ⟨fun e => absurd e h3, fun e => absurd e.2.1 h3⟩
    · rw [if_pos h2, if_pos h2]; exact ⟨fun e => absurd e h2, fun e => absurd e.1 h2⟩
  · rw [if_pos h1, if_pos h1]; exact ⟨fun e => absurd e h1, fun e => absurd e.1 h1⟩
/-- The cells that are put, where all goes together. -/
theorem putW_len (h : ptE c s dz bys cv sv dv = 0) : (putW (prod (pkS bys)).toNat sv dv).length = (prod (pkS bys)).toNat := by
  obtain ⟨h1, h2, h3, h4⟩ := ptE_zero.1 h
  have hd := (flawE_zero h2).2.1
  have hp := prod_nonneg (errOf_zero.1 (pkE_zero.1 h1).2.2.2.2.1).2.1
  unfold putW
  by_cases h6 : sv.length = 0
  · rw [if_pos h6, List.length_replicate]
  · rw [if_neg h6]
    rcases h4 with h4 | h4
    · exact absurd h4 h6
    · rw [h4] at hd; omega
theorem putW_mem (h : ptE c s dz bys cv sv dv = 0) {k : Nat} (hk : k < (prod (pkS bys)).toNat) : nth (putW (prod (pkS bys)).toNat sv dv) k ∈ dv := by
  obtain ⟨h1, h2, h3, h4⟩ := ptE_zero.1 h
  have hl := putW_len h
  unfold putW at hl ⊢
  by_cases h6 : sv.length = 0
  · rw [if_pos h6, nth_rep _ _ hk]
    have hd := (flawE_zero h2).2.1
    rw [List.eq_nil_of_length_eq_zero h6, prod_nil] at hd
    exact nth_mem dv 0 (by omega)
  · rw [if_neg h6] at hl ⊢
    exact nth_mem dv k (by omega)
/-- A cell behind a Put: what was there, where nothing names it; else one of what was put. -/
theorem ptV_or (h : ptE c s dz bys cv sv dv = 0) {j : Nat} (hj : j < dz.length) : (nth (ptV s dz bys sv dv) j = nth dz j ∧ ∀ k, k < (prod (pkS bys)).toNat → pkP s bys k ≠ j) ∨ ((∃ k, k < (prod (pkS bys)).toNat ∧ pkP s bys k = j) ∧ nth (ptV s dz bys sv dv) j ∈ dv) := by
  rw [ptV_nth s dz bys sv dv hj]
  rcases lstV_or (pkP s bys) (putW (prod (pkS bys)).toNat sv dv) j (nth dz j) (prod (pkS bys)).toNat with h1 | ⟨k, hk, hP, h1, _⟩
  · exact .inl h1
  · exact .inr ⟨⟨k, hk, hP⟩, by rw [h1]; exact putW_mem h hk⟩
theorem pt_flaw7 (h : ptE c s dz bys cv sv dv = 0) : flawE c s (ptV s dz bys sv dv) = 0 := by
  obtain ⟨h1, h2, h3, h4⟩ := ptE_zero.1 h
  have f1 := (pkE_zero.1 h1).1
  obtain ⟨e1, e2, e3⟩ := flawE_zero f1
  have hl : ((ptV s dz bys sv dv).length : Int) = prod s := by rw [ptV_length]; exact e2
  cases c
  · exact flawE_okn e1 hl
  · refine flawE_okc e1 hl ?_
    have g3 := (flawE_zero h2).2.2 h3.symm
    have e3 := e3 rfl
    unfold chAll at *
    rw [List.all_eq_true] at *
    intro y hy
    obtain ⟨j, hj, rfl⟩ := List.mem_iff_getElem.1 hy
    rw [ptV_length] at hj
    rw [← nth_get _ j (by rw [ptV_length]; exact hj)]
    rcases ptV_or h hj with ⟨q, _⟩ | ⟨_, q⟩
    · rw [q]; exact e3 _ (nth_mem dz j hj)
    · exact g3 _ q
theorem pt_647 (h : ptE c s dz bys cv sv dv = 0) (T : ∀ j, In64 (nth dz j)) (T' : ∀ j, In64 (nth dv j)) : ∀ j, In64 (nth (ptV s dz bys sv dv) j) := fun j => by
  by_cases hj : j < dz.length
  · rcases ptV_or h hj with ⟨q, _⟩ | ⟨_, q⟩
    · rw [q]; exact T j
    · obtain ⟨i, hi, e⟩ := List.mem_iff_getElem.1 q
      rw [← e, ← nth_get dv i hi]; exact T' i
  · have : nth (ptV s dz bys sv dv) j = 0 := by simp [nth, List.getElem?_eq_none (show (ptV s dz bys sv dv).length ≤ j by rw [ptV_length]; omega)]
    rw [this]; unfold In64; decide
/-- What is told, put back, changes nothing. -/
theorem lens1 (h : pkE c s dz bys = 0) : ptE c s dz bys c (pkS bys) (pkD s dz bys) = 0 ∧ ptV s dz bys (pkS bys) (pkD s dz bys) = dz := by
  have h0 : ptE c s dz bys c (pkS bys) (pkD s dz bys) = 0 := ptE_zero.2 ⟨h, pk_flaw h, rfl, .inr rfl⟩
  refine ⟨h0, nth_ext (ptV_length _ _ _ _ _) fun j hj => ?_⟩
  rw [ptV_length] at hj
  rw [ptV_nth _ _ _ _ _ hj]
  refine lstV_back _ _ _ _ _ fun k hk hP => ?_
  have e : nth (putW (prod (pkS bys)).toNat (pkS bys) (pkD s dz bys)) k = nth (pkD s dz bys) k := by
    unfold putW
    by_cases h6 : (pkS bys).length = 0
    · rw [if_pos h6, nth_rep _ _ hk]
      rw [List.eq_nil_of_length_eq_zero h6, prod_nil] at hk
      rw [show k = 0 by omega]
    · rw [if_neg h6]
  rw [e, pkD_nth hk, hP, Int.toNat_natCast]
/-- What is put twice is what was put last. -/
theorem lens2 {cw : Bool} {sw dw : List Int} (h : ptE c s dz bys cv sv dv = 0) : ptE c s (ptV s dz bys sv dv) bys cw sw dw = ptE c s dz bys cw sw dw ∧ ptV s (ptV s dz bys sv dv) bys sw dw = ptV s dz bys sw dw := by
  have f1 := (pkE_zero.1 (ptE_zero.1 h).1).1
  have f2 := pt_flaw7 h
  constructor
  · unfold ptE
    rw [f1, f2]
  · refine nth_ext (by rw [ptV_length, ptV_length, ptV_length]) fun j hj => ?_
    rw [ptV_length, ptV_length] at hj
    rw [ptV_nth _ _ _ _ _ (by rw [ptV_length]; exact hj), ptV_nth _ _ _ _ _ hj, ptV_nth _ _ _ _ _ hj]
    exact lstV_over _ _ _ _ _ _
theorem pkE_data {dz' : List Int} (h : flawE c s dz = 0) {c' : Bool} (h' : flawE c' s dz' = 0) : pkE c' s dz' bys = pkE c s dz bys := by unfold pkE; rw [h, h']
/-- Where no place is told twice, what was put is told. -/
theorem lens3 (h : ptE c s dz bys cv sv dv = 0) (ho : ∀ i k, i < (prod (pkS bys)).toNat → k < (prod (pkS bys)).toNat → pkP s bys i = pkP s bys k → i = k) :
    pkE c s (ptV s dz bys sv dv) bys = 0 ∧ pkD s (ptV s dz bys sv dv) bys = putW (prod (pkS bys)).toNat sv dv := by
  obtain ⟨h1, h2, h3, h4⟩ := ptE_zero.1 h
  have f1 := (pkE_zero.1 h1).1
  have hd := (flawE_zero f1).2.1
  have e0 : pkE c s (ptV s dz bys sv dv) bys = 0 := by rw [pkE_data f1 (pt_flaw7 h)]; exact h1
  refine ⟨e0, nth_ext (by rw [putW_len h]; unfold pkD; rw [TA_length]) fun k hk => ?_⟩
  have hk' : k < (prod (pkS bys)).toNat := by unfold pkD at hk; rwa [TA_length] at hk
  have hb := pkP_bd h1 hk'
  rw [pkD_nth hk', ptV_nth _ _ _ _ _ (by omega), Int.toNat_of_nonneg hb.1]
  exact lstV_once _ _ _ _ ho hk'
end
/-! ### Some of some -/
theorem pkS_one (b : Ar) : pkS [b] = b.2.1 := by simp [pkS]
theorem pkT_one {b : Ar} {t : List Int} (h : t.length = b.2.1.length) : pkT [b] t = [cel b.2.1 b.2.2 t] := by simp only [pkT]; rw [List.take_of_length_le (by omega)]
theorem chains {c : Bool} {s dz : List Int} {b : Ar} {more : List Ar} (h1 : pkE c s dz [b] = 0) (h2 : pkE c (pkS [b]) (pkD s dz [b]) more = 0) :
    pkE b.1 b.2.1 b.2.2 more = 0 ∧ pkE c s dz [(b.1, (pkS more, pkD b.2.1 b.2.2 more))] = 0 ∧ pkS [(b.1, (pkS more, pkD b.2.1 b.2.2 more))] = pkS more ∧ pkD s dz [(b.1, (pkS more, pkD b.2.1 b.2.2 more))] = pkD (pkS [b]) (pkD s dz [b]) more := by
  obtain ⟨a1, a2, a3, a4, a5, a6⟩ := pkE_zero.1 h1
  obtain ⟨b1, b2, b3, b4, b5, b6⟩ := pkE_zero.1 h2
  have fb := (flL_cons a2).1
  rw [pkS_one] at h2 a5 b1 b3 b6
  have e1 : pkE b.1 b.2.1 b.2.2 more = 0 := pkE_zero.2 ⟨fb, b2, b3, b4, b5, b6⟩
  have hS : pkS [(b.1, (pkS more, pkD b.2.1 b.2.2 more))] = pkS more := pkS_one _
  have fu := pk_flaw e1
  have e2 : pkE c s dz [(b.1, (pkS more, pkD b.2.1 b.2.2 more))] = 0 := by
    refine pkE_zero.2 ⟨a1, ?_, a3, ?_, by rw [hS]; exact b5, ?_⟩
    · simp only [flL]; rw [if_neg (by simpa using fu)]
    · simpa [chL] using a4
    · simp only [ixB, Bool.and_true] at a6 ⊢
      rw [List.all_eq_true] at a6 ⊢
      intro i hi
      obtain ⟨t, ht, rfl⟩ := TA_mem b5 hi
      have hin := pk_in e1 ht
      have hp := place_bd hin
      have hd := (flawE_zero fb).2.1
      exact a6 _ (nth_mem _ _ (by omega))
  refine ⟨e1, e2, hS, ?_⟩
  have hU : ∀ t, insB (pkS more) t = true → cel (pkS more) (pkD b.2.1 b.2.2 more) t = cel b.2.1 b.2.2 (pkT more t) := fun t ht => TA_at b5 ht
  have hX : ∀ t, insB b.2.1 t = true → cel (pkS [b]) (pkD s dz [b]) t = cel s dz (pkT [b] t) := fun t ht => by
    unfold pkD
    exact TA_at (by rw [pkS_one]; exact a5) (by rw [pkS_one]; exact ht)
  generalize pkD b.2.1 b.2.2 more = U at *
  show TA (pkS [(b.1, (pkS more, U))]) (fun t => cel s dz (pkT [(b.1, (pkS more, U))] t)) = TA (pkS more) (fun t => cel (pkS [b]) (pkD s dz [b]) (pkT more t))
  rw [hS]
  refine TA_congr b5 fun t ht => ?_
  have hin := pk_in e1 ht
  rw [hX _ hin, pkT_one (insB_len hin), pkT_one (insB_len ht)]
  show cel s dz [cel (pkS more) U t] = _
  rw [hU t ht]
end Go.Proofs.Ytlflacoiidhgoaa
