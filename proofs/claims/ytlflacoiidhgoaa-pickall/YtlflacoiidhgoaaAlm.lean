/-
  What is wrong with an array and with some: plain mathematics.
-/
import Derived.Test.YtlflacoiidhgoaaNmm
namespace Go.Proofs.Ytlflacoiidhgoaa
open Go.RowKit
set_option linter.unusedVariables false

def alE (c : Bool) (s dz : List Int) (bys : List Ar) : Int := if flawE c s dz ≠ 0 then flawE c s dz else flL bys
theorem flL_ok {x : Ar} (r : List Ar) (h : flawE x.1 x.2.1 x.2.2 = 0) : flL (x :: r) = flL r := if_neg (not_not_intro h)
theorem flL_no {x : Ar} (r : List Ar) (h : flawE x.1 x.2.1 x.2.2 ≠ 0) : flL (x :: r) = flawE x.1 x.2.1 x.2.2 := if_pos h
theorem alE_ok {c : Bool} {s dz : List Int} (l : List Ar) (h : flawE c s dz = 0) : alE c s dz l = flL l := if_neg (not_not_intro h)
theorem alE_no {c : Bool} {s dz : List Int} (l : List Ar) (h : flawE c s dz ≠ 0) : alE c s dz l = flawE c s dz := if_pos h
theorem flL_snoc (l : List Ar) (b : Ar) : flL (l ++ [b]) = if flL l = 0 then flawE b.1 b.2.1 b.2.2 else flL l := by
  induction l with
  | nil =>
    show flL [b] = if (0 : Int) = 0 then _ else _
    rw [if_pos rfl]
    by_cases h : flawE b.1 b.2.1 b.2.2 = 0
    · rw [flL_ok _ h, h]; rfl
    · rw [flL_no _ h]
  | cons x r ih =>
    rw [List.cons_append]
    by_cases h : flawE x.1 x.2.1 x.2.2 = 0
    · rw [flL_ok _ h, flL_ok _ h, ih]
    · rw [flL_no _ h, flL_no _ h, if_neg h]
theorem alE_snoc (c : Bool) (s dz : List Int) (l : List Ar) (b : Ar) : alE c s dz (l ++ [b]) = if alE c s dz l = 0 then flawE b.1 b.2.1 b.2.2 else alE c s dz l := by
  by_cases h : flawE c s dz = 0
  · rw [alE_ok _ h, alE_ok _ h, flL_snoc]
  · rw [alE_no _ h, alE_no _ h, if_neg h]
theorem alE_zero {c : Bool} {s dz : List Int} {bys : List Ar} (h : alE c s dz bys = 0) : flawE c s dz = 0 ∧ flL bys = 0 := by
  by_cases e : flawE c s dz = 0
  · rw [alE_ok _ e] at h; exact ⟨e, h⟩
  · rw [alE_no _ e] at h; exact absurd h e
theorem pkE_al {c : Bool} {s dz : List Int} {bys : List Ar} (h : alE c s dz bys ≠ 0) : pkE c s dz bys = alE c s dz bys := by
  unfold pkE
  by_cases e : flawE c s dz = 0
  · rw [alE_ok _ e] at h ⊢
    rw [if_neg (not_not_intro e), if_pos h]
  · rw [alE_no _ e, if_pos e]
theorem pkE_nm {c : Bool} {s dz : List Int} {bys : List Ar} (h : alE c s dz bys = 0) : pkE c s dz bys = nmE s bys := by
  unfold pkE
  rw [if_neg (not_not_intro (alE_zero h).1), if_neg (not_not_intro (alE_zero h).2)]
theorem flL_append (l r : List Ar) (h : flL l = 0) : flL (l ++ r) = flL r := by
  induction l with
  | nil => rfl
  | cons x l ih =>
    obtain ⟨h1, h2⟩ := flL_cons h
    rw [List.cons_append, flL_ok _ h1, ih h2]
theorem fl_next (bs : List ArV) {k : Nat} (h : k < bs.length) (h0 : flL ((bya bs).take k) = 0) (hf : flawE (arz bs k).1 (arz bs k).2.1.2 (arz bs k).2.2.2 = 0) : flL ((bya bs).take (k + 1)) = 0 := by
  rw [bya_take bs h, flL_append _ _ h0, flL_ok _ hf]; rfl
theorem fl_bad (bs : List ArV) {k : Nat} (h : k < bs.length) (h0 : flL ((bya bs).take k) = 0) (hf : flawE (arz bs k).1 (arz bs k).2.1.2 (arz bs k).2.2.2 ≠ 0) : flL (bya bs) = flawE (arz bs k).1 (arz bs k).2.1.2 (arz bs k).2.2.2 := by
  rw [bya_cut bs h, flL_append _ _ h0]
  exact flL_no _ hf
/-- Why arrays are no indices of the axes, whatever their numbers are. -/
def ciE (s : List Int) (bys : List Ar) : Int := if bys.length ≠ s.length then 3 else if chL bys = true then 6 else 0
theorem ciE_zero {s : List Int} {bys : List Ar} : ciE s bys = 0 ↔ bys.length = s.length ∧ chL bys = false := by
  unfold ciE
  by_cases h : bys.length = s.length
  · rw [if_neg (not_not_intro h)]
    cases hc : chL bys <;> simp [h]
  · rw [if_pos h]; exact ⟨fun e => absurd e (by decide), fun e => absurd e.1 h⟩
theorem nmE_ci {s : List Int} {bys : List Ar} (h : ciE s bys ≠ 0) : nmE s bys = ciE s bys := by
  unfold ciE at h ⊢
  unfold nmE
  by_cases h1 : bys.length = s.length
  · rw [if_neg (not_not_intro h1)] at h ⊢
    rw [if_neg (not_not_intro h1)]
    by_cases h2 : chL bys = true
    · rw [if_pos h2, if_pos h2]
    · rw [if_neg h2] at h; exact absurd rfl h
  · rw [if_pos h1, if_pos h1]
theorem nmE_err {s : List Int} {bys : List Ar} (h : ciE s bys = 0) (he : errOf (pkS bys) ≠ 0) : nmE s bys = errOf (pkS bys) := by
  obtain ⟨h1, h2⟩ := ciE_zero.1 h
  unfold nmE
  rw [if_neg (not_not_intro h1), if_neg (by rw [h2]; decide), if_pos he]
theorem nmE_ix {s : List Int} {bys : List Ar} (h : ciE s bys = 0) (he : errOf (pkS bys) = 0) (hi : ixB bys s = false) : nmE s bys = 5 := by
  obtain ⟨h1, h2⟩ := ciE_zero.1 h
  unfold nmE
  rw [if_neg (not_not_intro h1), if_neg (by rw [h2]; decide), if_neg (not_not_intro he), if_pos hi]
theorem nmE_ok {s : List Int} {bys : List Ar} (h : ciE s bys = 0) (he : errOf (pkS bys) = 0) (hi : ixB bys s = true) : nmE s bys = 0 := by
  obtain ⟨h1, h2⟩ := ciE_zero.1 h
  exact nmE_zero.2 ⟨h1, h2, he, hi⟩
end Go.Proofs.Ytlflacoiidhgoaa
