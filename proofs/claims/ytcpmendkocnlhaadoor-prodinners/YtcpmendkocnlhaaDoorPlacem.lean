/-
  Plain mathematics of the place of a cell, as it is reckoned from the last axis on.
-/
import Derived.Test.YtcpmendkocnlhaaDoorBase
namespace Go.Proofs.YtcpmendkocnlhaaDoor
open Go.RowKit
set_option linter.unusedVariables false

def plstep (zs ts : List Int) (s : Int × Int) (x : Ax zs.length) : Int × Int := (wrap64 (s.1 + wrap64 (nth ts x.1 * s.2)), wrap64 (s.2 * nth zs x.1))
theorem insB_drop : ∀ {s t : List Int} (k : Nat), insB s t = true → insB (s.drop k) (t.drop k) = true
  | _, _, 0, h => h
  | [], [], k + 1, _ => by simp [insB]
  | [], _ :: _, _, h => by simp [insB] at h
  | _ :: _, [], _, h => by simp [insB] at h
  | x :: s, a :: t, k + 1, h => by
    simp only [insB, Bool.and_eq_true] at h
    exact insB_drop k h.2
theorem prod_drop_le {s : List Int} (h : AllPos s) (k : Nat) : 0 < prod (s.drop k) ∧ prod (s.drop k) ≤ prod s := by
  induction s generalizing k with
  | nil => simp [prod]
  | cons x r ih =>
    have hx := h x List.mem_cons_self
    have h0 := ih h.tail 0
    simp only [List.drop_zero] at h0
    have h1 : 1 * prod r ≤ x * prod r := Int.mul_le_mul_of_nonneg_right (by omega) (by omega)
    cases k with
    | zero => simp only [List.drop_zero, prod]; omega
    | succ k =>
      have := ih h.tail k
      simp only [List.drop_succ_cons, prod]
      omega
theorem plfold (zs ts : List Int) (he : errOf zs = 0) (hi : insB zs ts = true) : (dn zs.length zs.length).foldl (plstep zs ts) (0, 1) = (place zs ts, prod zs) := by
  have hz := errOf_zero.1 he
  have hbd := place_bd hi
  have hpos := allPos_of_prod hz.2.1 (by omega)
  have hl := insB_len hi
  have := fold_dn zs.length (plstep zs ts) (fun k => (place (zs.drop k) (ts.drop k), prod (zs.drop k))) (fun k hk => by
    have e1 := drop_nth zs k hk
    have e2 := drop_nth ts k (by omega)
    have i1 := insB_drop k hi
    have i2 := insB_drop (k + 1) hi
    have b1 := place_bd i1
    have b2 := place_bd i2
    have p1 := prod_drop_le hpos k
    have p2 := prod_drop_le hpos (k + 1)
    rw [e1, e2] at b1
    have b3 := p1
    rw [e1] at b3
    simp only [place, prod] at b1 b3
    simp only [plstep]
    have hn : 0 ≤ nth ts k := ((insB_iff hl).1 hi k hk).1
    have h1 : 0 ≤ nth ts k * prod (zs.drop (k + 1)) := Int.mul_nonneg hn (by omega)
    have h4 : prod (zs.drop (k + 1)) * nth zs k = nth zs k * prod (zs.drop (k + 1)) := Int.mul_comm _ _
    rw [e1, e2]
    simp only [place, prod]
    rw [wrap64_small (n := nth ts k * prod (zs.drop (k + 1))) (by omega) (by omega), wrap64_small (by omega) (by omega), wrap64_small (by omega) (by omega), Int.add_comm, h4]) zs.length (Nat.le_refl _)
  simpa [place, prod, hl] using this
theorem insB_of_all {zs ts : List Int} (hl : ts.length = zs.length) (h : ∀ x ∈ dn zs.length zs.length, 0 ≤ nth ts x.1 ∧ nth ts x.1 < nth zs x.1) : insB zs ts = true :=
  (insB_iff hl).2 fun k hk => h ⟨k, hk⟩ (dn_mem _ _ _ (Nat.le_refl _) (by omega))
theorem plErr_bad {zs ts : List Int} (he : errOf zs ≠ 0) : plErr zs ts = errOf zs := by simp [plErr, he]
theorem plErr_rank {zs ts : List Int} (he : errOf zs = 0) (hl : ts.length ≠ zs.length) : plErr zs ts = 3 := by simp [plErr, he, hl]
theorem plErr_index {zs ts : List Int} (he : errOf zs = 0) (hl : ts.length = zs.length) (k : Nat) (hk : k < zs.length) (h : ¬ (0 ≤ nth ts k ∧ nth ts k < nth zs k)) : plErr zs ts = 5 := by
  have : ¬ insB zs ts = true := fun hi => h ((insB_iff hl).1 hi k hk)
  simp [plErr, he, hl, this]
theorem plVal_bad {zs ts : List Int} (h : plErr zs ts ≠ 0) : plVal zs ts = 0 := by simp [plVal, h]

def Ins (zs ts : List Int) (pre : List (Ax zs.length)) : Prop := ∀ x ∈ pre, 0 ≤ nth ts x.1 ∧ nth ts x.1 < nth zs x.1
def Out (zs ts : List Int) (pre : List (Ax zs.length)) : Prop := ∃ x ∈ pre, ¬ (0 ≤ nth ts x.1 ∧ nth ts x.1 < nth zs x.1)
theorem Ins.nil (zs ts : List Int) : Ins zs ts [] := fun x hx => by cases hx
theorem Ins.snoc {zs ts : List Int} {pre : List (Ax zs.length)} (h : Ins zs ts pre) {k : Nat} (hk : k < zs.length) (h1 : 0 ≤ nth ts k) (h2 : nth ts k < nth zs k) : Ins zs ts (pre ++ [⟨k, hk⟩]) := by
  intro x hx
  rcases List.mem_append.1 hx with hx | hx
  · exact h x hx
  · rw [List.mem_singleton] at hx; subst hx; exact ⟨h1, h2⟩
theorem Out.snoc {zs ts : List Int} {pre : List (Ax zs.length)} {k : Nat} (hk : k < zs.length) (h : ¬ (0 ≤ nth ts k ∧ nth ts k < nth zs k)) : Out zs ts (pre ++ [⟨k, hk⟩]) :=
  ⟨⟨k, hk⟩, List.mem_append_right _ (List.mem_singleton.2 rfl), h⟩
def plp (zs ts : List Int) (pre : List (Ax zs.length)) : Int := (pre.foldl (plstep zs ts) (0, 1)).1
def plt (zs ts : List Int) (pre : List (Ax zs.length)) : Int := (pre.foldl (plstep zs ts) (0, 1)).2
theorem plp_snoc (zs ts : List Int) (pre : List (Ax zs.length)) (k : Nat) (hk : k < zs.length) : plp zs ts (pre ++ [⟨k, hk⟩]) = wrap64 (plp zs ts pre + wrap64 (nth ts k * plt zs ts pre)) := by
  simp only [plp, plt, List.foldl_append, List.foldl_cons, List.foldl_nil, plstep]
theorem plt_snoc (zs ts : List Int) (pre : List (Ax zs.length)) (k : Nat) (hk : k < zs.length) : plt zs ts (pre ++ [⟨k, hk⟩]) = wrap64 (plt zs ts pre * nth zs k) := by
  simp only [plt, List.foldl_append, List.foldl_cons, List.foldl_nil, plstep]

end Go.Proofs.YtcpmendkocnlhaaDoor
