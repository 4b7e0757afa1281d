/-
  Rows of a matrix that change places; a row that is another one: what becomes of the determinant.
-/
import Derived.Deep.DeepCutAuto
import Derived.Test.YtjaabemlpiafaabMtb
import Derived.Test.YtjaabemlpiafaabJoinc
namespace Go.Proofs.Ytjaabemlpiafaab
open Go.RowKit
set_option linter.unusedVariables false

theorem cls_set {n r c : Nat} (hr : r < n) (hc : c < n) (F : Mx) (v : Int) : (cls n F).set (r * n + c) v = cls n (ptg F r c v) := by
  refine List.ext_getElem (by rw [List.length_set, cls_len, cls_len]) fun p h1 h2 => ?_
  have hp : p < n * n := by rw [cls_len] at h2; exact h2
  obtain ⟨d1, d2, d3⟩ := div_row hp
  rw [List.getElem_set, ← nth_get _ _ h2, cls_nth _ hp]
  unfold ptg
  by_cases e : r * n + c = p
  · rw [if_pos e, if_pos ⟨by rw [← e, row_div hc], by rw [← e, row_mod hc]⟩]
  · rw [if_neg e, if_neg (fun q => e (by rw [← q.1, ← q.2]; exact d3)), ← nth_get _ _ (by rw [cls_len]; exact hp), cls_nth _ hp]
section
variable {n : Nat} {F : Mx → Int}
/-- Any two in each other's place. -/
theorem Alt.swapped (H : Alt n F) (C : Mx) {p q : Nat} (hp : p < n) (hq : q < n) (hne : p ≠ q) : F (upd (upd C p (C q)) q (C p)) = -F C := by
  have h0 : F (upd (upd C p fun i => C p i + C q i) q fun i => C p i + C q i) = 0 := H.twice _ hp hq hne fun i _ => by rw [upd_ne _ _ hne, upd_at, upd_at]
  have h1 : F (upd (upd C p (C p)) q (C p)) = 0 := H.twice _ hp hq hne fun i _ => by rw [upd_ne _ _ hne, upd_at, upd_at]
  have h2 : F (upd (upd C p (C q)) q (C q)) = 0 := H.twice _ hp hq hne fun i _ => by rw [upd_ne _ _ hne, upd_at, upd_at]
  have h3 : F (upd (upd C p (C p)) q (C q)) = F C := by rw [upd_self, upd_self]
  rw [H.add _ _ _ hq, upd_swap _ hne, H.add _ _ _ hp, upd_swap C hne (fun i => C p i + C q i) (C q), H.add _ _ _ hp, ← upd_swap C hne (C p) (C p), ← upd_swap C hne (C q) (C p), ← upd_swap C hne (C p) (C q), ← upd_swap C hne (C q) (C q), h1, h2, h3] at h0
  omega
end
/-- Two rows in each other's place, in the columns ahead of t. -/
def swF (A : Mx) (i j t : Nat) : Mx := fun r c => if c < t ∧ r = i then A j c else if c < t ∧ r = j then A i c else A r c
/-- One row in another one's place, in the columns ahead of t. -/
def swG (A : Mx) (i j t : Nat) : Mx := fun r c => if c < t ∧ r = i then A j c else A r c
theorem swF_zero (A : Mx) (i j : Nat) : swF A i j 0 = A := by funext r c; unfold swF; rw [if_neg (by omega), if_neg (by omega)]
theorem swG_zero (A : Mx) (i j : Nat) : swG A i j 0 = A := by funext r c; unfold swG; rw [if_neg (by omega)]
theorem swF_next {A : Mx} {i j : Nat} (hne : i ≠ j) (t : Nat) : ptg (ptg (swF A i j t) i t (A j t)) j t (A i t) = swF A i j (t + 1) := by
  funext r c
  unfold ptg swF
  by_cases h1 : r = j ∧ c = t
  · rw [if_pos h1, if_neg (by omega), if_pos (by omega), h1.2]
  · rw [if_neg h1]
    by_cases h2 : r = i ∧ c = t
    · rw [if_pos h2, if_pos (by omega), h2.2]
    · rw [if_neg h2]
      by_cases h3 : c < t ∧ r = i
      · rw [if_pos h3, if_pos (by omega)]
      · rw [if_neg h3, if_neg (show ¬ (c < t + 1 ∧ r = i) by omega)]
        by_cases h4 : c < t ∧ r = j
        · rw [if_pos h4, if_pos (show c < t + 1 ∧ r = j by omega)]
        · rw [if_neg h4, if_neg (show ¬ (c < t + 1 ∧ r = j) by omega)]
theorem swG_next {A : Mx} {i j : Nat} (t : Nat) : ptg (swG A i j t) i t (A j t) = swG A i j (t + 1) := by
  funext r c
  unfold ptg swG
  by_cases h2 : r = i ∧ c = t
  · rw [if_pos h2, if_pos (by omega), h2.2]
  · rw [if_neg h2]
    by_cases h3 : c < t ∧ r = i
    · rw [if_pos h3, if_pos (by omega)]
    · rw [if_neg h3, if_neg (by omega)]
theorem swF_dt {n i j : Nat} (hi : i < n) (hj : j < n) (hne : i ≠ j) (A : Mx) : dt n (rdg n (cls n (swF A i j n))) = -dt n A := by
  rw [← (dt_alt n).swapped A hi hj hne]
  refine dt_ext fun r hr c hc => ?_
  rw [rdg_cls hr hc]
  unfold swF upd
  by_cases h1 : r = j
  · rw [if_neg (by omega), if_pos ⟨hc, h1⟩, if_pos h1]
  · rw [if_neg h1]
    by_cases h2 : r = i
    · rw [if_pos ⟨hc, h2⟩, if_pos h2]
    · rw [if_neg (by omega), if_neg (by omega), if_neg h2]
theorem swG_dt {n i j : Nat} (hi : i < n) (hj : j < n) (hne : i ≠ j) (A : Mx) : dt n (rdg n (cls n (swG A i j n))) = 0 := by
  refine (dt_alt n).twice _ hi hj hne fun c hc => ?_
  rw [rdg_cls hi hc, rdg_cls hj hc]
  unfold swG
  rw [if_pos ⟨hc, rfl⟩, if_neg (by omega)]
/-- A row with other numbers, in the columns ahead of u. -/
def rwF (A : Mx) (i : Nat) (v : Nat → Int) (u : Nat) : Mx := fun r c => if c < u ∧ r = i then v c else A r c
theorem rwF_zero (A : Mx) (i : Nat) (v : Nat → Int) : rwF A i v 0 = A := by funext r c; unfold rwF; rw [if_neg (by omega)]
theorem rwF_next {A : Mx} {i : Nat} (v : Nat → Int) (t : Nat) : ptg (rwF A i v t) i t (v t) = rwF A i v (t + 1) := by
  funext r c
  unfold ptg rwF
  by_cases h2 : r = i ∧ c = t
  · rw [if_pos h2, if_pos (by omega), h2.2]
  · rw [if_neg h2]
    by_cases h3 : c < t ∧ r = i
    · rw [if_pos h3, if_pos (by omega)]
    · rw [if_neg h3, if_neg (by omega)]
theorem rwF_dt (n : Nat) (A : Mx) (i : Nat) (v : Nat → Int) : dt n (rdg n (cls n (rwF A i v n))) = dt n (upd A i v) := by
  refine dt_ext fun r hr c hc => ?_
  rw [rdg_cls hr hc]
  unfold rwF upd
  by_cases h : r = i
  · rw [if_pos ⟨hc, h⟩, if_pos h]
  · rw [if_neg (by omega), if_neg h]
theorem row_lin {n i : Nat} (hi : i < n) (A : Mx) (t : Int) (r : Nat → Int) : wrap64 (dt n (rdg n (cls n (rwF A i (fun c => wrap64 (wrap64 (t * A i c) + r c)) n)))) = wrap64 (wrap64 (t * wrap64 (dt n A)) + wrap64 (dt n (rdg n (cls n (rwF A i r n))))) := by
  rw [rwF_dt, rwF_dt, w_mulr, w_addl, w_addr]
  have h := (dt_alt n).lin A i t (A i) r hi
  rw [upd_self] at h
  rw [← h]
  refine cg.dt fun a ha b hb => ?_
  unfold upd
  by_cases e : a = i
  · rw [if_pos e, if_pos e]
    show wrap64 (wrap64 _) = wrap64 _
    rw [w_w, w_addl]
  · rw [if_neg e, if_neg e]
    exact cg.rfl' _
theorem sdet_eq (n : Nat) (hn : n ≤ 6) (sa : Option Addr) (sc : Nat) (da : Option Addr) (dc : Nat) (dz : List Int) (m : Nat) (hm : dz.length = m) (hl : dz.length = n * n) (x : Int) (hx : wrap64 (dt n (rdg n dz)) = x) (w : World) (hs : IsInts w.heap.size w sa [(n : Int), (n : Int)]) (hd : IsInts w.heap.size w da dz) :
    Calls Try.prog 16 #[.agg #[.bool false, .slice sa 2 sc, .slice da m dc]] w fun e w' => e = .returned (.int .i64 x) ∧ Below w.heap.size w w' := by
  subst hx
  exact sdet_any n hn sa sc da dc dz m hm hl w hs hd
theorem cel14 {w v : World} {b o p : Nat} {zs : List Int} (h : IsInts w.heap.size w (some ⟨b, o, none⟩) zs) (hB : Below w.heap.size w v) (hp : p < zs.length) : v.cell? ⟨b, o + p, none⟩ = some (.int .i64 (nth zs p)) := by
  obtain ⟨b', o', e, _, hc⟩ := (h.below hB).at hp
  cases e
  exact hc p hp
theorem mid14 {lo hi : Nat} {W : World} {b o cap p : Nat} {zs : List Int} (h : MidC lo hi W (some ⟨b, o, none⟩) zs cap) (hp : p < zs.length) : lo ≤ b ∧ b < hi ∧ W.cell? ⟨b, o + p, none⟩ = some (.int .i64 (nth zs p)) ∧ W.frozen? ⟨b, o + p, none⟩ = false := by
  obtain ⟨b', o', e, h1, h2, h3, h4⟩ := h.at hp
  cases e
  exact ⟨h1, h2, h3, h4⟩
end Go.Proofs.Ytjaabemlpiafaab
