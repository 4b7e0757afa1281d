/-
  Plain mathematics of a line with a line, and of a table in two parts, as the statements' walks use it.
-/
import Derived.Test.YtcpmendkocnlhabPrdx
import Derived.Test.YtcpmendkocnlhabCutq
namespace Go.Proofs.Ytcpmendkocnlhab
open Go.RowKit
set_option linter.unusedVariables false

section
variable {f g : Int} {c1 c2 c3 : Bool} {sz1 dz1 sz2 dz2 sz3 dz3 : List Int}
theorem l64z {l : List Int} (h : L64 l) (j : Nat) : In64 (nth l j) := by
  by_cases hj : j < l.length
  · rw [nth_get l j hj]; exact h _ (List.getElem_mem hj)
  · have : nth l j = 0 := by unfold nth; simp [List.getD, List.getElem?_eq_none (by omega : l.length ≤ j)]
    rw [this]; unfold In64; decide
theorem l64y {l : List Int} (T : ∀ j, In64 (nth l j)) : L64 l := fun x hx => by
  obtain ⟨j, hj, rfl⟩ := List.getElem_of_mem hx
  have := T j
  rwa [nth_get l j hj] at this
theorem e2C_64 {d : List Int} (T : ∀ j, In64 (nth d j)) (i : Nat) : In64 (e2C d i) := by
  unfold e2C cyA
  split
  · unfold In64; decide
  · exact T _
theorem e2V_64z (T1 : ∀ j, In64 (nth dz1 j)) (T2 : ∀ j, In64 (nth dz2 j)) : ∀ j, In64 (nth (e2V f c1 sz1 dz1 c2 sz2 dz2) j) := l64z (L64.map fun k _ => tcV_64 (e2C_64 T1 k) (e2C_64 T2 k))
theorem one_form {c : Bool} {s d : List Int} (h : s.length = 1) : ∃ N : Int, s = [N] := by
  match s, h with
  | [N], _ => exact ⟨N, rfl⟩
theorem lines13 (F1 : flawE c1 sz1 dz1 = 0) (F2 : flawE c2 sz2 dz2 = 0) (h1 : sz1.length = 1) (ES : sz1 = sz2) (T1 : ∀ j, In64 (nth dz1 j)) (T2 : ∀ j, In64 (nth dz2 j)) :
    ∃ D0 DD : List Int, (e2V g c1 sz1 dz1 c2 sz2 dz2 = D0 ∧ shp sz1 sz2 = sz1) ∧ (inE f g c1 sz1 dz1 c2 sz2 dz2 = 0 ↔ e2E g c1 sz1 dz1 c2 sz2 dz2 = 0 ∧ rdE f 0 false sz1 D0 = 0) ∧ (inS sz1 sz2 = [] ∧ inD f g c1 sz1 dz1 c2 sz2 dz2 = DD) ∧ (xout (0 : Int).toNat sz1 = [] ∧ rdD f sz1 D0 (0 : Int).toNat = DD) ∧
      (∀ j, In64 (nth D0 j)) ∧ D0.length ≤ 4096 ∧ DD.length ≤ 4096 := by
  subst ES
  obtain ⟨N, rfl⟩ := one_form (c := c1) (d := dz1) h1
  obtain ⟨q1, q2, q3⟩ := in_lines (f := f) (g := g) F1 F2
  have hN : e2N [N] [N] = N.toNat := by unfold e2N shp; simp [prod]
  have l1 := len_vec F1
  refine ⟨_, _, ⟨rfl, rfl⟩, q1, ⟨q2, rfl⟩, ⟨rfl, q3.symm⟩, e2V_64z T1 T2, ?_, ?_⟩
  · rw [e2V_length, hN]; have := (flawE_short F1).2; omega
  · have : (inD f g c1 [N] dz1 c2 [N] dz2).length = 1 := by unfold inD; rw [TA_length]; rfl
    omega
/-! ### A table in two parts -/
theorem jn_form (h : jnE 0 c1 sz1 dz1 c2 sz2 dz2 = 0) : ∃ (A B : Int) (r : List Int), sz1 = A :: r ∧ sz2 = B :: r := by
  obtain ⟨_, _, hl, hx, ho, _, _⟩ := (jnZ (x := 0)).1 h
  match sz1, sz2, hl, hx, ho with
  | A :: r, B :: r', hl, hx, ho =>
    have : r = r' := nth_ext (by simpa using hl) fun k hk => by
      have := othB_iff.1 ho (k + 1) (by simp; omega) (by omega)
      rwa [nth_succ, nth_succ] at this
    subst this
    exact ⟨A, B, r, rfl, rfl⟩
theorem jn_short13 (h : jnE 0 c1 sz1 dz1 c2 sz2 dz2 = 0) : (jnS (0 : Int).toNat sz1 sz2).length ≤ 4096 ∧ (jnD (0 : Int).toNat sz1 dz1 sz2 dz2).length ≤ 4096 := by
  have he := (jnE_zero.1 h).2.2.2.2.2.2.2
  refine ⟨(errS he).1, ?_⟩
  unfold jnD
  rw [TA_length]
  exact (errS he).2
theorem parts13 (hj : jnE 0 c1 sz1 dz1 c2 sz2 dz2 = 0) {S0 D0 : List Int} (hS : jnS (0 : Int).toNat sz1 sz2 = S0) (hD : jnD (0 : Int).toNat sz1 dz1 sz2 dz2 = D0) (h : otE f c1 S0 D0 c3 sz3 dz3 = 0) (T1 : ∀ j, In64 (nth dz1 j)) (T2 : ∀ j, In64 (nth dz2 j)) (T3 : ∀ j, In64 (nth dz3 j)) :
    ∃ SY DY SP DP SQ DQ : List Int, (otE f c1 S0 D0 c3 sz3 dz3 = 0 ∧ S0 ++ sz3 = SY ∧ otD f c1 S0 D0 c3 sz3 dz3 = DY) ∧ (otE f c1 sz1 dz1 c3 sz3 dz3 = 0 ∧ sz1 ++ sz3 = SP ∧ otD f c1 sz1 dz1 c3 sz3 dz3 = DP) ∧ (otE f c2 sz2 dz2 c3 sz3 dz3 = 0 ∧ sz2 ++ sz3 = SQ ∧ otD f c2 sz2 dz2 c3 sz3 dz3 = DQ) ∧
      (jnE 0 false SP DP false SQ DQ = 0 ∧ jnS (0 : Int).toNat SP SQ = SY ∧ jnD (0 : Int).toNat SP DP SQ DQ = DY) ∧ ((∀ j, In64 (nth DP j)) ∧ ∀ j, In64 (nth DQ j)) ∧ (SY.length ≤ 4096 ∧ DY.length ≤ 4096) ∧ (SP.length ≤ 4096 ∧ DP.length ≤ 4096) ∧ SQ.length ≤ 4096 ∧ DQ.length ≤ 4096 := by
  obtain ⟨A, B, r, rfl, rfl⟩ := jn_form hj
  subst hS hD
  obtain ⟨o1, o2, o3, o4, o5⟩ := ot_parts (f := f) (cc := c3) (u := sz3) (du := dz3) hj h
  refine ⟨_, _, _, _, _, _, ⟨h, rfl, rfl⟩, ⟨o1, rfl, rfl⟩, ⟨o2, rfl, rfl⟩, ⟨o3, o4, o5⟩, ⟨ot_64 (otE_zero.1 o1).2.2.1 T1 T3, ot_64 (otE_zero.1 o2).2.2.1 T2 T3⟩, short13 (ot_flaw h), short13 (ot_flaw o1), short13 (ot_flaw o2)⟩
theorem rows13 (h : otE f false sz1 dz1 false sz3 dz3 = 0) (h1 : sz1.length = 1) (h3 : sz3.length = 1) (T1 : ∀ j, In64 (nth dz1 j)) (T3 : ∀ j, In64 (nth dz3 j)) :
    ∃ (SU DU DW : List Int) (V : Int), (otE 3 false sz1 dz1 false sz3 dz3 = 0 ∧ sz1 ++ sz3 = SU ∧ otD 3 false sz1 dz1 false sz3 dz3 = DU) ∧ (rdE 1 1 false SU DU = 0 ∧ xout (1 : Int).toNat SU = sz1 ∧ rdD 1 SU DU (1 : Int).toNat = DW) ∧ (rdE 1 0 false sz3 dz3 = 0 ∧ xout (0 : Int).toNat sz3 = [] ∧ rdD 1 sz3 dz3 (0 : Int).toNat = [V]) ∧
      (e2E 3 false sz1 dz1 false [] [V] = 0 ∧ shp sz1 [] = sz1 ∧ e2V 3 false sz1 dz1 false [] [V] = DW) ∧ ((∀ j, In64 (nth DU j)) ∧ ∀ j, In64 (nth [V] j)) ∧ SU.length ≤ 4096 ∧ DU.length ≤ 4096 ∧ DW.length ≤ 4096 := by
  obtain ⟨N, rfl⟩ := one_form (c := false) (d := dz1) h1
  obtain ⟨M, rfl⟩ := one_form (c := false) (d := dz3) h3
  obtain ⟨_, ⟨fa, fc⟩, he, _, _⟩ := otE_zero.1 h
  have he' : errOf [N, M] = 0 := he
  obtain ⟨q1, q2, q3, q4, q5, q6, q7, q8, q9⟩ := ot_rows fa fc he' T1 T3
  refine ⟨[N, M], _, _, fdV 1 dz3, ⟨q1, rfl, rfl⟩, ⟨q2, q3, rfl⟩, ⟨q4, q5, q6⟩, ⟨q7, q8, q9.symm⟩, ⟨ot_64 (f := 3) (c := false) (c' := false) (s := [N]) (s' := [M]) he T1 T3, fun j => ?_⟩, by simp, (short13 (ot_flaw q1)).2, ?_⟩
  · have hv : In64 (fdV 1 dz3) := fdV_in (l64y T3)
    exact l64z (l := [fdV 1 dz3]) (fun x hx => by rw [List.mem_singleton.1 hx]; exact hv) j
  · have e : rdD 1 [N, M] (otD 3 false [N] dz1 false [M] dz3) (1 : Int).toNat = e2V 3 false [N] dz1 false [] [fdV 1 dz3] := q9
    rw [e, e2V_length]
    have hN : e2N [N] [] = N.toNat := by unfold e2N shp; simp [prod]
    have := (flawE_short fa).2
    have := len_vec fa
    omega
end
end Go.Proofs.Ytcpmendkocnlhab
