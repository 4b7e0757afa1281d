/-
  Plain mathematics of some of the cells: told at indices, put at indices; nothing of the program.
-/
import Derived.Test.YtlflacoiidhgoaaCutn
namespace Go.Proofs.Ytlflacoiidhgoaa
open Go.RowKit
set_option linter.unusedVariables false

/-- An array: its kind, its shape, its cells. -/
abbrev Ar : Type := Bool × (List Int × List Int)
/-- The shape that arrays of indices tell, one behind the other. -/
def pkS : List Ar → List Int
  | [] => []
  | b :: r => b.2.1 ++ pkS r
/-- The indices that stand at indices. -/
def pkT : List Ar → List Int → List Int
  | [], _ => []
  | b :: r, t => cel b.2.1 b.2.2 (t.take b.2.1.length) :: pkT r (t.drop b.2.1.length)
/-- What is wrong with the first one of arrays that something is wrong with. -/
def flL : List Ar → Int
  | [] => 0
  | b :: r => if flawE b.1 b.2.1 b.2.2 ≠ 0 then flawE b.1 b.2.1 b.2.2 else flL r
def chL (bys : List Ar) : Bool := bys.any fun b => b.1
/-- Do all indices lie on their axes? -/
def ixB : List Ar → List Int → Bool
  | [], _ => true
  | b :: r, s => (b.2.2.all fun i => decide (0 ≤ i ∧ i < nth s 0)) && ixB r s.tail
def nmE (s : List Int) (bys : List Ar) : Int := if bys.length ≠ s.length then 3 else if chL bys = true then 6 else if errOf (pkS bys) ≠ 0 then errOf (pkS bys) else if ixB bys s = false then 5 else 0
def pkE (c : Bool) (s dz : List Int) (bys : List Ar) : Int := if flawE c s dz ≠ 0 then flawE c s dz else if flL bys ≠ 0 then flL bys else nmE s bys
def pkD (s dz : List Int) (bys : List Ar) : List Int := TA (pkS bys) (fun t => cel s dz (pkT bys t))
theorem nmE_zero {s : List Int} {bys : List Ar} : nmE s bys = 0 ↔ bys.length = s.length ∧ chL bys = false ∧ errOf (pkS bys) = 0 ∧ ixB bys s = true := by
  unfold nmE
  by_cases h1 : bys.length = s.length
  · rw [if_neg (by simpa using h1)]
    cases h2 : chL bys
    · rw [if_neg (by simp)]
      by_cases h3 : errOf (pkS bys) = 0
      · rw [if_neg (by simpa using h3)]
        cases h4 : ixB bys s
        · simp
        · simp [h1, h3]
      · rw [if_pos h3]; exact ⟨fun e => absurd e h3, fun e => absurd e.2.2.1 h3⟩
    · simp
  · rw [if_pos h1]; exact ⟨fun e => absurd e (by decide), fun e => absurd e.1 h1⟩
theorem pkE_zero {c : Bool} {s dz : List Int} {bys : List Ar} : pkE c s dz bys = 0 ↔ flawE c s dz = 0 ∧ flL bys = 0 ∧ bys.length = s.length ∧ chL bys = false ∧ errOf (pkS bys) = 0 ∧ ixB bys s = true := by
  unfold pkE
  by_cases h1 : flawE c s dz = 0
  · rw [if_neg (by simpa using h1)]
    by_cases h2 : flL bys = 0
    · rw [if_neg (by simpa using h2), nmE_zero]
      exact ⟨fun e => ⟨h1, h2, e⟩, fun e => e.2.2⟩
    · rw [if_pos h2]; exact ⟨fun e => absurd e h2, fun e => absurd e.2.1 h2⟩
  · rw [if_pos h1]; exact ⟨fun e => absurd e h1, fun e => absurd e.1 h1⟩
theorem flL_cons {b : Ar} {r : List Ar} (h : flL (b :: r) = 0) : flawE b.1 b.2.1 b.2.2 = 0 ∧ flL r = 0 := by
  simp only [flL] at h
  by_cases h1 : flawE b.1 b.2.1 b.2.2 = 0
  · rw [if_neg (by simpa using h1)] at h; exact ⟨h1, h⟩
  · rw [if_pos h1] at h; exact absurd h h1
theorem pkT_length : ∀ (bys : List Ar) (t : List Int), (pkT bys t).length = bys.length
  | [], _ => rfl
  | b :: r, t => by simp [pkT, pkT_length r]
/-- The indices told lie on the array's axes. -/
theorem pkT_in : ∀ {bys : List Ar} {s t : List Int}, bys.length = s.length → flL bys = 0 → ixB bys s = true → insB (pkS bys) t = true → insB s (pkT bys t) = true
  | [], [], t, _, _, _, _ => rfl
  | [], _ :: _, _, h, _, _, _ => by simp at h
  | _ :: _, [], _, h, _, _, _ => by simp at h
  | b :: r, x :: s, t, hl, hf, hi, ht => by
    obtain ⟨f1, f2⟩ := flL_cons hf
    simp only [ixB, nth_zero, List.tail_cons, Bool.and_eq_true] at hi
    have hlen := insB_len ht
    simp only [pkS, List.length_append] at hlen
    have hk : (t.take b.2.1.length).length = b.2.1.length := by rw [List.length_take]; omega
    have ht' : insB (b.2.1 ++ pkS r) (t.take b.2.1.length ++ t.drop b.2.1.length) = true := by rw [List.take_append_drop]; exact ht
    obtain ⟨i1, i2⟩ := insB_append hk ht'
    have ih := pkT_in (bys := r) (s := s) (by simpa using hl) f2 hi.2 i2
    refine ins_cons.2 ⟨?_, ih⟩
    have hp := place_bd i1
    have hd := (flawE_zero f1).2.1
    have hm : nth b.2.2 (place b.2.1 (t.take b.2.1.length)).toNat ∈ b.2.2 := nth_mem _ _ (by omega)
    have := List.all_eq_true.1 hi.1 _ hm
    exact of_decide_eq_true this
section
variable {c : Bool} {s dz : List Int} {bys : List Ar}
theorem pk_in (h : pkE c s dz bys = 0) {t : List Int} (ht : insB (pkS bys) t = true) : insB s (pkT bys t) = true := by
  obtain ⟨h1, h2, h3, h4, h5, h6⟩ := pkE_zero.1 h
  exact pkT_in h3 h2 h6 ht
theorem pk_flaw (h : pkE c s dz bys = 0) : flawE c (pkS bys) (pkD s dz bys) = 0 := TA_flaw (pkE_zero.1 h).2.2.2.2.1 fun hc t ht => cel_ch (pkE_zero.1 h).1 hc (pk_in h ht)
theorem pk_64 (h : pkE c s dz bys = 0) (T : ∀ j, In64 (nth dz j)) : ∀ j, In64 (nth (pkD s dz bys) j) := TA_64 (pkE_zero.1 h).2.2.2.2.1 fun t _ => cel_64 T _
theorem pk_len (h : pkE c s dz bys = 0) : (pkS bys).length ≤ 6 ∧ (pkD s dz bys).length ≤ 4096 := by
  have he := (pkE_zero.1 h).2.2.2.2.1
  have hb := errOf_zero.1 he
  refine ⟨hb.1, ?_⟩
  unfold pkD; rw [TA_length]; omega
end
/-! ### The places, one behind the other -/
/-- The place of the cell that is told at a place. -/
def pkP (s : List Int) (bys : List Ar) (i : Nat) : Int := place s (pkT bys (cr (pkS bys) i))
theorem pkD_nth {s dz : List Int} {bys : List Ar} {i : Nat} (hi : i < (prod (pkS bys)).toNat) : nth (pkD s dz bys) i = nth dz (pkP s bys i).toNat := by
  unfold pkD
  rw [TA_nth hi]
  rfl
theorem pkP_bd {c : Bool} {s dz : List Int} {bys : List Ar} (h : pkE c s dz bys = 0) {i : Nat} (hi : i < (prod (pkS bys)).toNat) : 0 ≤ pkP s bys i ∧ pkP s bys i < prod s :=
  place_bd (pk_in h (cr_in (pkE_zero.1 h).2.2.2.2.1 hi).1)
/-! ### Put -/
/-- The last of the first n of ws that is put at a place, or what was there. -/
def lstV (P : Nat → Int) (ws : List Int) (j : Int) (v : Int) : Nat → Int
  | 0 => v
  | n + 1 => if P n = j then nth ws n else lstV P ws j v n
theorem lstV_or (P : Nat → Int) (ws : List Int) (j v : Int) : ∀ n, (lstV P ws j v n = v ∧ ∀ k, k < n → P k ≠ j) ∨ ∃ k, k < n ∧ P k = j ∧ lstV P ws j v n = nth ws k ∧ ∀ i, k < i → i < n → P i ≠ j
  | 0 => .inl ⟨rfl, fun k hk => by omega⟩
  | n + 1 => by
    simp only [lstV]
    by_cases h : P n = j
    · rw [if_pos h]
      exact .inr ⟨n, by omega, h, rfl, fun i h1 h2 => by omega⟩
    · rw [if_neg h]
      rcases lstV_or P ws j v n with ⟨h1, h2⟩ | ⟨k, hk, hP, h1, h2⟩
      · refine .inl ⟨h1, fun k hk => ?_⟩
        by_cases e : k = n
        · rw [e]; exact h
        · exact h2 k (by omega)
      · refine .inr ⟨k, by omega, hP, h1, fun i hi hn => ?_⟩
        by_cases e : i = n
        · rw [e]; exact h
        · exact h2 i hi (by omega)
/-- What was there does not matter where something is put. -/
theorem lstV_over (P : Nat → Int) (ws us : List Int) (j v : Int) : ∀ n, lstV P ws j (lstV P us j v n) n = lstV P ws j v n := by
  intro n
  rcases lstV_or P us j v n with ⟨h1, h2⟩ | ⟨k, hk, hP, h1, h2⟩
  · rw [h1]
  · rcases lstV_or P ws j (lstV P us j v n) n with ⟨h3, h4⟩ | ⟨k', hk', hP', h3, h4⟩
    · exact absurd hP (h4 k hk)
    · rcases lstV_or P ws j v n with ⟨h5, h6⟩ | ⟨k'', hk'', hP'', h5, h6⟩
      · exact absurd hP (h6 k hk)
      · rw [h3, h5]
        by_cases e1 : k' < k''
        · exact absurd hP'' (h4 k'' e1 hk'')
        · by_cases e2 : k'' < k'
          · exact absurd hP' (h6 k' e2 hk')
          · rw [show k' = k'' by omega]
/-- What is told, put back, is there already. -/
theorem lstV_back (P : Nat → Int) (ws : List Int) (j v : Int) (n : Nat) (h : ∀ k, k < n → P k = j → nth ws k = v) : lstV P ws j v n = v := by
  rcases lstV_or P ws j v n with ⟨h1, _⟩ | ⟨k, hk, hP, h1, _⟩
  · exact h1
  · rw [h1]; exact h k hk hP
/-- Where no place is told twice, what was put is there. -/
theorem lstV_once (P : Nat → Int) (ws : List Int) (v : Int) (n : Nat) (h : ∀ i k, i < n → k < n → P i = P k → i = k) {k : Nat} (hk : k < n) : lstV P ws (P k) v n = nth ws k := by
  rcases lstV_or P ws (P k) v n with ⟨_, h2⟩ | ⟨k', hk', hP, h1, _⟩
  · exact absurd rfl (h2 k hk)
  · rw [h1, h k' k hk' hk hP]
/-- The cells that are put: those of v, or its one cell at all of them. -/
def putW (n : Nat) (sv dv : List Int) : List Int := if sv.length = 0 then List.replicate n (nth dv 0) else dv
def ptE (c : Bool) (s dz : List Int) (bys : List Ar) (cv : Bool) (sv dv : List Int) : Int :=
  if flawE c s dz ≠ 0 then flawE c s dz else if flL bys ≠ 0 then flL bys else if flawE cv sv dv ≠ 0 then flawE cv sv dv else if nmE s bys ≠ 0 then nmE s bys else if c ≠ cv then 6 else if sv.length = 0 then 0 else if sv.length ≠ (pkS bys).length then 3 else if sv ≠ pkS bys then 4 else 0
def ptV (s dz : List Int) (bys : List Ar) (sv dv : List Int) : List Int := (List.range dz.length).map fun (j : Nat) => lstV (pkP s bys) (putW (prod (pkS bys)).toNat sv dv) (j : Int) (nth dz j) (prod (pkS bys)).toNat
theorem ptV_length (s dz : List Int) (bys : List Ar) (sv dv : List Int) : (ptV s dz bys sv dv).length = dz.length := by simp [ptV]
theorem ptV_nth (s dz : List Int) (bys : List Ar) (sv dv : List Int) {j : Nat} (h : j < dz.length) : nth (ptV s dz bys sv dv) j = lstV (pkP s bys) (putW (prod (pkS bys)).toNat sv dv) j (nth dz j) (prod (pkS bys)).toNat := by simp [ptV, nth, h]
end Go.Proofs.Ytlflacoiidhgoaa
