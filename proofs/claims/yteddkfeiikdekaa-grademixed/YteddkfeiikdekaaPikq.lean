/-
  Arrs Pikm Placem Nmm Pikl Pikq, together.
-/
import Derived.Deep.Slices
import Derived.Test.YteddkfeiikdekaaCutw
import Derived.Test.YteddkfeiikdekaaBase
/-! Arrs: A slice of arrays that came in, as the walks take it. -/
namespace Go.Proofs.Yteddkfeiikdekaa
open Go.ChangeShapes Go.WideShapes Go.ChangeAt Go.RowKit Go.Deep
set_option linter.unusedVariables false

/-- An array in memory: its kind; its shape and its cells, each with the slice that leads to it. -/
abbrev ArV : Type := Bool × ((Option Addr × Nat) × List Int) × ((Option Addr × Nat) × List Int)
def ArV.s (b : ArV) : Value := .slice b.2.1.1.1 b.2.1.2.length b.2.1.1.2
def ArV.d (b : ArV) : Value := .slice b.2.2.1.1 b.2.2.2.length b.2.2.1.2
def ArV.ar (b : ArV) : Bool × (List Int × List Int) := (b.1, (b.2.1.2, b.2.2.2))
def arz (bs : List ArV) (j : Nat) : ArV := bs.getD j (false, (((none, 0), []), ((none, 0), [])))
/-- What is known of an array that lies below block n. -/
def IsAv (n : Nat) (W : World) (b : ArV) : Prop :=
  b.2.1.2.length ≤ 9223372036854775807 ∧ b.2.2.2.length ≤ 9223372036854775807 ∧ IsC n W b.2.1.1.1 b.2.1.2 b.2.1.1.2 ∧ IsC n W b.2.2.1.1 b.2.2.2 b.2.2.1.2 ∧ (∀ j, In64 (nth b.2.1.2 j)) ∧ ∀ j, In64 (nth b.2.2.2 j)
def IsAs (n : Nat) (W : World) (a : Option Addr) (bs : List ArV) : Prop :=
  (bs = [] ∨ ∃ b off, a = some ⟨b, off, none⟩ ∧ b < n ∧ ∀ j, j < bs.length → W.cell? ⟨b, off + j * 3, none⟩ = some (.bool (arz bs j).1) ∧ W.cell? ⟨b, off + j * 3 + 1, none⟩ = some (arz bs j).s ∧ W.cell? ⟨b, off + j * 3 + 2, none⟩ = some (arz bs j).d) ∧ ∀ j, j < bs.length → IsAv n W (arz bs j)
section
variable {n n' : Nat} {W W' : World} {a : Option Addr} {bs : List ArV}
theorem IsAv.below {b : ArV} (hB : Below n W W') (h : IsAv n W b) : IsAv n W' b := ⟨h.1, h.2.1, h.2.2.1.below hB, h.2.2.2.1.below hB, h.2.2.2.2⟩
theorem IsAv.mono {b : ArV} (hn : n ≤ n') (h : IsAv n W b) : IsAv n' W b := ⟨h.1, h.2.1, h.2.2.1.mono hn, h.2.2.2.1.mono hn, h.2.2.2.2⟩
theorem IsAs.below (hB : Below n W W') (h : IsAs n W a bs) : IsAs n W' a bs := by
  refine ⟨?_, fun j hj => (h.2 j hj).below hB⟩
  rcases h.1 with e | ⟨b, off, e, hb, hc⟩
  · exact .inl e
  · exact .inr ⟨b, off, e, hb, fun j hj => ⟨(hB.cell (p := ⟨b, off + j * 3, none⟩) hb).trans (hc j hj).1, (hB.cell (p := ⟨b, off + j * 3 + 1, none⟩) hb).trans (hc j hj).2.1, (hB.cell (p := ⟨b, off + j * 3 + 2, none⟩) hb).trans (hc j hj).2.2⟩⟩
theorem IsAs.mono (hn : n ≤ n') (h : IsAs n W a bs) : IsAs n' W a bs := by
  refine ⟨?_, fun j hj => (h.2 j hj).mono hn⟩
  rcases h.1 with e | ⟨b, off, e, hb, hc⟩
  · exact .inl e
  · exact .inr ⟨b, off, e, by omega, hc⟩
theorem IsAs.at (h : IsAs n W a bs) {j : Nat} (hj : j < bs.length) : ∃ b off, a = some ⟨b, off, none⟩ ∧ b < n ∧ ∀ j, j < bs.length → W.cell? ⟨b, off + j * 3, none⟩ = some (.bool (arz bs j).1) ∧ W.cell? ⟨b, off + j * 3 + 1, none⟩ = some (arz bs j).s ∧ W.cell? ⟨b, off + j * 3 + 2, none⟩ = some (arz bs j).d := by
  rcases h.1 with e | h
  · subst e; simp at hj
  · exact h
end
theorem arz_map (f : Nat → ArV) (n : Nat) {j : Nat} (h : j < n) : arz ((List.range n).map f) j = f j := by
  unfold arz
  simp [List.getD_eq_getElem?_getD, h]
theorem spot_none {W : World} {x : Addr} {v : Value} (h : W.cell? x = some v) : ∃ b off, x = ⟨b, off, none⟩ := by
  obtain ⟨b, off, sp⟩ := x
  cases sp with
  | none => exact ⟨b, off, rfl⟩
  | some q => simp [World.cell?] at h; split at h <;> simp_all
theorem add_zero' (x : Addr) : x.add (0 * 3) = x := by simp [Addr.add]
set_option maxRecDepth 100000 in
/-- A slice of arrays, opened. -/
theorem open_arrs {H : Type} {enc : TypeId × Value → H} {W : World} {v : Value} {d : DataW H} {p : List MemPlace} (hv : ∃ a len cap, v = .slice a len cap)
    (h : DataW.Trod enc Try.prog W 0 (fun _ => true) true 44 v d p) :
    ∃ (a : Option Addr) (cap : Nat) (bs : List ArV), v = .slice a bs.length cap ∧ bs.length ≤ 9223372036854775807 ∧ IsAs W.heap.size W a bs := by
  obtain ⟨a0, len0, cap0, rfl⟩ := hv
  obtain ⟨fuel, hf⟩ := h
  have ce : Try.prog.cellsOf 24 = 3 := by kernel_rfl
  rcases open_slice Try.underlying44 hf with ⟨hcs, _⟩ | ⟨x, len, cap, m, n, D, Pl, hcs, _, hl, hm, hmm, _, hx⟩
  · have e : Value.slice a0 len0 cap0 = .slice none 0 0 := (List.cons.inj hcs).1
    exact ⟨none, 0, [], e, by simp, .inl rfl, fun j hj => by simp at hj⟩
  · have e : Value.slice a0 len0 cap0 = .slice (some x) len cap := (List.cons.inj hcs).1
    rw [ce] at hx
    have hlm : len ≤ m := by rw [hmm]; split <;> omega
    have each : ∀ i, i < len → ∃ b : ArV, W.cell? (x.add (i * 3)) = some (.bool b.1) ∧ W.cell? (x.add (i * 3 + 1)) = some b.s ∧ W.cell? (x.add (i * 3 + 2)) = some b.d ∧ IsAv W.heap.size W b := by
      intro i hi
      obtain ⟨cs', h1, h2⟩ := hx i (by omega)
      obtain ⟨_, hlen, hcell⟩ := World.cells?_some h1
      match cs', hlen with
      | [v0, v1, v2], _ =>
        obtain ⟨y0, y1, y2, k, _, _, g0, g1, g2⟩ := trod_struct3 Try.underlying24 h2
        have e0 : DataW.trod enc Try.prog W 0 (fun _ => true) true k 4 [v0] = some y0 := by
          have := g0
          rw [show Try.prog.cellsOf 4 = 1 by kernel_rfl] at this
          exact this
        have e1 : DataW.trod enc Try.prog W 0 (fun _ => true) true k 22 [v1] = some y1 := by
          have := g1
          rw [show Try.prog.cellsOf 22 = 1 by kernel_rfl] at this
          exact this
        have e2 : DataW.trod enc Try.prog W 0 (fun _ => true) true k 22 [v2] = some y2 := by
          have := g2
          rw [show Try.prog.cellsOf 22 = 1 by kernel_rfl] at this
          exact this
        obtain ⟨sa, sc, sz, rfl, s1, s2, s3, s4⟩ := open_slC e1
        obtain ⟨da, dc, dz, rfl, d1, d2, d3, d4⟩ := open_slC e2
        obtain ⟨c, hc, _⟩ := DataW.trod_bool Try.underlying4 e0
        obtain rfl := (List.cons.inj hc).1
        have q0 := hcell 0 (by omega)
        have q1 := hcell 1 (by omega)
        have q2 := hcell 2 (by omega)
        rw [add_add] at q0 q1 q2
        exact ⟨(c, (((sa, sc), sz), ((da, dc), dz))), by simpa using q0, by simpa [ArV.s] using q1, by simpa [ArV.d] using q2, s1, d1, ⟨s2, s4⟩, ⟨d2, d4⟩, s3, d3⟩
    obtain ⟨q, hq⟩ := choose_lt each
    refine ⟨some x, cap, (List.range len).map q, by rw [e]; simp, by simp; unfold maxLen at hm; omega, ?_, fun j hj => ?_⟩
    · by_cases h0 : len = 0
      · left; rw [h0]; rfl
      · right
        have h0' := (hq 0 (by omega)).1
        rw [add_zero'] at h0'
        obtain ⟨b, off, rfl⟩ := spot_none h0'
        refine ⟨b, off, rfl, ?_, fun j hj => ?_⟩
        · exact World.block_lt_of_cell? W _ h0'
        · simp only [List.length_map, List.length_range] at hj
          rw [arz_map q len hj]
          have k := hq j hj
          have ad : ∀ i, (⟨b, off, none⟩ : Addr).add i = ⟨b, off + i, none⟩ := fun i => by
            unfold Addr.add; split
            · rename_i h0; subst h0; rfl
            · rfl
          rw [ad, ad, ad] at k
          exact ⟨k.1, by rw [Nat.add_assoc]; exact k.2.1, by rw [Nat.add_assoc]; exact k.2.2.1⟩
    · simp only [List.length_map, List.length_range] at hj
      rw [arz_map q len hj]
      exact (hq j hj).2.2.2
end Go.Proofs.Yteddkfeiikdekaa
/-! Pikm: Plain mathematics of some of the cells: told at indices, put at indices; nothing of the program. -/
namespace Go.Proofs.Yteddkfeiikdekaa
open Go.RowKit
set_option linter.unusedVariables false

/-- An array: its kind, its shape, its cells. -/
abbrev Ar : Type := Bool × (List Int × List Int)
/-- The shape that arrays of indices tell, one behind the other. -/
def pkS : List Ar → List Int
  | [] => []
  | b :: r => b.2.1 ++ pkS r
/-- The indices that stand at indices. -/
def pkT : List Ar → List Int → List Int
  | [], _ => []
  | b :: r, t => cel b.2.1 b.2.2 (t.take b.2.1.length) :: pkT r (t.drop b.2.1.length)
/-- What is wrong with the first one of arrays that something is wrong with. -/
def flL : List Ar → Int
  | [] => 0
  | b :: r => if flawE b.1 b.2.1 b.2.2 ≠ 0 then flawE b.1 b.2.1 b.2.2 else flL r
def chL (bys : List Ar) : Bool := bys.any fun b => b.1
/-- Do all indices lie on their axes? -/
def ixB : List Ar → List Int → Bool
  | [], _ => true
  | b :: r, s => (b.2.2.all fun i => decide (0 ≤ i ∧ i < nth s 0)) && ixB r s.tail
def nmE (s : List Int) (bys : List Ar) : Int := if bys.length ≠ s.length then 3 else if chL bys = true then 6 else if errOf (pkS bys) ≠ 0 then errOf (pkS bys) else if ixB bys s = false then 5 else 0
def pkE (c : Bool) (s dz : List Int) (bys : List Ar) : Int := if flawE c s dz ≠ 0 then flawE c s dz else if flL bys ≠ 0 then flL bys else nmE s bys
def pkD (s dz : List Int) (bys : List Ar) : List Int := TA (pkS bys) (fun t => cel s dz (pkT bys t))
theorem nmE_zero {s : List Int} {bys : List Ar} : nmE s bys = 0 ↔ bys.length = s.length ∧ chL bys = false ∧ errOf (pkS bys) = 0 ∧ ixB bys s = true := by
  unfold nmE
  by_cases h1 : bys.length = s.length
  · rw [if_neg (by simpa using h1)]
    cases h2 : chL bys
    · rw [if_neg (by simp)]
      by_cases h3 : errOf (pkS bys) = 0
      · rw [if_neg (by simpa using h3)]
        cases h4 : ixB bys s
        · simp
        · simp [h1, h3]
      · rw [if_pos h3]; exact ⟨fun e => absurd e h3, fun e => absurd e.2.2.1 h3⟩
    · simp
  · rw [if_pos h1]; exact ⟨fun e => absurd e (by decide), fun e => absurd e.1 h1⟩
theorem pkE_zero {c : Bool} {s dz : List Int} {bys : List Ar} : pkE c s dz bys = 0 ↔ flawE c s dz = 0 ∧ flL bys = 0 ∧ bys.length = s.length ∧ chL bys = false ∧ errOf (pkS bys) = 0 ∧ ixB bys s = true := by
  unfold pkE
  by_cases h1 : flawE c s dz = 0
  · rw [if_neg (by simpa using h1)]
    by_cases h2 : flL bys = 0
    · rw [if_neg (by simpa using h2), nmE_zero]
      exact ⟨fun e => ⟨h1, h2, e⟩, fun e => e.2.2⟩
    · rw [if_pos h2]; exact ⟨fun e => absurd e h2, fun e => absurd e.2.1 h2⟩
  · rw [if_pos h1]; exact ⟨fun e => absurd e h1, fun e => absurd e.1 h1⟩
theorem flL_cons {b : Ar} {r : List Ar} (h : flL (b :: r) = 0) : flawE b.1 b.2.1 b.2.2 = 0 ∧ flL r = 0 := by
  simp only [flL] at h
  by_cases h1 : flawE b.1 b.2.1 b.2.2 = 0
  · rw [if_neg (by simpa using h1)] at h; exact ⟨h1, h⟩
  · rw [if_pos h1] at h; exact absurd h h1
theorem pkT_length : ∀ (bys : List Ar) (t : List Int), (pkT bys t).length = bys.length
  | [], _ => rfl
  | b :: r, t => by simp [pkT, pkT_length r]
/-- The indices told lie on the array's axes. -/
theorem pkT_in : ∀ {bys : List Ar} {s t : List Int}, bys.length = s.length → flL bys = 0 → ixB bys s = true → insB (pkS bys) t = true → insB s (pkT bys t) = true
  | [], [], t, _, _, _, _ => rfl
  | [], _ :: _, _, h, _, _, _ => by simp at h
  | _ :: _, [], _, h, _, _, _ => by simp at h
  | b :: r, x :: s, t, hl, hf, hi, ht => by
    obtain ⟨f1, f2⟩ := flL_cons hf
    simp only [ixB, nth_zero, List.tail_cons, Bool.and_eq_true] at hi
    have hlen := insB_len ht
    simp only [pkS, List.length_append] at hlen
    have hk : (t.take b.2.1.length).length = b.2.1.length := by rw [List.length_take]; omega
    have ht' : insB (b.2.1 ++ pkS r) (t.take b.2.1.length ++ t.drop b.2.1.length) = true := by rw [List.take_append_drop]; exact ht
    obtain ⟨i1, i2⟩ := insB_append hk ht'
    have ih := pkT_in (bys := r) (s := s) (by simpa using hl) f2 hi.2 i2
    refine ins_cons.2 ⟨?_, ih⟩
    have hp := place_bd i1
    have hd := (flawE_zero f1).2.1
    have hm : nth b.2.2 (place b.2.1 (t.take b.2.1.length)).toNat ∈ b.2.2 := nth_mem _ _ (by omega)
    have := List.all_eq_true.1 hi.1 _ hm
    exact of_decide_eq_true this
section
variable {c : Bool} {s dz : List Int} {bys : List Ar}
theorem pk_in (h : pkE c s dz bys = 0) {t : List Int} (ht : insB (pkS bys) t = true) : insB s (pkT bys t) = true := by
  obtain ⟨h1, h2, h3, h4, h5, h6⟩ := pkE_zero.1 h
  exact pkT_in h3 h2 h6 ht
theorem pk_flaw (h : pkE c s dz bys = 0) : flawE c (pkS bys) (pkD s dz bys) = 0 := TA_flaw (pkE_zero.1 h).2.2.2.2.1 fun hc t ht => cel_ch (pkE_zero.1 h).1 hc (pk_in h ht)
theorem pk_64 (h : pkE c s dz bys = 0) (T : ∀ j, In64 (nth dz j)) : ∀ j, In64 (nth (pkD s dz bys) j) := TA_64 (pkE_zero.1 h).2.2.2.2.1 fun t _ => cel_64 T _
theorem pk_len (h : pkE c s dz bys = 0) : (pkS bys).length ≤ 6 ∧ (pkD s dz bys).length ≤ 4096 := by
  have he := (pkE_zero.1 h).2.2.2.2.1
  have hb := errOf_zero.1 he
  refine ⟨hb.1, ?_⟩
  unfold pkD; rw [TA_length]; omega
end
/-! ### The places, one behind the other -/
/-- The place of the cell that is told at a place. -/
def pkP (s : List Int) (bys : List Ar) (i : Nat) : Int := place s (pkT bys (cr (pkS bys) i))
theorem pkD_nth {s dz : List Int} {bys : List Ar} {i : Nat} (hi : i < (prod (pkS bys)).toNat) : nth (pkD s dz bys) i = nth dz (pkP s bys i).toNat := by
  unfold pkD
  rw [TA_nth hi]
  rfl
theorem pkP_bd {c : Bool} {s dz : List Int} {bys : List Ar} (h : pkE c s dz bys = 0) {i : Nat} (hi : i < (prod (pkS bys)).toNat) : 0 ≤ pkP s bys i ∧ pkP s bys i < prod s :=
  place_bd (pk_in h (cr_in (pkE_zero.1 h).2.2.2.2.1 hi).1)
/-! ### Put -/
/-- The last of the first n of ws that is put at a place, or what was there. -/
def lstV (P : Nat → Int) (ws : List Int) (j : Int) (v : Int) : Nat → Int
  | 0 => v
  | n + 1 => if P n = j then nth ws n else lstV P ws j v n
theorem lstV_or (P : Nat → Int) (ws : List Int) (j v : Int) : ∀ n, (lstV P ws j v n = v ∧ ∀ k, k < n → P k ≠ j) ∨ ∃ k, k < n ∧ P k = j ∧ lstV P ws j v n = nth ws k ∧ ∀ i, k < i → i < n → P i ≠ j
  | 0 => .inl ⟨rfl, fun k hk => by omega⟩
  | n + 1 => by
    simp only [lstV]
    by_cases h : P n = j
    · rw [if_pos h]
      exact .inr ⟨n, by omega, h, rfl, fun i h1 h2 => by omega⟩
    · rw [if_neg h]
      rcases lstV_or P ws j v n with ⟨h1, h2⟩ | ⟨k, hk, hP, h1, h2⟩
      · refine .inl ⟨h1, fun k hk => ?_⟩
        by_cases e : k = n
        · rw [e]; exact h
        · exact h2 k (by omega)
      · refine .inr ⟨k, by omega, hP, h1, fun i hi hn => ?_⟩
        by_cases e : i = n
        · rw [e]; exact h
        · exact h2 i hi (by omega)
/-- What was there does not matter where something is put. -/
theorem lstV_over (P : Nat → Int) (ws us : List Int) (j v : Int) : ∀ n, lstV P ws j (lstV P us j v n) n = lstV P ws j v n := by
  intro n
  rcases lstV_or P us j v n with ⟨h1, h2⟩ | ⟨k, hk, hP, h1, h2⟩
  · rw [h1]
  · rcases lstV_or P ws j (lstV P us j v n) n with ⟨h3, h4⟩ | ⟨k', hk', hP', h3, h4⟩
    · exact absurd hP (h4 k hk)
    · rcases lstV_or P ws j v n with ⟨h5, h6⟩ | ⟨k'', hk'', hP'', h5, h6⟩
      · exact absurd hP (h6 k hk)
      · rw [h3, h5]
        by_cases e1 : k' < k''
        · exact absurd hP'' (h4 k'' e1 hk'')
        · by_cases e2 : k'' < k'
          · exact absurd hP' (h6 k' e2 hk')
          · rw [show k' = k'' by omega]
/-- What is told, put back, is there already. -/
theorem lstV_back (P : Nat → Int) (ws : List Int) (j v : Int) (n : Nat) (h : ∀ k, k < n → P k = j → nth ws k = v) : lstV P ws j v n = v := by
  rcases lstV_or P ws j v n with ⟨h1, _⟩ | ⟨k, hk, hP, h1, _⟩
  · exact h1
  · rw [h1]; exact h k hk hP
/-- Where no place is told twice, what was put is there. -/
theorem lstV_once (P : Nat → Int) (ws : List Int) (v : Int) (n : Nat) (h : ∀ i k, i < n → k < n → P i = P k → i = k) {k : Nat} (hk : k < n) : lstV P ws (P k) v n = nth ws k := by
  rcases lstV_or P ws (P k) v n with ⟨_, h2⟩ | ⟨k', hk', hP, h1, _⟩
  · exact absurd rfl (h2 k hk)
  · rw [h1, h k' k hk' hk hP]
/-- The cells that are put: those of v, or its one cell at all of them. -/
def putW (n : Nat) (sv dv : List Int) : List Int := if sv.length = 0 then List.replicate n (nth dv 0) else dv
def ptE (c : Bool) (s dz : List Int) (bys : List Ar) (cv : Bool) (sv dv : List Int) : Int :=
  if flawE c s dz ≠ 0 then flawE c s dz else if flL bys ≠ 0 then flL bys else if flawE cv sv dv ≠ 0 then flawE cv sv dv else if nmE s bys ≠ 0 then nmE s bys else if c ≠ cv then 6 else if sv.length = 0 then 0 else if sv.length ≠ (pkS bys).length then 3 else if sv ≠ pkS bys then 4 else 0
def ptV (s dz : List Int) (bys : List Ar) (sv dv : List Int) : List Int := (List.range dz.length).map fun (j : Nat) => lstV (pkP s bys) (putW (prod (pkS bys)).toNat sv dv) (j : Int) (nth dz j) (prod (pkS bys)).toNat
theorem ptV_length (s dz : List Int) (bys : List Ar) (sv dv : List Int) : (ptV s dz bys sv dv).length = dz.length := by simp [ptV]
theorem ptV_nth (s dz : List Int) (bys : List Ar) (sv dv : List Int) {j : Nat} (h : j < dz.length) : nth (ptV s dz bys sv dv) j = lstV (pkP s bys) (putW (prod (pkS bys)).toNat sv dv) j (nth dz j) (prod (pkS bys)).toNat := by simp [ptV, nth, h]
end Go.Proofs.Yteddkfeiikdekaa
/-! Placem: Plain mathematics of the place of a cell, as it is reckoned from the last axis on. -/
namespace Go.Proofs.Yteddkfeiikdekaa
open Go.RowKit
set_option linter.unusedVariables false

def plstep (zs ts : List Int) (s : Int × Int) (x : Ax zs.length) : Int × Int := (wrap64 (s.1 + wrap64 (nth ts x.1 * s.2)), wrap64 (s.2 * nth zs x.1))
theorem insB_drop : ∀ {s t : List Int} (k : Nat), insB s t = true → insB (s.drop k) (t.drop k) = true
  | _, _, 0, h => h
  | [], [], k + 1, _ => by simp [insB]
  | [], _ :: _, _, h => by simp [insB] at h
  | _ :: _, [], _, h => by simp [insB] at h
  | x :: s, a :: t, k + 1, h => by
    simp only [insB, Bool.and_eq_true] at h
    exact insB_drop k h.2
theorem prod_drop_le {s : List Int} (h : AllPos s) (k : Nat) : 0 < prod (s.drop k) ∧ prod (s.drop k) ≤ prod s := by
  induction s generalizing k with
  | nil => simp [prod]
  | cons x r ih =>
    have hx := h x List.mem_cons_self
    have h0 := ih h.tail 0
    simp only [List.drop_zero] at h0
    have h1 : 1 * prod r ≤ x * prod r := Int.mul_le_mul_of_nonneg_right (by omega) (by omega)
    cases k with
    | zero => simp only [List.drop_zero, prod]; omega
    | succ k =>
      have := ih h.tail k
      simp only [List.drop_succ_cons, prod]
      omega
theorem plfold (zs ts : List Int) (he : errOf zs = 0) (hi : insB zs ts = true) : (dn zs.length zs.length).foldl (plstep zs ts) (0, 1) = (place zs ts, prod zs) := by
  have hz := errOf_zero.1 he
  have hbd := place_bd hi
  have hpos := allPos_of_prod hz.2.1 (by omega)
  have hl := insB_len hi
  have := fold_dn zs.length (plstep zs ts) (fun k => (place (zs.drop k) (ts.drop k), prod (zs.drop k))) (fun k hk => by
    have e1 := drop_nth zs k hk
    have e2 := drop_nth ts k (by omega)
    have i1 := insB_drop k hi
    have i2 := insB_drop (k + 1) hi
    have b1 := place_bd i1
    have b2 := place_bd i2
    have p1 := prod_drop_le hpos k
    have p2 := prod_drop_le hpos (k + 1)
    rw [e1, e2] at b1
    have b3 := p1
    rw [e1] at b3
    simp only [place, prod] at b1 b3
    simp only [plstep]
    have hn : 0 ≤ nth ts k := ((insB_iff hl).1 hi k hk).1
    have h1 : 0 ≤ nth ts k * prod (zs.drop (k + 1)) := Int.mul_nonneg hn (by omega)
    have h4 : prod (zs.drop (k + 1)) * nth zs k = nth zs k * prod (zs.drop (k + 1)) := Int.mul_comm _ _
    rw [e1, e2]
    simp only [place, prod]
    rw [wrap64_small (n := nth ts k * prod (zs.drop (k + 1))) (by omega) (by omega), wrap64_small (by omega) (by omega), wrap64_small (by omega) (by omega), Int.add_comm, h4]) zs.length (Nat.le_refl _)
  simpa [place, prod, hl] using this
theorem insB_of_all {zs ts : List Int} (hl : ts.length = zs.length) (h : ∀ x ∈ dn zs.length zs.length, 0 ≤ nth ts x.1 ∧ nth ts x.1 < nth zs x.1) : insB zs ts = true :=
  (insB_iff hl).2 fun k hk => h ⟨k, hk⟩ (dn_mem _ _ _ (Nat.le_refl _) (by omega))
theorem plErr_bad {zs ts : List Int} (he : errOf zs ≠ 0) : plErr zs ts = errOf zs := by simp [plErr, he]
theorem plErr_rank {zs ts : List Int} (he : errOf zs = 0) (hl : ts.length ≠ zs.length) : plErr zs ts = 3 := by simp [plErr, he, hl]
theorem plErr_index {zs ts : List Int} (he : errOf zs = 0) (hl : ts.length = zs.length) (k : Nat) (hk : k < zs.length) (h : ¬ (0 ≤ nth ts k ∧ nth ts k < nth zs k)) : plErr zs ts = 5 := by
  have : ¬ insB zs ts = true := fun hi => h ((insB_iff hl).1 hi k hk)
  simp [plErr, he, hl, this]
theorem plVal_bad {zs ts : List Int} (h : plErr zs ts ≠ 0) : plVal zs ts = 0 := by simp [plVal, h]

def Ins (zs ts : List Int) (pre : List (Ax zs.length)) : Prop := ∀ x ∈ pre, 0 ≤ nth ts x.1 ∧ nth ts x.1 < nth zs x.1
def Out (zs ts : List Int) (pre : List (Ax zs.length)) : Prop := ∃ x ∈ pre, ¬ (0 ≤ nth ts x.1 ∧ nth ts x.1 < nth zs x.1)
theorem Ins.nil (zs ts : List Int) : Ins zs ts [] := fun x hx => by cases hx
theorem Ins.snoc {zs ts : List Int} {pre : List (Ax zs.length)} (h : Ins zs ts pre) {k : Nat} (hk : k < zs.length) (h1 : 0 ≤ nth ts k) (h2 : nth ts k < nth zs k) : Ins zs ts (pre ++ [⟨k, hk⟩]) := by
  intro x hx
  rcases List.mem_append.1 hx with hx | hx
  · exact h x hx
  · rw [List.mem_singleton] at hx; subst hx; exact ⟨h1, h2⟩
theorem Out.snoc {zs ts : List Int} {pre : List (Ax zs.length)} {k : Nat} (hk : k < zs.length) (h : ¬ (0 ≤ nth ts k ∧ nth ts k < nth zs k)) : Out zs ts (pre ++ [⟨k, hk⟩]) :=
  ⟨⟨k, hk⟩, List.mem_append_right _ (List.mem_singleton.2 rfl), h⟩
def plp (zs ts : List Int) (pre : List (Ax zs.length)) : Int := (pre.foldl (plstep zs ts) (0, 1)).1
def plt (zs ts : List Int) (pre : List (Ax zs.length)) : Int := (pre.foldl (plstep zs ts) (0, 1)).2
theorem plp_snoc (zs ts : List Int) (pre : List (Ax zs.length)) (k : Nat) (hk : k < zs.length) : plp zs ts (pre ++ [⟨k, hk⟩]) = wrap64 (plp zs ts pre + wrap64 (nth ts k * plt zs ts pre)) := by
  simp only [plp, plt, List.foldl_append, List.foldl_cons, List.foldl_nil, plstep]
theorem plt_snoc (zs ts : List Int) (pre : List (Ax zs.length)) (k : Nat) (hk : k < zs.length) : plt zs ts (pre ++ [⟨k, hk⟩]) = wrap64 (plt zs ts pre * nth zs k) := by
  simp only [plt, List.foldl_append, List.foldl_cons, List.foldl_nil, plstep]

end Go.Proofs.Yteddkfeiikdekaa
/-! Nmm: Where the shapes of arrays lie, one behind the other; the places that they tell: plain mathematics. -/
namespace Go.Proofs.Yteddkfeiikdekaa
open Go.RowKit
set_option linter.unusedVariables false

def bya (bs : List ArV) : List Ar := bs.map ArV.ar
theorem bya_length (bs : List ArV) : (bya bs).length = bs.length := by simp [bya]
theorem bya_take (bs : List ArV) {k : Nat} (h : k < bs.length) : (bya bs).take (k + 1) = (bya bs).take k ++ [(arz bs k).ar] := by
  rw [List.take_succ_eq_append_getElem (by rw [bya_length]; exact h)]
  simp [bya, arz, h]
theorem bya_cut (bs : List ArV) {k : Nat} (h : k < bs.length) : bya bs = (bya bs).take k ++ (arz bs k).ar :: (bya bs).drop (k + 1) := by
  have e := (List.take_append_drop k (bya bs)).symm
  rw [List.drop_eq_getElem_cons (by rw [bya_length]; exact h)] at e
  refine e.trans ?_
  simp [bya, arz, h]
theorem pkS_append : ∀ (l r : List Ar), pkS (l ++ r) = pkS l ++ pkS r
  | [], r => rfl
  | b :: l, r => by simp [pkS, pkS_append l r]
/-- How many axes come ahead of the k-th array's. -/
def offs (bs : List ArV) (k : Nat) : Nat := (pkS ((bya bs).take k)).length
theorem offs_zero (bs : List ArV) : offs bs 0 = 0 := by simp [offs, pkS]
theorem offs_succ (bs : List ArV) {k : Nat} (h : k < bs.length) : offs bs (k + 1) = offs bs k + (arz bs k).2.1.2.length := by
  unfold offs
  rw [bya_take bs h, pkS_append, List.length_append]
  simp [pkS, ArV.ar]
theorem offs_all (bs : List ArV) : offs bs bs.length = (pkS (bya bs)).length := by
  unfold offs
  rw [← bya_length bs, List.take_length]
theorem pkS_cut (bs : List ArV) {k : Nat} (h : k < bs.length) : pkS (bya bs) = pkS ((bya bs).take k) ++ ((arz bs k).2.1.2 ++ pkS ((bya bs).drop (k + 1))) := by
  have e := congrArg pkS (bya_cut bs h)
  rw [pkS_append] at e
  exact e
theorem offs_le (bs : List ArV) {k : Nat} (h : k < bs.length) : offs bs k + (arz bs k).2.1.2.length ≤ (pkS (bya bs)).length := by
  have e := congrArg List.length (pkS_cut bs h)
  simp only [List.length_append] at e
  unfold offs
  omega
theorem nth_app_r (l r : List Int) (i : Nat) : nth (l ++ r) (l.length + i) = nth r i := by
  unfold nth
  rw [List.getD_eq_getElem?_getD, List.getD_eq_getElem?_getD, List.getElem?_append_right (by omega), Nat.add_sub_cancel_left]
theorem nth_app_l (l r : List Int) {i : Nat} (h : i < l.length) : nth (l ++ r) i = nth l i := by
  unfold nth
  rw [List.getD_eq_getElem?_getD, List.getD_eq_getElem?_getD, List.getElem?_append_left h]
theorem offs_nth (bs : List ArV) {k : Nat} (h : k < bs.length) {i : Nat} (hi : i < (arz bs k).2.1.2.length) : nth (pkS (bya bs)) (offs bs k + i) = nth (arz bs k).2.1.2 i := by
  rw [pkS_cut bs h]
  unfold offs
  rw [nth_app_r, nth_app_l _ _ hi]
/-- What stands at the k-th place of the indices told. -/
theorem pkT_nth : ∀ (bys : List Ar) (t : List Int) (k : Nat) (b : Ar), bys[k]? = some b → nth (pkT bys t) k = cel b.2.1 b.2.2 ((t.drop (pkS (bys.take k)).length).take b.2.1.length)
  | [], t, k, b, h => by simp at h
  | x :: r, t, 0, b, h => by
    simp at h
    subst h
    simp [pkT, pkS, nth]
  | x :: r, t, k + 1, b, h => by
    have ih := pkT_nth r (t.drop x.2.1.length) k b (by simpa using h)
    simp only [pkT]
    have e : nth (cel x.2.1 x.2.2 (t.take x.2.1.length) :: pkT r (t.drop x.2.1.length)) (k + 1) = nth (pkT r (t.drop x.2.1.length)) k := by simp [nth]
    rw [e, ih, List.drop_drop]
    simp [pkS]
theorem pkT_at (bs : List ArV) (t : List Int) {k : Nat} (h : k < bs.length) : nth (pkT (bya bs) t) k = cel (arz bs k).2.1.2 (arz bs k).2.2.2 ((t.drop (offs bs k)).take (arz bs k).2.1.2.length) :=
  pkT_nth (bya bs) t k (arz bs k).ar (by simp [bya, arz, h])
theorem chL_take (bs : List ArV) {k : Nat} (h : k < bs.length) : chL ((bya bs).take (k + 1)) = (chL ((bya bs).take k) || (arz bs k).1) := by
  rw [bya_take bs h]
  simp [chL, ArV.ar]
theorem chL_bad (bs : List ArV) {k : Nat} (h : k < bs.length) (hc : (arz bs k).1 = true) : chL (bya bs) = true := by
  rw [bya_cut bs h]
  simp [chL, ArV.ar, hc]
theorem flL_at : ∀ (l : List Ar) (k : Nat) (b : Ar), l[k]? = some b → flL l = 0 → flawE b.1 b.2.1 b.2.2 = 0
  | [], k, b, h, _ => by simp at h
  | x :: r, 0, b, h, hf => by simp at h; subst h; exact (flL_cons hf).1
  | x :: r, k + 1, b, h, hf => flL_at r k b (by simpa using h) (flL_cons hf).2
theorem fl_at (bs : List ArV) (hf : flL (bya bs) = 0) {k : Nat} (h : k < bs.length) : flawE (arz bs k).1 (arz bs k).2.1.2 (arz bs k).2.2.2 = 0 :=
  flL_at (bya bs) k (arz bs k).ar (by simp [bya, arz, h]) hf
theorem ixB_at : ∀ (l : List Ar) (s : List Int), (ixB l s = true ↔ ∀ k b, l[k]? = some b → ∀ i, i < b.2.2.length → 0 ≤ nth b.2.2 i ∧ nth b.2.2 i < nth s k)
  | [], s => by simp [ixB]
  | x :: r, s => by
    simp only [ixB, Bool.and_eq_true, List.all_eq_true, decide_eq_true_eq, ixB_at r s.tail]
    have et : ∀ k, nth s.tail k = nth s (k + 1) := fun k => by cases s <;> simp [nth]
    constructor
    · rintro ⟨h1, h2⟩ k b hk i hi
      cases k with
      | zero => simp at hk; subst hk; exact h1 _ (nth_mem _ _ hi)
      | succ k => rw [← et]; exact h2 k b (by simpa using hk) i hi
    · intro h
      refine ⟨fun y hy => ?_, fun k b hk i hi => ?_⟩
      · obtain ⟨i, hi, e⟩ := List.mem_iff_getElem.1 hy
        have := h 0 x rfl i hi
        rw [nth_get _ _ hi, e] at this
        exact this
      · rw [et]; exact h (k + 1) b (by simpa using hk) i hi
theorem ix_ok (bs : List ArV) (s : List Int) (h : ∀ k, k < bs.length → ∀ i, i < (arz bs k).2.2.2.length → 0 ≤ nth (arz bs k).2.2.2 i ∧ nth (arz bs k).2.2.2 i < nth s k) : ixB (bya bs) s = true :=
  (ixB_at _ s).2 fun k b hk i hi => by
    have hl : k < bs.length := by
      have := List.getElem?_eq_some_iff.1 hk
      obtain ⟨h1, _⟩ := this
      rw [bya_length] at h1
      exact h1
    have e : b = (arz bs k).ar := by
      have : (bya bs)[k]? = some (arz bs k).ar := by simp [bya, arz, hl]
      rw [this] at hk
      exact (Option.some.inj hk).symm
    subst e
    exact h k hl i hi
theorem ix_bad (bs : List ArV) (s : List Int) {k : Nat} (hk : k < bs.length) {i : Nat} (hi : i < (arz bs k).2.2.2.length) (h : ¬ (0 ≤ nth (arz bs k).2.2.2 i ∧ nth (arz bs k).2.2.2 i < nth s k)) : ixB (bya bs) s = false := by
  cases e : ixB (bya bs) s
  · rfl
  · exact absurd ((ixB_at _ s).1 e k (arz bs k).ar (by simp [bya, arz, hk]) i hi) h
/-- The shapes of six arrays at most: 36 axes at most. -/
theorem pkS_short : ∀ (l : List Ar), flL l = 0 → (pkS l).length ≤ 6 * l.length
  | [], _ => by simp [pkS]
  | b :: r, h => by
    have h1 := (errOf_zero.1 (flawE_zero (flL_cons h).1).1).1
    have h2 := pkS_short r (flL_cons h).2
    simp only [pkS, List.length_append, List.length_cons]
    omega
/-- The places that are told. -/
def plL (s : List Int) (bys : List Ar) : List Int := (List.range (prod (pkS bys)).toNat).map (pkP s bys)
theorem plL_length (s : List Int) (bys : List Ar) : (plL s bys).length = (prod (pkS bys)).toNat := by simp [plL]
theorem plL_nth (s : List Int) (bys : List Ar) {i : Nat} (h : i < (prod (pkS bys)).toNat) : nth (plL s bys) i = pkP s bys i := by simp [plL, nth, h]
/-- A part of the indices lies in its array. -/
theorem part_in (bs : List ArV) {t : List Int} (ht : insB (pkS (bya bs)) t = true) {k : Nat} (hk : k < bs.length) : insB (arz bs k).2.1.2 ((t.drop (offs bs k)).take (arz bs k).2.1.2.length) = true := by
  have hl := insB_len ht
  have h1 := insB_drop (offs bs k) ht
  have e : (pkS (bya bs)).drop (offs bs k) = (arz bs k).2.1.2 ++ pkS ((bya bs).drop (k + 1)) := by
    have e := congrArg (List.drop (offs bs k)) (pkS_cut bs hk)
    refine e.trans ?_
    unfold offs
    rw [List.drop_left]
  rw [e] at h1
  have hle := offs_le bs hk
  have hlen : ((t.drop (offs bs k)).take (arz bs k).2.1.2.length).length = (arz bs k).2.1.2.length := by
    rw [List.length_take, List.length_drop]; omega
  have h2 : insB ((arz bs k).2.1.2 ++ pkS ((bya bs).drop (k + 1))) ((t.drop (offs bs k)).take (arz bs k).2.1.2.length ++ (t.drop (offs bs k)).drop (arz bs k).2.1.2.length) = true := by
    rw [List.take_append_drop]; exact h1
  exact (insB_append hlen h2).1
end Go.Proofs.Yteddkfeiikdekaa
/-! Pikl: Plain mathematics: a lens, some of some; nothing of the program. -/
namespace Go.Proofs.Yteddkfeiikdekaa
open Go.RowKit
set_option linter.unusedVariables false

theorem prod_nil : prod [] = 1 := rfl
theorem nth_rep (n : Nat) (v : Int) {k : Nat} (h : k < n) : nth (List.replicate n v) k = v := by simp [nth, h]
section
variable {c cv : Bool} {s dz sv dv : List Int} {bys : List Ar}
theorem ptE_zero : ptE c s dz bys cv sv dv = 0 ↔ pkE c s dz bys = 0 ∧ flawE cv sv dv = 0 ∧ c = cv ∧ (sv.length = 0 ∨ sv = pkS bys) := by
  unfold ptE pkE
  by_cases h1 : flawE c s dz = 0
  · rw [if_neg (show ¬ flawE c s dz ≠ 0 by simpa using h1), if_neg (show ¬ flawE c s dz ≠ 0 by simpa using h1)]
    by_cases h2 : flL bys = 0
    · rw [if_neg (show ¬ flL bys ≠ 0 by simpa using h2), if_neg (show ¬ flL bys ≠ 0 by simpa using h2)]
      by_cases h3 : flawE cv sv dv = 0
      · rw [if_neg (show ¬ flawE cv sv dv ≠ 0 by simpa using h3)]
        by_cases h4 : nmE s bys = 0
        · rw [if_neg (show ¬ nmE s bys ≠ 0 by simpa using h4)]
          by_cases h5 : c = cv
          · rw [if_neg (show ¬ c ≠ cv by simpa using h5)]
            by_cases h6 : sv.length = 0
            · rw [if_pos h6]; exact ⟨fun _ => ⟨h4, h3, h5, .inl h6⟩, fun _ => rfl⟩
            · rw [if_neg h6]
              by_cases h7 : sv.length = (pkS bys).length
              · rw [if_neg (show ¬ sv.length ≠ (pkS bys).length by simpa using h7)]
                by_cases h8 : sv = pkS bys
                · rw [if_neg (show ¬ sv ≠ pkS bys by simpa using h8)]; exact ⟨fun _ => ⟨h4, h3, h5, .inr h8⟩, fun _ => rfl⟩
                · rw [if_pos h8]; exact ⟨fun e => absurd e (by decide), fun e => (e.2.2.2.elim (fun q => absurd q h6) (fun q => absurd q h8))⟩
              · rw [if_pos h7]; exact ⟨fun e => absurd e (by decide), fun e => (e.2.2.2.elim (fun q => absurd q h6) (fun q => absurd (by rw [q]) h7))⟩
          · rw [if_pos h5]; exact ⟨fun e => absurd e (by decide), fun e => absurd e.2.2.1 h5⟩
        · rw [if_pos h4]; exact ⟨fun e => absurd e h4, fun e => absurd e.1 h4⟩
      · rw [if_pos h3]; exact ⟨fun e => absurd e h3, fun e => absurd e.2.1 h3⟩
    · rw [if_pos h2, if_pos h2]; exact ⟨fun e => absurd e h2, fun e => absurd e.1 h2⟩
  · rw [if_pos h1, if_pos h1]; exact ⟨fun e => absurd e h1, fun e => absurd e.1 h1⟩
/-- The cells that are put, where all goes together. -/
theorem putW_len (h : ptE c s dz bys cv sv dv = 0) : (putW (prod (pkS bys)).toNat sv dv).length = (prod (pkS bys)).toNat := by
  obtain ⟨h1, h2, h3, h4⟩ := ptE_zero.1 h
  have hd := (flawE_zero h2).2.1
  have hp := prod_nonneg (errOf_zero.1 (pkE_zero.1 h1).2.2.2.2.1).2.1
  unfold putW
  by_cases h6 : sv.length = 0
  · rw [if_pos h6, List.length_replicate]
  · rw [if_neg h6]
    rcases h4 with h4 | h4
    · exact absurd h4 h6
    · rw [h4] at hd; omega
theorem putW_mem (h : ptE c s dz bys cv sv dv = 0) {k : Nat} (hk : k < (prod (pkS bys)).toNat) : nth (putW (prod (pkS bys)).toNat sv dv) k ∈ dv := by
  obtain ⟨h1, h2, h3, h4⟩ := ptE_zero.1 h
  have hl := putW_len h
  unfold putW at hl ⊢
  by_cases h6 : sv.length = 0
  · rw [if_pos h6, nth_rep _ _ hk]
    have hd := (flawE_zero h2).2.1
    rw [List.eq_nil_of_length_eq_zero h6, prod_nil] at hd
    exact nth_mem dv 0 (by omega)
  · rw [if_neg h6] at hl ⊢
    exact nth_mem dv k (by omega)
/-- A cell behind a Put: what was there, where nothing names it; else one of what was put. -/
theorem ptV_or (h : ptE c s dz bys cv sv dv = 0) {j : Nat} (hj : j < dz.length) : (nth (ptV s dz bys sv dv) j = nth dz j ∧ ∀ k, k < (prod (pkS bys)).toNat → pkP s bys k ≠ j) ∨ ((∃ k, k < (prod (pkS bys)).toNat ∧ pkP s bys k = j) ∧ nth (ptV s dz bys sv dv) j ∈ dv) := by
  rw [ptV_nth s dz bys sv dv hj]
  rcases lstV_or (pkP s bys) (putW (prod (pkS bys)).toNat sv dv) j (nth dz j) (prod (pkS bys)).toNat with h1 | ⟨k, hk, hP, h1, _⟩
  · exact .inl h1
  · exact .inr ⟨⟨k, hk, hP⟩, by rw [h1]; exact putW_mem h hk⟩
theorem pt_flaw7 (h : ptE c s dz bys cv sv dv = 0) : flawE c s (ptV s dz bys sv dv) = 0 := by
  obtain ⟨h1, h2, h3, h4⟩ := ptE_zero.1 h
  have f1 := (pkE_zero.1 h1).1
  obtain ⟨e1, e2, e3⟩ := flawE_zero f1
  have hl : ((ptV s dz bys sv dv).length : Int) = prod s := by rw [ptV_length]; exact e2
  cases c
  · exact flawE_okn e1 hl
  · refine flawE_okc e1 hl ?_
    have g3 := (flawE_zero h2).2.2 h3.symm
    have e3 := e3 rfl
    unfold chAll at *
    rw [List.all_eq_true] at *
    intro y hy
    obtain ⟨j, hj, rfl⟩ := List.mem_iff_getElem.1 hy
    rw [ptV_length] at hj
    rw [← nth_get _ j (by rw [ptV_length]; exact hj)]
    rcases ptV_or h hj with ⟨q, _⟩ | ⟨_, q⟩
    · rw [q]; exact e3 _ (nth_mem dz j hj)
    · exact g3 _ q
theorem pt_647 (h : ptE c s dz bys cv sv dv = 0) (T : ∀ j, In64 (nth dz j)) (T' : ∀ j, In64 (nth dv j)) : ∀ j, In64 (nth (ptV s dz bys sv dv) j) := fun j => by
  by_cases hj : j < dz.length
  · rcases ptV_or h hj with ⟨q, _⟩ | ⟨_, q⟩
    · rw [q]; exact T j
    · obtain ⟨i, hi, e⟩ := List.mem_iff_getElem.1 q
      rw [← e, ← nth_get dv i hi]; exact T' i
  · have : nth (ptV s dz bys sv dv) j = 0 := by simp [nth, List.getElem?_eq_none (show (ptV s dz bys sv dv).length ≤ j by rw [ptV_length]; omega)]
    rw [this]; unfold In64; decide
/-- What is told, put back, changes nothing. -/
theorem lens1 (h : pkE c s dz bys = 0) : ptE c s dz bys c (pkS bys) (pkD s dz bys) = 0 ∧ ptV s dz bys (pkS bys) (pkD s dz bys) = dz := by
  have h0 : ptE c s dz bys c (pkS bys) (pkD s dz bys) = 0 := ptE_zero.2 ⟨h, pk_flaw h, rfl, .inr rfl⟩
  refine ⟨h0, nth_ext (ptV_length _ _ _ _ _) fun j hj => ?_⟩
  rw [ptV_length] at hj
  rw [ptV_nth _ _ _ _ _ hj]
  refine lstV_back _ _ _ _ _ fun k hk hP => ?_
  have e : nth (putW (prod (pkS bys)).toNat (pkS bys) (pkD s dz bys)) k = nth (pkD s dz bys) k := by
    unfold putW
    by_cases h6 : (pkS bys).length = 0
    · rw [if_pos h6, nth_rep _ _ hk]
      rw [List.eq_nil_of_length_eq_zero h6, prod_nil] at hk
      rw [show k = 0 by omega]
    · rw [if_neg h6]
  rw [e, pkD_nth hk, hP, Int.toNat_natCast]
/-- What is put twice is what was put last. -/
theorem lens2 {cw : Bool} {sw dw : List Int} (h : ptE c s dz bys cv sv dv = 0) : ptE c s (ptV s dz bys sv dv) bys cw sw dw = ptE c s dz bys cw sw dw ∧ ptV s (ptV s dz bys sv dv) bys sw dw = ptV s dz bys sw dw := by
  have f1 := (pkE_zero.1 (ptE_zero.1 h).1).1
  have f2 := pt_flaw7 h
  constructor
  · unfold ptE
    rw [f1, f2]
  · refine nth_ext (by rw [ptV_length, ptV_length, ptV_length]) fun j hj => ?_
    rw [ptV_length, ptV_length] at hj
    rw [ptV_nth _ _ _ _ _ (by rw [ptV_length]; exact hj), ptV_nth _ _ _ _ _ hj, ptV_nth _ _ _ _ _ hj]
    exact lstV_over _ _ _ _ _ _
theorem pkE_data {dz' : List Int} (h : flawE c s dz = 0) {c' : Bool} (h' : flawE c' s dz' = 0) : pkE c' s dz' bys = pkE c s dz bys := by unfold pkE; rw [h, h']
/-- Where no place is told twice, what was put is told. -/
theorem lens3 (h : ptE c s dz bys cv sv dv = 0) (ho : ∀ i k, i < (prod (pkS bys)).toNat → k < (prod (pkS bys)).toNat → pkP s bys i = pkP s bys k → i = k) :
    pkE c s (ptV s dz bys sv dv) bys = 0 ∧ pkD s (ptV s dz bys sv dv) bys = putW (prod (pkS bys)).toNat sv dv := by
  obtain ⟨h1, h2, h3, h4⟩ := ptE_zero.1 h
  have f1 := (pkE_zero.1 h1).1
  have hd := (flawE_zero f1).2.1
  have e0 : pkE c s (ptV s dz bys sv dv) bys = 0 := by rw [pkE_data f1 (pt_flaw7 h)]; exact h1
  refine ⟨e0, nth_ext (by rw [putW_len h]; unfold pkD; rw [TA_length]) fun k hk => ?_⟩
  have hk' : k < (prod (pkS bys)).toNat := by unfold pkD at hk; rwa [TA_length] at hk
  have hb := pkP_bd h1 hk'
  rw [pkD_nth hk', ptV_nth _ _ _ _ _ (by omega), Int.toNat_of_nonneg hb.1]
  exact lstV_once _ _ _ _ ho hk'
end
/-! ### Some of some -/
theorem pkS_one (b : Ar) : pkS [b] = b.2.1 := by simp [pkS]
theorem pkT_one {b : Ar} {t : List Int} (h : t.length = b.2.1.length) : pkT [b] t = [cel b.2.1 b.2.2 t] := by simp only [pkT]; rw [List.take_of_length_le (by omega)]
theorem chains {c : Bool} {s dz : List Int} {b : Ar} {more : List Ar} (h1 : pkE c s dz [b] = 0) (h2 : pkE c (pkS [b]) (pkD s dz [b]) more = 0) :
    pkE b.1 b.2.1 b.2.2 more = 0 ∧ pkE c s dz [(b.1, (pkS more, pkD b.2.1 b.2.2 more))] = 0 ∧ pkS [(b.1, (pkS more, pkD b.2.1 b.2.2 more))] = pkS more ∧ pkD s dz [(b.1, (pkS more, pkD b.2.1 b.2.2 more))] = pkD (pkS [b]) (pkD s dz [b]) more := by
  obtain ⟨a1, a2, a3, a4, a5, a6⟩ := pkE_zero.1 h1
  obtain ⟨b1, b2, b3, b4, b5, b6⟩ := pkE_zero.1 h2
  have fb := (flL_cons a2).1
  rw [pkS_one] at h2 a5 b1 b3 b6
  have e1 : pkE b.1 b.2.1 b.2.2 more = 0 := pkE_zero.2 ⟨fb, b2, b3, b4, b5, b6⟩
  have hS : pkS [(b.1, (pkS more, pkD b.2.1 b.2.2 more))] = pkS more := pkS_one _
  have fu := pk_flaw e1
  have e2 : pkE c s dz [(b.1, (pkS more, pkD b.2.1 b.2.2 more))] = 0 := by
    refine pkE_zero.2 ⟨a1, ?_, a3, ?_, by rw [hS]; exact b5, ?_⟩
    · simp only [flL]; rw [if_neg (by simpa using fu)]
    · simpa [chL] using a4
    · simp only [ixB, Bool.and_true] at a6 ⊢
      rw [List.all_eq_true] at a6 ⊢
      intro i hi
      obtain ⟨t, ht, rfl⟩ := TA_mem b5 hi
      have hin := pk_in e1 ht
      have hp := place_bd hin
      have hd := (flawE_zero fb).2.1
      exact a6 _ (nth_mem _ _ (by omega))
  refine ⟨e1, e2, hS, ?_⟩
  have hU : ∀ t, insB (pkS more) t = true → cel (pkS more) (pkD b.2.1 b.2.2 more) t = cel b.2.1 b.2.2 (pkT more t) := fun t ht => TA_at b5 ht
  have hX : ∀ t, insB b.2.1 t = true → cel (pkS [b]) (pkD s dz [b]) t = cel s dz (pkT [b] t) := fun t ht => by
    unfold pkD
    exact TA_at (by rw [pkS_one]; exact a5) (by rw [pkS_one]; exact ht)
  generalize pkD b.2.1 b.2.2 more = U at *
  show TA (pkS [(b.1, (pkS more, U))]) (fun t => cel s dz (pkT [(b.1, (pkS more, U))] t)) = TA (pkS more) (fun t => cel (pkS [b]) (pkD s dz [b]) (pkT more t))
  rw [hS]
  refine TA_congr b5 fun t ht => ?_
  have hin := pk_in e1 ht
  rw [hX _ hin, pkT_one (insB_len hin), pkT_one (insB_len ht)]
  show cel s dz [cel (pkS more) U t] = _
  rw [hU t ht]
end Go.Proofs.Yteddkfeiikdekaa
/-! Pikq: What the program's At and Put tell, in one form. -/
namespace Go.Proofs.Yteddkfeiikdekaa
open Go.RowKit
set_option linter.unusedVariables false

section
variable (c : Bool) (sz dz : List Int) (bys : List Ar) (c' : Bool) (sz' dz' : List Int)
def pkS7 : List Int := onl (pkE c sz dz bys) (pkS bys)
def pkD7 : List Int := onl (pkE c sz dz bys) (pkD sz dz bys)
def ptS7 : List Int := onl (ptE c sz dz bys c' sz' dz') sz
def ptD7 : List Int := onl (ptE c sz dz bys c' sz' dz') (ptV sz dz bys sz' dz')
theorem pk7_len : (pkS7 c sz dz bys).length ≤ 4096 ∧ (pkD7 c sz dz bys).length ≤ 4096 :=
  ⟨onl_le6 fun h => by have := (pk_len h).1; omega, onl_le6 fun h => (pk_len h).2⟩
theorem pt7_len : (ptS7 c sz dz bys c' sz' dz').length ≤ 4096 ∧ (ptD7 c sz dz bys c' sz' dz').length ≤ 4096 :=
  ⟨onl_le6 fun h => by have := (flawE_short (pkE_zero.1 (ptE_zero.1 h).1).1).1; omega, onl_le6 fun h => by rw [ptV_length]; exact (flawE_short (pkE_zero.1 (ptE_zero.1 h).1).1).2⟩
end
/-- The contract of pick.At. -/
def CAt : Prop := ∀ (c : Bool) (sa : Option Addr) (sc : Nat) (sz : List Int) (da : Option Addr) (dc : Nat) (dz : List Int) (ba : Option Addr) (bc : Nat) (bs : List ArV) (w : World), sz.length ≤ 9223372036854775807 → dz.length ≤ 9223372036854775807 → bs.length ≤ 9223372036854775807 → IsInts w.heap.size w sa sz → IsInts w.heap.size w da dz → IsAs w.heap.size w ba bs →
  Calls Try.prog 21 #[.agg #[.bool c, .slice sa sz.length sc, .slice da dz.length dc], .slice ba bs.length bc] w (UB (pkE c sz dz (bya bs)) (onc (pkE c sz dz (bya bs)) c) (pkS7 c sz dz (bya bs)) (pkD7 c sz dz (bya bs)) w)
end Go.Proofs.Yteddkfeiikdekaa
