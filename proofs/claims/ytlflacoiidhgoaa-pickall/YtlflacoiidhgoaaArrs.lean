/-
  A slice of arrays that came in, as the walks take it.
-/
import Derived.Deep.Slices
import Derived.Test.YtlflacoiidhgoaaCutq
namespace Go.Proofs.Ytlflacoiidhgoaa
open Go.ChangeShapes Go.WideShapes Go.ChangeAt Go.RowKit Go.Deep
set_option linter.unusedVariables false

/-- An array in memory: its kind; its shape and its cells, each with the slice that leads to it. -/
abbrev ArV : Type := Bool × ((Option Addr × Nat) × List Int) × ((Option Addr × Nat) × List Int)
def ArV.s (b : ArV) : Value := .slice b.2.1.1.1 b.2.1.2.length b.2.1.1.2
def ArV.d (b : ArV) : Value := .slice b.2.2.1.1 b.2.2.2.length b.2.2.1.2
def ArV.ar (b : ArV) : Bool × (List Int × List Int) := (b.1, (b.2.1.2, b.2.2.2))
def arz (bs : List ArV) (j : Nat) : ArV := bs.getD j (false, (((none, 0), []), ((none, 0), [])))
/-- What is known of an array that lies below block n. -/
def IsAv (n : Nat) (W : World) (b : ArV) : Prop :=
  b.2.1.2.length ≤ 9223372036854775807 ∧ b.2.2.2.length ≤ 9223372036854775807 ∧ IsC n W b.2.1.1.1 b.2.1.2 b.2.1.1.2 ∧ IsC n W b.2.2.1.1 b.2.2.2 b.2.2.1.2 ∧ (∀ j, In64 (nth b.2.1.2 j)) ∧ ∀ j, In64 (nth b.2.2.2 j)
def IsAs (n : Nat) (W : World) (a : Option Addr) (bs : List ArV) : Prop :=
  (bs = [] ∨ ∃ b off, a = some ⟨b, off, none⟩ ∧ b < n ∧ ∀ j, j < bs.length → W.cell? ⟨b, off + j * 3, none⟩ = some (.bool (arz bs j).1) ∧ W.cell? ⟨b, off + j * 3 + 1, none⟩ = some (arz bs j).s ∧ W.cell? ⟨b, off + j * 3 + 2, none⟩ = some (arz bs j).d) ∧ ∀ j, j < bs.length → IsAv n W (arz bs j)
section
variable {n n' : Nat} {W W' : World} {a : Option Addr} {bs : List ArV}
theorem IsAv.below {b : ArV} (hB : Below n W W') (h : IsAv n W b) : IsAv n W' b := ⟨h.1, h.2.1, h.2.2.1.below hB, h.2.2.2.1.below hB, h.2.2.2.2⟩
theorem IsAv.mono {b : ArV} (hn : n ≤ n') (h : IsAv n W b) : IsAv n' W b := ⟨h.1, h.2.1, h.2.2.1.mono hn, h.2.2.2.1.mono hn, h.2.2.2.2⟩
theorem IsAs.below (hB : Below n W W') (h : IsAs n W a bs) : IsAs n W' a bs := by
  refine ⟨?_, fun j hj => (h.2 j hj).below hB⟩
  rcases h.1 with e | ⟨b, off, e, hb, hc⟩
  · exact .inl e
  · exact .inr ⟨b, off, e, hb, fun j hj => ⟨(hB.cell (p := ⟨b, off + j * 3, none⟩) hb).trans (hc j hj).1, (hB.cell (p := ⟨b, off + j * 3 + 1, none⟩) hb).trans (hc j hj).2.1, (hB.cell (p := ⟨b, off + j * 3 + 2, none⟩) hb).trans (hc j hj).2.2⟩⟩
theorem IsAs.mono (hn : n ≤ n') (h : IsAs n W a bs) : IsAs n' W a bs := by
  refine ⟨?_, fun j hj => (h.2 j hj).mono hn⟩
  rcases h.1 with e | ⟨b, off, e, hb, hc⟩
  · exact .inl e
  · exact .inr ⟨b, off, e, by omega, hc⟩
theorem IsAs.at (h : IsAs n W a bs) {j : Nat} (hj : j < bs.length) : ∃ b off, a = some ⟨b, off, none⟩ ∧ b < n ∧ ∀ j, j < bs.length → W.cell? ⟨b, off + j * 3, none⟩ = some (.bool (arz bs j).1) ∧ W.cell? ⟨b, off + j * 3 + 1, none⟩ = some (arz bs j).s ∧ W.cell? ⟨b, off + j * 3 + 2, none⟩ = some (arz bs j).d := by
  rcases h.1 with e | h
  · subst e; simp at hj
  · exact h
end
theorem arz_map (f : Nat → ArV) (n : Nat) {j : Nat} (h : j < n) : arz ((List.range n).map f) j = f j := by
  unfold arz
  simp [List.getD_eq_getElem?_getD, h]
theorem spot_none {W : World} {x : Addr} {v : Value} (h : W.cell? x = some v) : ∃ b off, x = ⟨b, off, none⟩ := by
  obtain ⟨b, off, sp⟩ := x
  cases sp with
  | none => exact ⟨b, off, rfl⟩
  | some q => simp [World.cell?] at h; split at h <;> simp_all
theorem add_zero' (x : Addr) : x.add (0 * 3) = x := by simp [Addr.add]
set_option maxRecDepth 100000 in
/-- A slice of arrays, opened. -/
theorem open_arrs {H : Type} {enc : TypeId × Value → H} {W : World} {v : Value} {d : DataW H} {p : List MemPlace} (hv : ∃ a len cap, v = .slice a len cap)
    (h : DataW.Trod enc Try.prog W 0 (fun _ => true) true 25 v d p) :
    ∃ (a : Option Addr) (cap : Nat) (bs : List ArV), v = .slice a bs.length cap ∧ bs.length ≤ 9223372036854775807 ∧ IsAs W.heap.size W a bs := by
  obtain ⟨a0, len0, cap0, rfl⟩ := hv
  obtain ⟨fuel, hf⟩ := h
  have ce : Try.prog.cellsOf 24 = 3 := by kernel_rfl
  rcases open_slice Try.underlying25 hf with ⟨hcs, _⟩ | ⟨x, len, cap, m, n, D, Pl, hcs, _, hl, hm, hmm, _, hx⟩
  · have e : Value.slice a0 len0 cap0 = .slice none 0 0 := (List.cons.inj hcs).1
    exact ⟨none, 0, [], e, by simp, .inl rfl, fun j hj => by simp at hj⟩
  · have e : Value.slice a0 len0 cap0 = .slice (some x) len cap := (List.cons.inj hcs).1
    rw [ce] at hx
    have hlm : len ≤ m := by rw [hmm]; split <;> omega
    have each : ∀ i, i < len → ∃ b : ArV, W.cell? (x.add (i * 3)) = some (.bool b.1) ∧ W.cell? (x.add (i * 3 + 1)) = some b.s ∧ W.cell? (x.add (i * 3 + 2)) = some b.d ∧ IsAv W.heap.size W b := by
      intro i hi
      obtain ⟨cs', h1, h2⟩ := hx i (by omega)
      obtain ⟨_, hlen, hcell⟩ := World.cells?_some h1
      match cs', hlen with
      | [v0, v1, v2], _ =>
        obtain ⟨y0, y1, y2, k, _, _, g0, g1, g2⟩ := trod_struct3 Try.underlying24 h2
        have e0 : DataW.trod enc Try.prog W 0 (fun _ => true) true k 4 [v0] = some y0 := by
          have := g0
          rw [show Try.prog.cellsOf 4 = 1 by kernel_rfl] at this
          exact this
        have e1 : DataW.trod enc Try.prog W 0 (fun _ => true) true k 22 [v1] = some y1 := by
          have := g1
          rw [show Try.prog.cellsOf 22 = 1 by kernel_rfl] at this
          exact this
        have e2 : DataW.trod enc Try.prog W 0 (fun _ => true) true k 22 [v2] = some y2 := by
          have := g2
          rw [show Try.prog.cellsOf 22 = 1 by kernel_rfl] at this
          exact this
        obtain ⟨sa, sc, sz, rfl, s1, s2, s3, s4⟩ := open_slC e1
        obtain ⟨da, dc, dz, rfl, d1, d2, d3, d4⟩ := open_slC e2
        obtain ⟨c, hc, _⟩ := DataW.trod_bool Try.underlying4 e0
        obtain rfl := (List.cons.inj hc).1
        have q0 := hcell 0 (by omega)
        have q1 := hcell 1 (by omega)
        have q2 := hcell 2 (by omega)
        rw [add_add] at q0 q1 q2
        exact ⟨(c, (((sa, sc), sz), ((da, dc), dz))), by simpa using q0, by simpa [ArV.s] using q1, by simpa [ArV.d] using q2, s1, d1, ⟨s2, s4⟩, ⟨d2, d4⟩, s3, d3⟩
    obtain ⟨q, hq⟩ := choose_lt each
    refine ⟨some x, cap, (List.range len).map q, by rw [e]; simp, by simp; unfold maxLen at hm; omega, ?_, fun j hj => ?_⟩
    · by_cases h0 : len = 0
      · left; rw [h0]; rfl
      · right
        have h0' := (hq 0 (by omega)).1
        rw [add_zero'] at h0'
        obtain ⟨b, off, rfl⟩ := spot_none h0'
        refine ⟨b, off, rfl, ?_, fun j hj => ?_⟩
        · exact World.block_lt_of_cell? W _ h0'
        · simp only [List.length_map, List.length_range] at hj
          rw [arz_map q len hj]
          have k := hq j hj
          have ad : ∀ i, (⟨b, off, none⟩ : Addr).add i = ⟨b, off + i, none⟩ := fun i => by
            unfold Addr.add; split
            · rename_i h0; subst h0; rfl
            · rfl
          rw [ad, ad, ad] at k
          exact ⟨k.1, by rw [Nat.add_assoc]; exact k.2.1, by rw [Nat.add_assoc]; exact k.2.2.1⟩
    · simp only [List.length_map, List.length_range] at hj
      rw [arz_map q len hj]
      exact (hq j hj).2.2.2
end Go.Proofs.Ytlflacoiidhgoaa
