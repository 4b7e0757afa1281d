
/-
  A slice of words that came in, as the walks take it.
-/
import Derived.Deep.Slices
import Derived.Deep.Strs
import Derived.Test.YtgjgbgllhbdodaaGreatDoorRows
import Derived.Test.YtgjgbgllhbdodaaGreatDoorLyj
namespace Go.Proofs.YtgjgbgllhbdodaaGreatDoor
open Go.ChangeShapes Go.WideShapes Go.ChangeAt Go.RowKit Go.Deep Go.Lib
set_option linter.unusedVariables false

/-- A slice of words that came in, with room for so many. -/
def TokC (W : World) (a : Option Addr) (ts : List TkA) (cap : Nat) : Prop :=
  (ts.length ≤ 9223372036854775807 ∧ IsTk W.heap.size W a ts ∧ ∀ j, j < ts.length → InR (tkz ts j).1.num ∧ (tkz ts j).1.text.length ≤ 9223372036854775807) ∧ ts.length ≤ cap
def TokIn (W : World) (a : Option Addr) (ts : List TkA) : Prop :=
  ts.length ≤ 9223372036854775807 ∧ IsTk W.heap.size W a ts ∧ ∀ j, j < ts.length → InR (tkz ts j).1.num ∧ (tkz ts j).1.text.length ≤ 9223372036854775807
theorem trod_struct5 {H : Type} {enc : TypeId × Value → H} {P : Program} {w : World} {base : Nat} {spare : Nat → Bool} {held : Bool} {t : TypeId} {f0 f1 f2 f3 f4 : Field} {fuel : Nat} {cs : List Value} {x : DataW H × List MemPlace} (ht : P.underlying t = some (.struct #[f0, f1, f2, f3, f4])) (h : DataW.trod enc P w base spare held fuel t cs = some x) :
    ∃ y0 y1 y2 y3 y4 n, x.1 = .agg [y0.1, y1.1, y2.1, y3.1, y4.1] ∧ DataW.trod enc P w base spare held n f0.type ((cs.drop f0.offset).take (P.cellsOf f0.type)) = some y0 ∧
      DataW.trod enc P w base spare held n f1.type ((cs.drop f1.offset).take (P.cellsOf f1.type)) = some y1 ∧ DataW.trod enc P w base spare held n f2.type ((cs.drop f2.offset).take (P.cellsOf f2.type)) = some y2 ∧
      DataW.trod enc P w base spare held n f3.type ((cs.drop f3.offset).take (P.cellsOf f3.type)) = some y3 ∧ DataW.trod enc P w base spare held n f4.type ((cs.drop f4.offset).take (P.cellsOf f4.type)) = some y4 := by
  obtain ⟨xs, n, _, rfl, hl, hlen, hf⟩ := DataW.trod_struct ht h
  match xs, hlen with
  | [y0, y1, y2, y3, y4], _ => exact ⟨y0, y1, y2, y3, y4, n, by simp, by simpa using hf 0 f0 rfl, by simpa using hf 1 f1 rfl, by simpa using hf 2 f2 rfl, by simpa using hf 3 f3 rfl, by simpa using hf 4 f4 rfl⟩
theorem tkz_map (f : Nat → TkA) (n : Nat) {j : Nat} (h : j < n) : tkz ((List.range n).map f) j = f j := by
  unfold tkz
  simp [List.getD_eq_getElem?_getD, h]
theorem spot_none17 {W : World} {x : Addr} {v : Value} (h : W.cell? x = some v) : ∃ b off, x = ⟨b, off, none⟩ := by
  obtain ⟨b, off, sp⟩ := x
  cases sp with
  | none => exact ⟨b, off, rfl⟩
  | some q => simp [World.cell?] at h; split at h <;> simp_all
theorem add_zero17 (x : Addr) : x.add (0 * 5) = x := by simp [Addr.add]
theorem bulk_mem {H : Type} {l : List (DataW H)} {d : DataW H} (h : d ∈ l) : Rows.uptoBulk d ≤ Rows.uptoBulkAll l := by
  induction l with
  | nil => cases h
  | cons x r ih =>
    simp only [Rows.uptoBulkAll]
    rcases List.mem_cons.1 h with e | e
    · subst e; omega
    · have := ih e; omega
theorem bulk_text {H : Type} {y0 y1 y2 y4 : DataW H} {bytes : List UInt8} : bytes.length ≤ Rows.uptoBulk (.agg [y0, y1, y2, .lit (.string bytes), y4]) := by
  simp only [Rows.uptoBulk, Rows.uptoBulkAll]; omega
set_option maxRecDepth 100000 in
/-- A slice of words, opened. -/
theorem bulk_pos {H : Type} (d : DataW H) : 1 ≤ Rows.uptoBulk d := by
  unfold Rows.uptoBulk
  split <;> omega
theorem bulk_count {H : Type} : ∀ l : List (DataW H), l.length ≤ Rows.uptoBulkAll l
  | [] => Nat.zero_le _
  | d :: r => by
    have h1 := bulk_count r
    have h2 := bulk_pos d
    simp only [Rows.uptoBulkAll, List.length_cons]; omega
theorem open_tokc {H : Type} {enc : TypeId × Value → H} {W : World} {v : Value} {d : DataW H} {p : List MemPlace} (hv : ∃ a len cap, v = .slice a len cap)
    (h : DataW.Trod enc Tryz.prog W 0 (fun _ => true) true 22 v d p) :
    ∃ (a : Option Addr) (cap : Nat) (ts : List TkA), v = .slice a ts.length cap ∧ TokC W a ts cap ∧ (∀ j, j < ts.length → (tkz ts j).1.text.length ≤ Rows.uptoBulk d ∧ InR (tkz ts j).1.fn) ∧ ts.length ≤ Rows.uptoBulk d := by
  obtain ⟨a0, len0, cap0, rfl⟩ := hv
  obtain ⟨fuel, hf⟩ := h
  have ce : Tryz.prog.cellsOf 30 = 5 := by kernel_rfl
  rcases open_slice Tryz.underlying22 hf with ⟨hcs, _⟩ | ⟨x, len, cap, m, n, D, Pl, hcs, _, hl, hm, hmm, hxx, hx⟩
  · have e : Value.slice a0 len0 cap0 = .slice none 0 0 := (List.cons.inj hcs).1
    exact ⟨none, 0, [], e, ⟨⟨by simp, .inl rfl, fun j hj => by simp at hj⟩, by simp⟩, (fun j hj => by simp at hj), Nat.zero_le _⟩
  · have e : Value.slice a0 len0 cap0 = .slice (some x) len cap := (List.cons.inj hcs).1
    rw [ce] at hx
    have hlm : len ≤ m := by rw [hmm]; split <;> omega
    have each : ∀ i, i < len → ∃ b : TkA, W.cell? (x.add (i * 5)) = some (.int .i64 b.1.kind) ∧ W.cell? (x.add (i * 5 + 1)) = some (.int .i64 b.1.fn) ∧ W.cell? (x.add (i * 5 + 2)) = some (.int .i64 b.1.num) ∧ W.cell? (x.add (i * 5 + 3)) = some b.s ∧ W.cell? (x.add (i * 5 + 4)) = some (.int .i64 b.2) ∧ InR b.1.num ∧ b.1.text.length ≤ 9223372036854775807 ∧ b.1.text.length ≤ Rows.uptoBulk (D i) ∧ InR b.1.fn := by
      intro i hi
      obtain ⟨cs', h1, h2⟩ := hx i (by omega)
      obtain ⟨_, hlen, hcell⟩ := World.cells?_some h1
      match cs', hlen with
      | [v0, v1, v2, v3, v4], _ =>
        obtain ⟨y0, y1, y2, y3, y4, k, hD, g0, g1, g2, g3, g4⟩ := trod_struct5 Tryz.underlying30 h2
        have e0 : DataW.trod enc Tryz.prog W 0 (fun _ => true) true k 3 [v0] = some y0 := by
          have := g0
          rw [show Tryz.prog.cellsOf 3 = 1 by kernel_rfl] at this
          exact this
        have e1 : DataW.trod enc Tryz.prog W 0 (fun _ => true) true k 28 [v1] = some y1 := by
          have := g1
          rw [show Tryz.prog.cellsOf 28 = 1 by kernel_rfl] at this
          exact this
        have e2 : DataW.trod enc Tryz.prog W 0 (fun _ => true) true k 3 [v2] = some y2 := by
          have := g2
          rw [show Tryz.prog.cellsOf 3 = 1 by kernel_rfl] at this
          exact this
        have e3 : DataW.trod enc Tryz.prog W 0 (fun _ => true) true k 9 [v3] = some y3 := by
          have := g3
          rw [show Tryz.prog.cellsOf 9 = 1 by kernel_rfl] at this
          exact this
        have e4 : DataW.trod enc Tryz.prog W 0 (fun _ => true) true k 3 [v4] = some y4 := by
          have := g4
          rw [show Tryz.prog.cellsOf 3 = 1 by kernel_rfl] at this
          exact this
        obtain ⟨z0, hc0, _, _⟩ := DataW.trod_int Tryz.underlying3 e0
        obtain ⟨z1, hc1, _, hw1⟩ := DataW.trod_int Tryz.underlying28 e1
        obtain ⟨z2, hc2, _, hw2⟩ := DataW.trod_int Tryz.underlying3 e2
        obtain ⟨s3, hc3, hy3, hs3⟩ := DataW.trod_string Tryz.underlying9 e3
        obtain ⟨z4, hc4, _, _⟩ := DataW.trod_int Tryz.underlying3 e4
        obtain rfl := (List.cons.inj hc0).1
        obtain rfl := (List.cons.inj hc1).1
        obtain rfl := (List.cons.inj hc2).1
        obtain rfl := (List.cons.inj hc3).1
        obtain rfl := (List.cons.inj hc4).1
        have q0 := hcell 0 (by omega)
        have q1 := hcell 1 (by omega)
        have q2 := hcell 2 (by omega)
        have q3 := hcell 3 (by omega)
        have q4 := hcell 4 (by omega)
        rw [add_add] at q0 q1 q2 q3 q4
        have hr : InR z2 := by have := In64.wf hw2; unfold In64 at this; unfold InR; omega
        have hr1 : InR z1 := by have := In64.wf hw1; unfold In64 at this; unfold InR; omega
        have hsl : s3.data.toList.length ≤ 9223372036854775807 := by rw [← size_eq]; unfold maxLen at hs3; exact hs3
        have hbk : s3.data.toList.length ≤ Rows.uptoBulk (D i) := by
          have hD' : D i = .agg [y0.1, y1.1, y2.1, y3.1, y4.1] := hD
          rw [hD', hy3]; exact bulk_text
        exact ⟨(⟨z0, z1, z2, s3.data.toList⟩, z4), by simpa using q0, by simpa using q1, by simpa using q2, by simpa [TkA.s] using q3, by simpa using q4, hr, hsl, hbk, hr1⟩
    have hin : Inhabited TkA := ⟨(⟨0, 0, 0, []⟩, 0)⟩
    obtain ⟨q, hq⟩ := choose_lt each
    refine ⟨some x, cap, (List.range len).map q, by rw [e]; simp, ⟨⟨by simp; unfold maxLen at hm; omega, ?_, fun j hj => ?_⟩, by simpa using hl⟩, fun j hj => ?_, ?_⟩
    · by_cases h0 : len = 0
      · left; rw [h0]; rfl
      · right
        have h0' := (hq 0 (by omega)).1
        rw [add_zero17] at h0'
        obtain ⟨b, off, rfl⟩ := spot_none17 h0'
        refine ⟨b, off, rfl, World.block_lt_of_cell? W _ h0', fun j hj => ?_⟩
        simp only [List.length_map, List.length_range] at hj
        rw [tkz_map q len hj]
        have k := hq j hj
        have ad : ∀ i, (⟨b, off, none⟩ : Addr).add i = ⟨b, off + i, none⟩ := fun i => by
          unfold Addr.add; split
          · rename_i h0; subst h0; rfl
          · rfl
        rw [ad, ad, ad, ad, ad] at k
        exact ⟨k.1, by rw [Nat.add_assoc]; exact k.2.1, by rw [Nat.add_assoc]; exact k.2.2.1, by rw [Nat.add_assoc]; exact k.2.2.2.1, by rw [Nat.add_assoc]; exact k.2.2.2.2.1⟩
    · simp only [List.length_map, List.length_range] at hj
      rw [tkz_map q len hj]
      exact ⟨(hq j hj).2.2.2.2.2.1, (hq j hj).2.2.2.2.2.2.1⟩
    · simp only [List.length_map, List.length_range] at hj
      rw [tkz_map q len hj]
      refine ⟨Nat.le_trans (hq j hj).2.2.2.2.2.2.2.1 ?_, (hq j hj).2.2.2.2.2.2.2.2⟩
      have hd : d = .slice ((List.range len).map D) ((List.range (m - len)).map fun j => D (len + j)) := congrArg Prod.fst hxx
      rw [hd]
      have hm2 : D j ∈ (List.range len).map D := List.mem_map.2 ⟨j, List.mem_range.2 hj, rfl⟩
      have := bulk_mem hm2
      simp only [Rows.uptoBulk]
      omega
    · have hd : d = .slice ((List.range len).map D) ((List.range (m - len)).map fun j => D (len + j)) := congrArg Prod.fst hxx
      rw [hd, List.length_map, List.length_range]
      have := bulk_count ((List.range len).map D)
      rw [List.length_map, List.length_range] at this
      simp only [Rows.uptoBulk]
      omega
end Go.Proofs.YtgjgbgllhbdodaaGreatDoor
