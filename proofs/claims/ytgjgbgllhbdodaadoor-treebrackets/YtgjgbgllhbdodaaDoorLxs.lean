/-
  Lxj Lxk Lxr Lxs, together.
-/
import Derived.Deep.AppendLies
import Derived.Test.YtgjgbgllhbdodaaDoorBas9
import Derived.Test.YtgjgbgllhbdodaaDoorLxm
import Derived.Test.YtgjgbgllhbdodaaDoorLxi
import Derived.Laws.Strings
import Derived.Laws.StructEq
/-! Lxj: Slices of words. -/
namespace Go.Proofs.YtgjgbgllhbdodaaDoor
open Go.RowKit Go.Lib
set_option linter.unusedVariables false

theorem Tryd.infoTok : (Tryd.prog.info? 30).map (fun i => (i.zero, i.size, i.bytes)) = some (some (.agg #[.int .i64 0, .int .i64 0, .int .i64 0, .string ⟨#[]⟩, .int .i64 0]), 5, 48) := by kernel_rfl
abbrev TkA := Tk × Int
def TkA.s (b : TkA) : Value := .string ⟨b.1.text.toArray⟩
def tkz (bs : List TkA) (j : Nat) : TkA := bs.getD j (⟨0, 0, 0, []⟩, 0)
/-- The cells of words, one behind the other. -/
def cl5 : List TkA → List Value
  | [] => []
  | b :: r => .int .i64 b.1.kind :: .int .i64 b.1.fn :: .int .i64 b.1.num :: b.s :: .int .i64 b.2 :: cl5 r
theorem cl5_length : ∀ bs : List TkA, (cl5 bs).length = bs.length * 5
  | [] => rfl
  | b :: r => by simp only [cl5, List.length_cons, cl5_length r]; omega
theorem cl5_snoc : ∀ (bs : List TkA) (b : TkA), cl5 (bs ++ [b]) = cl5 bs ++ [.int .i64 b.1.kind, .int .i64 b.1.fn, .int .i64 b.1.num, b.s, .int .i64 b.2]
  | [], b => rfl
  | x :: r, b => by simp only [List.cons_append, cl5, cl5_snoc r b]
theorem cl5_at : ∀ (bs : List TkA) (j : Nat), j < bs.length → (cl5 bs)[j * 5]? = some (.int .i64 (tkz bs j).1.kind) ∧ (cl5 bs)[j * 5 + 1]? = some (.int .i64 (tkz bs j).1.fn) ∧ (cl5 bs)[j * 5 + 2]? = some (.int .i64 (tkz bs j).1.num) ∧ (cl5 bs)[j * 5 + 3]? = some (tkz bs j).s ∧ (cl5 bs)[j * 5 + 4]? = some (.int .i64 (tkz bs j).2)
  | [], j, h => by simp at h
  | b :: r, 0, _ => ⟨rfl, rfl, rfl, rfl, rfl⟩
  | b :: r, j + 1, h => by
    have ih := cl5_at r j (by simpa using h)
    have e : tkz (b :: r) (j + 1) = tkz r j := by simp [tkz]
    rw [e, show (j + 1) * 5 = j * 5 + 5 by omega]
    simpa [cl5] using ih
theorem tkz_snoc (bs : List TkA) (b : TkA) : tkz (bs ++ [b]) bs.length = b := by unfold tkz; simp
/-- Five cells of a word that lies among others. -/
def TkC (w : World) (g off : Nat) (b : TkA) : Prop :=
  w.cell? ⟨g, off, none⟩ = some (.int .i64 b.1.kind) ∧ w.cell? ⟨g, off + 1, none⟩ = some (.int .i64 b.1.fn) ∧ w.cell? ⟨g, off + 2, none⟩ = some (.int .i64 b.1.num) ∧ w.cell? ⟨g, off + 3, none⟩ = some b.s ∧ w.cell? ⟨g, off + 4, none⟩ = some (.int .i64 b.2)
/-- A slice leads to these words, below block n₀. -/
def IsTk (n₀ : Nat) (w : World) (a : Option Addr) (bs : List TkA) : Prop :=
  bs = [] ∨ ∃ g off, a = some ⟨g, off, none⟩ ∧ g < n₀ ∧ ∀ j, j < bs.length → TkC w g (off + j * 5) (tkz bs j)
theorem IsTk.go {n₀ : Nat} {w w' : World} {a : Option Addr} {bs : List TkA} (h : IsTk n₀ w a bs) (hB : Below n₀ w w') : IsTk n₀ w' a bs := by
  rcases h with h | ⟨g, off, rfl, hg, hc⟩
  · exact .inl h
  · refine .inr ⟨g, off, rfl, hg, fun j hj => ?_⟩
    obtain ⟨h0, h1, h2, h3, h4⟩ := hc j hj
    exact ⟨(hB.cell (p := ⟨g, _, none⟩) hg).trans h0, (hB.cell (p := ⟨g, _, none⟩) hg).trans h1, (hB.cell (p := ⟨g, _, none⟩) hg).trans h2, (hB.cell (p := ⟨g, _, none⟩) hg).trans h3, (hB.cell (p := ⟨g, _, none⟩) hg).trans h4⟩
theorem IsTk.mono {n m : Nat} {w : World} {a : Option Addr} {bs : List TkA} (h : IsTk n w a bs) (hm : n ≤ m) : IsTk m w a bs := by
  rcases h with h | ⟨g, off, e, hg, hc⟩
  · exact .inl h
  · exact .inr ⟨g, off, e, by omega, hc⟩
/-- A row of words in a block of its own, read. -/
theorem own5_is {w : World} {base : Nat} {v : Value} {n : Nat} {bs : List TkA} (hn : bs.length = n) (h : w.ownsRow base 30 5 v n (cl5 bs)) :
    ∃ a cap, v = .slice a n cap ∧ IsTk w.heap.size w a bs := by
  subst hn
  rcases h.2 with ⟨rfl, h0⟩ | ⟨g, cap, cur, rfl, h1, hg, h2, _, h3, h4⟩
  · rw [h0]; exact ⟨none, 0, rfl, .inl (List.eq_nil_of_length_eq_zero h0)⟩
  · refine ⟨some ⟨g, 0, none⟩, cap, rfl, .inr ⟨g, 0, rfl, (Array.getElem?_eq_some_iff.1 hg).1, fun j hj => ?_⟩⟩
    have rd : ∀ i, i < bs.length * 5 → w.cell? ⟨g, i, none⟩ = (cl5 bs)[i]? := fun i hi => by
      rw [← h4, List.getElem?_take, if_pos hi]
      simp [World.cell?, hg]
    obtain ⟨c0, c1, c2, c3, c4⟩ := cl5_at bs j hj
    unfold TkC
    rw [Nat.zero_add, rd _ (by omega), rd _ (by omega), rd _ (by omega), rd _ (by omega), rd _ (by omega)]
    exact ⟨c0, c1, c2, c3, c4⟩
theorem own5_go {w w' : World} {base : Nat} {v : Value} {n : Nat} {xs : List Value} (h : w.ownsRow base 30 5 v n xs) (hB : Below w.heap.size w w') : w'.ownsRow base 30 5 v n xs := by
  obtain ⟨h0, h⟩ := h
  refine ⟨h0, ?_⟩
  rcases h with h | ⟨g, cap, cur, e, h1, hg, h2⟩
  · exact .inl h
  · exact .inr ⟨g, cap, cur, e, h1, (hB.block g (Array.getElem?_eq_some_iff.1 hg).1).trans hg, h2⟩
/-- What was read, with where it begins as a number. -/
def rdA (ws : List (Tk × Nat)) : List TkA := ws.map (fun x => (x.1, (x.2 : Int)))
theorem rdA_snoc (ws : List (Tk × Nat)) (t : Tk) (i : Nat) : rdA (ws ++ [(t, i)]) = rdA ws ++ [(t, (i : Int))] := by unfold rdA; simp
theorem rdA_length (ws : List (Tk × Nat)) : (rdA ws).length = ws.length := by unfold rdA; simp
end Go.Proofs.YtgjgbgllhbdodaaDoor
/-! Lxk: The program reads a line. -/
namespace Go.Proofs.YtgjgbgllhbdodaaDoor
open Go.RowKit Go.Lib
set_option linter.unusedVariables false

/-- What reading a line ends with. -/
def LnP (L : Ln) (w : World) (e : Ending) (w' : World) : Prop :=
  Below w.heap.size w w' ∧ match L with
    | Except.ok ws => ∃ a cap, e = .returned (.tuple #[.slice a ws.length cap, .int .i64 0, .nilIface]) ∧ IsTk w'.heap.size w' a (rdA ws)
    | Except.error (i, c) => e = .returned (.tuple #[.slice none 0 0, .int .i64 (i : Int), errV c])
/-- The three named results of Read, in their blocks. -/
def Res3 (w : World) (k : Nat) (v : Value) : Prop :=
  w.heap[k]? = some (.cells #[v] 22 (0, 0)) ∧ w.heap[k + 1]? = some (.cells #[.int .i64 0] 3 (0, 0)) ∧ w.heap[k + 2]? = some (.cells #[.nilIface] 25 (0, 0)) ∧ k + 3 ≤ w.heap.size
theorem Res3.go {w w' : World} {k : Nat} {v : Value} (h : Res3 w k v) (hB : Below w.heap.size w w') : Res3 w' k v := by
  obtain ⟨h0, h1, h2, h3⟩ := h
  exact ⟨(hB.block k (by omega)).trans h0, (hB.block (k + 1) (by omega)).trans h1, (hB.block (k + 2) (by omega)).trans h2, Nat.le_trans h3 hB.size⟩
theorem Res3.new (w : World) : Res3 (((w.alloc (.cells #[.slice none 0 0] 22)).alloc (.cells #[.int .i64 0] 3)).alloc (.cells #[.nilIface] 25)) w.heap.size (.slice none 0 0) := by
  refine ⟨?_, ?_, ?_, by simp⟩
  · have h := World.alloc_heap_new w (.cells #[.slice none 0 0] 22)
    exact (Below.heap_alloc _ _ _ (by simp; omega)).trans ((Below.heap_alloc _ _ _ (by simp)).trans h)
  · have h := World.alloc_heap_new (w.alloc (.cells #[.slice none 0 0] 22)) (.cells #[.int .i64 0] 3)
    rw [World.size_alloc] at h
    exact (Below.heap_alloc _ _ _ (by simp)).trans h
  · have h := World.alloc_heap_new ((w.alloc (.cells #[.slice none 0 0] 22)).alloc (.cells #[.int .i64 0] 3)) (.cells #[.nilIface] 25)
    rw [World.size_alloc, World.size_alloc] at h
    exact h
/-- The three named results written. -/
theorem res3_put {w : World} {k : Nat} {v : Value} (h : Res3 w k v) (x y z : Value) :
    (((w.setCell ⟨k, 0, none⟩ x).setCell ⟨k + 1, 0, none⟩ y).setCell ⟨k + 2, 0, none⟩ z).cell? ⟨k, 0, none⟩ = some x ∧
    (((w.setCell ⟨k, 0, none⟩ x).setCell ⟨k + 1, 0, none⟩ y).setCell ⟨k + 2, 0, none⟩ z).cell? ⟨k + 1, 0, none⟩ = some y ∧
    (((w.setCell ⟨k, 0, none⟩ x).setCell ⟨k + 1, 0, none⟩ y).setCell ⟨k + 2, 0, none⟩ z).cell? ⟨k + 2, 0, none⟩ = some z := by
  obtain ⟨h0, h1, h2, _⟩ := h
  have a0 : (w.setCell ⟨k, 0, none⟩ x).cell? ⟨k, 0, none⟩ = some x := by simp [World.cell?, World.setCell, Array.getElem?_modify, h0]
  have a1 : ((w.setCell ⟨k, 0, none⟩ x).setCell ⟨k + 1, 0, none⟩ y).cell? ⟨k + 1, 0, none⟩ = some y := by simp [World.cell?, World.setCell, Array.getElem?_modify, h1]
  have a2 : (((w.setCell ⟨k, 0, none⟩ x).setCell ⟨k + 1, 0, none⟩ y).setCell ⟨k + 2, 0, none⟩ z).cell? ⟨k + 2, 0, none⟩ = some z := by simp [World.cell?, World.setCell, Array.getElem?_modify, h2]
  have n : ∀ (W : World) (b b' : Nat) (q : Value), b ≠ b' → (W.setCell ⟨b', 0, none⟩ q).cell? ⟨b, 0, none⟩ = W.cell? ⟨b, 0, none⟩ := fun W b b' q hb => World.cell?_of_block (Below.heap_setCell W ⟨b', 0, none⟩ q b hb)
  refine ⟨?_, ?_, a2⟩
  · exact (n _ k (k + 2) _ (by omega)).trans ((n _ k (k + 1) _ (by omega)).trans a0)
  · exact (n _ (k + 1) (k + 2) _ (by omega)).trans a1
theorem res3_bel {v w : World} {k : Nat} (h : Below k v w) (x y z : Value) : Below k v (((w.setCell ⟨k, 0, none⟩ x).setCell ⟨k + 1, 0, none⟩ y).setCell ⟨k + 2, 0, none⟩ z) :=
  ((h.setCell (p := ⟨k, 0, none⟩) (Nat.le_refl _) _).setCell (p := ⟨k + 1, 0, none⟩) (Nat.le_succ _) _).setCell (p := ⟨k + 2, 0, none⟩) (by show k ≤ k + 2; omega) _
theorem own5_set {w : World} {base : Nat} {v : Value} {n : Nat} {xs : List Value} (h : w.ownsRow base 30 5 v n xs) {b : Nat} (hb : b < base) (x : Value) : (w.setCell ⟨b, 0, none⟩ x).ownsRow base 30 5 v n xs := by
  obtain ⟨h0, h⟩ := h
  refine ⟨h0, ?_⟩
  rcases h with h | ⟨g, cap, cur, e, h1, hg, h2⟩
  · exact .inl h
  · exact .inr ⟨g, cap, cur, e, h1, (Below.heap_setCell w ⟨b, 0, none⟩ x g (by show g ≠ b; omega)).trans hg, h2⟩
theorem Res3.grow {w w' : World} {k : Nat} {v : Value} {row : Option Nat} (h : Res3 w k v) (hg : w.grownBy w' row) (ho : ∀ j, row = some j → k + 3 ≤ j) : Res3 w' k v := by
  obtain ⟨h0, h1, h2, h3⟩ := h
  have ne : ∀ j, j < k + 3 → some j ≠ row := fun j hj e => by have := ho j e.symm; omega
  exact ⟨(hg.block k (by omega) (ne k (by omega))).trans h0, (hg.block (k + 1) (by omega) (ne _ (by omega))).trans h1, (hg.block (k + 2) (by omega) (ne _ (by omega))).trans h2, Nat.le_trans h3 hg.size⟩
/-- The words' own result written. -/
theorem Res3.put0 {w : World} {k : Nat} {v : Value} (h : Res3 w k v) (x : Value) : Res3 (w.setCell ⟨k, 0, none⟩ x) k x := by
  obtain ⟨h0, h1, h2, h3⟩ := h
  refine ⟨by simp [World.setCell, Array.getElem?_modify, h0], (Below.heap_setCell w ⟨k, 0, none⟩ x (k + 1) (by show k + 1 ≠ k; omega)).trans h1, (Below.heap_setCell w ⟨k, 0, none⟩ x (k + 2) (by show k + 2 ≠ k; omega)).trans h2, by simpa [World.setCell] using h3⟩
end Go.Proofs.YtgjgbgllhbdodaaDoor
/-! Lxr: The reference's question whether a text begins so; the statements' question whether two lists of words are the same. -/
namespace Go.Proofs.YtgjgbgllhbdodaaDoor
open Go.RowKit Go.Lib
set_option linter.unusedVariables false

theorem pre_at (p s : ByteArray) (i : Nat) (hl : p.size ≤ s.size - i) (k : Nat) (hk : k ≤ p.size) (h : ∀ j, j < k → bt s (i + j) = bt p j) : (tl p 0).take k <+: tl s i := by
  rw [List.prefix_iff_eq_take]
  have e : ((tl p 0).take k).length = k := by rw [List.length_take, tl_len]; omega
  rw [e]
  apply List.ext_getElem?
  intro j
  rw [List.getElem?_take, List.getElem?_take]
  by_cases hj : j < k
  · rw [if_pos hj, if_pos hj]
    have := h j hj
    unfold bt at this
    have h1 : j < p.data.toList.length := by rw [← size_eq]; omega
    have h2 : i + j < s.data.toList.length := by rw [← size_eq]; omega
    rw [List.getD_eq_getElem?_getD, List.getD_eq_getElem?_getD, List.getElem?_eq_getElem h1, List.getElem?_eq_getElem h2] at this
    unfold tl
    rw [List.drop_zero, List.getElem?_drop, List.getElem?_eq_getElem h1, List.getElem?_eq_getElem h2]
    exact congrArg some (UInt8.toNat_inj.1 this.symm)
  · rw [if_neg hj, if_neg hj]
theorem pre_no (p s : ByteArray) (i k : Nat) (hk : k < p.size) (hl : p.size ≤ s.size - i) (h : bt s (i + k) ≠ bt p k) : (tl p 0).isPrefixOf (tl s i) = false := by
  refine Bool.eq_false_iff.2 fun e => h ?_
  obtain ⟨r, hr⟩ := List.isPrefixOf_iff_prefix.1 e
  have h1 : k < p.data.toList.length := by rw [← size_eq]; omega
  have h2 : (tl p 0 ++ r)[k]? = (tl s i)[k]? := by rw [hr]
  rw [tl_zero, List.getElem?_append_left h1] at h2
  unfold tl at h2
  rw [List.getElem?_drop] at h2
  unfold bt
  rw [List.getD_eq_getElem?_getD, List.getD_eq_getElem?_getD, h2]
theorem pre_short (p s : ByteArray) (i : Nat) (hl : s.size - i < p.size) : (tl p 0).isPrefixOf (tl s i) = false := by
  refine Bool.eq_false_iff.2 fun e => ?_
  have := (List.isPrefixOf_iff_prefix.1 e).length_le
  rw [tl_len, tl_len] at this; omega
/-- A byte of a text, at a place that is told. -/
theorem index_at (s : ByteArray) (i : Nat) (x : Int) (hx : x = (i : Int)) (hi : i < s.size) (w : World) : (Instr.index 9 (.string s) (.int .i64 x)).run Tryd.prog w = .ok (.int .u8 (bt s i)) w := by
  subst hx
  have h := run_index_string (P := Tryd.prog) (w := w) 9 s .i64 (i : Int) Tryd.underlying9
  rw [dif_pos ⟨by omega, by omega⟩] at h
  rw [h]
  have := bt_get s i hi
  simp only [Int.toNat_natCast]
  rw [this]
end Go.Proofs.YtgjgbgllhbdodaaDoor
/-! Lxs: The statements' question whether two lists of words are the same. -/
namespace Go.Proofs.YtgjgbgllhbdodaaDoor
open Go.RowKit Go.Lib Classical
set_option linter.unusedVariables false

theorem IsTk.at {n₀ : Nat} {w : World} {a : Option Addr} {bs : List TkA} (h : IsTk n₀ w a bs) {j : Nat} (hj : j < bs.length) : ∃ g off, a = some ⟨g, off, none⟩ ∧ g < n₀ ∧ ∀ j, j < bs.length → TkC w g (off + j * 5) (tkz bs j) := by
  rcases h with h | h
  · rw [h] at hj; simp at hj
  · exact h
theorem tkz_ext {ts us : List TkA} (h : ts.length = us.length) (he : ∀ j, j < ts.length → tkz ts j = tkz us j) : ts = us := by
  apply List.ext_getElem h
  intro j h1 h2
  have := he j h1
  unfold tkz at this
  rw [List.getD_eq_getElem?_getD, List.getD_eq_getElem?_getD, List.getElem?_eq_getElem h1, List.getElem?_eq_getElem h2] at this
  exact this
theorem tok_neq (x y : TkA) (w : World) : (binOp .neq 30 (.agg #[.int .i64 x.1.kind, .int .i64 x.1.fn, .int .i64 x.1.num, x.s, .int .i64 x.2]) (.agg #[.int .i64 y.1.kind, .int .i64 y.1.fn, .int .i64 y.1.num, y.s, .int .i64 y.2])).run Tryd.prog w = .ok (.bool (decide (x ≠ y))) w := by
  unfold TkA.s
  obtain ⟨⟨k, f, n, t⟩, a⟩ := x
  obtain ⟨⟨k', f', n', t'⟩, a'⟩ := y
  simp [go_sem]
  by_cases h1 : k = k'
  · by_cases h2 : f = f'
    · by_cases h3 : n = n'
      · by_cases h4 : t = t'
        · by_cases h5 : a = a' <;> simp [h1, h2, h3, h4, h5]
        · simp [h1, h2, h3, h4]
      · simp [h1, h2, h3]
    · simp [h1, h2]
  · simp [h1]
theorem tok_same {x y : TkA} (h : x = y) (w : World) : (binOp .neq 30 (.agg #[.int .i64 x.1.kind, .int .i64 x.1.fn, .int .i64 x.1.num, x.s, .int .i64 x.2]) (.agg #[.int .i64 y.1.kind, .int .i64 y.1.fn, .int .i64 y.1.num, y.s, .int .i64 y.2])).run Tryd.prog w = .ok (.bool false) w := by
  rw [tok_neq, decide_eq_false (fun q => q h)]
theorem tok_diff {x y : TkA} (h : x ≠ y) (w : World) : (binOp .neq 30 (.agg #[.int .i64 x.1.kind, .int .i64 x.1.fn, .int .i64 x.1.num, x.s, .int .i64 x.2]) (.agg #[.int .i64 y.1.kind, .int .i64 y.1.fn, .int .i64 y.1.num, y.s, .int .i64 y.2])).run Tryd.prog w = .ok (.bool true) w := by
  rw [tok_neq, decide_eq_true h]
end Go.Proofs.YtgjgbgllhbdodaaDoor
