/-
  Slices of words.
-/
import Derived.Deep.AppendLies
import Derived.Test.YthfdpfekjcdlbaaDoorLxi
namespace Go.Proofs.YthfdpfekjcdlbaaDoor
open Go.RowKit Go.Lib
set_option linter.unusedVariables false

theorem Tryd.infoTok : (Tryd.prog.info? 29).map (fun i => (i.zero, i.size, i.bytes)) = some (some (.agg #[.int .i64 0, .int .i64 0, .int .i64 0, .string ⟨#[]⟩, .int .i64 0]), 5, 48) := by kernel_rfl
abbrev TkA := Tk × Int
def TkA.s (b : TkA) : Value := .string ⟨b.1.text.toArray⟩
def tkz (bs : List TkA) (j : Nat) : TkA := bs.getD j (⟨0, 0, 0, []⟩, 0)
/-- The cells of words, one behind the other. -/
def cl5 : List TkA → List Value
  | [] => []
  | b :: r => .int .i64 b.1.kind :: .int .i64 b.1.fn :: .int .i64 b.1.num :: b.s :: .int .i64 b.2 :: cl5 r
theorem cl5_length : ∀ bs : List TkA, (cl5 bs).length = bs.length * 5
  | [] => rfl
  | b :: r => by simp only [cl5, List.length_cons, cl5_length r]; omega
theorem cl5_snoc : ∀ (bs : List TkA) (b : TkA), cl5 (bs ++ [b]) = cl5 bs ++ [.int .i64 b.1.kind, .int .i64 b.1.fn, .int .i64 b.1.num, b.s, .int .i64 b.2]
  | [], b => rfl
  | x :: r, b => by simp only [List.cons_append, cl5, cl5_snoc r b]
theorem cl5_at : ∀ (bs : List TkA) (j : Nat), j < bs.length → (cl5 bs)[j * 5]? = some (.int .i64 (tkz bs j).1.kind) ∧ (cl5 bs)[j * 5 + 1]? = some (.int .i64 (tkz bs j).1.fn) ∧ (cl5 bs)[j * 5 + 2]? = some (.int .i64 (tkz bs j).1.num) ∧ (cl5 bs)[j * 5 + 3]? = some (tkz bs j).s ∧ (cl5 bs)[j * 5 + 4]? = some (.int .i64 (tkz bs j).2)
  | [], j, h => by simp at h
  | b :: r, 0, _ => ⟨rfl, rfl, rfl, rfl, rfl⟩
  | b :: r, j + 1, h => by
    have ih := cl5_at r j (by simpa using h)
    have e : tkz (b :: r) (j + 1) = tkz r j := by simp [tkz]
    rw [e, show (j + 1) * 5 = j * 5 + 5 by omega]
    simpa [cl5] using ih
theorem tkz_snoc (bs : List TkA) (b : TkA) : tkz (bs ++ [b]) bs.length = b := by unfold tkz; simp
/-- Five cells of a word that lies among others. -/
def TkC (w : World) (g off : Nat) (b : TkA) : Prop :=
  w.cell? ⟨g, off, none⟩ = some (.int .i64 b.1.kind) ∧ w.cell? ⟨g, off + 1, none⟩ = some (.int .i64 b.1.fn) ∧ w.cell? ⟨g, off + 2, none⟩ = some (.int .i64 b.1.num) ∧ w.cell? ⟨g, off + 3, none⟩ = some b.s ∧ w.cell? ⟨g, off + 4, none⟩ = some (.int .i64 b.2)
/-- A slice leads to these words, below block n₀. -/
def IsTk (n₀ : Nat) (w : World) (a : Option Addr) (bs : List TkA) : Prop :=
  bs = [] ∨ ∃ g off, a = some ⟨g, off, none⟩ ∧ g < n₀ ∧ ∀ j, j < bs.length → TkC w g (off + j * 5) (tkz bs j)
theorem IsTk.go {n₀ : Nat} {w w' : World} {a : Option Addr} {bs : List TkA} (h : IsTk n₀ w a bs) (hB : Below n₀ w w') : IsTk n₀ w' a bs := by
  rcases h with h | ⟨g, off, rfl, hg, hc⟩
  · exact .inl h
  · refine .inr ⟨g, off, rfl, hg, fun j hj => ?_⟩
    obtain ⟨h0, h1, h2, h3, h4⟩ := hc j hj
    exact ⟨(hB.cell (p := ⟨g, _, none⟩) hg).trans h0, (hB.cell (p := ⟨g, _, none⟩) hg).trans h1, (hB.cell (p := ⟨g, _, none⟩) hg).trans h2, (hB.cell (p := ⟨g, _, none⟩) hg).trans h3, (hB.cell (p := ⟨g, _, none⟩) hg).trans h4⟩
theorem IsTk.mono {n m : Nat} {w : World} {a : Option Addr} {bs : List TkA} (h : IsTk n w a bs) (hm : n ≤ m) : IsTk m w a bs := by
  rcases h with h | ⟨g, off, e, hg, hc⟩
  · exact .inl h
  · exact .inr ⟨g, off, e, by omega, hc⟩
/-- A row of words in a block of its own, read. -/
theorem own5_is {w : World} {base : Nat} {v : Value} {n : Nat} {bs : List TkA} (hn : bs.length = n) (h : w.ownsRow base 29 5 v n (cl5 bs)) :
    ∃ a cap, v = .slice a n cap ∧ IsTk w.heap.size w a bs := by
  subst hn
  rcases h.2 with ⟨rfl, h0⟩ | ⟨g, cap, cur, rfl, h1, hg, h2, _, h3, h4⟩
  · rw [h0]; exact ⟨none, 0, rfl, .inl (List.eq_nil_of_length_eq_zero h0)⟩
  · refine ⟨some ⟨g, 0, none⟩, cap, rfl, .inr ⟨g, 0, rfl, (Array.getElem?_eq_some_iff.1 hg).1, fun j hj => ?_⟩⟩
    have rd : ∀ i, i < bs.length * 5 → w.cell? ⟨g, i, none⟩ = (cl5 bs)[i]? := fun i hi => by
      rw [← h4, List.getElem?_take, if_pos hi]
      simp [World.cell?, hg]
    obtain ⟨c0, c1, c2, c3, c4⟩ := cl5_at bs j hj
    unfold TkC
    rw [Nat.zero_add, rd _ (by omega), rd _ (by omega), rd _ (by omega), rd _ (by omega), rd _ (by omega)]
    exact ⟨c0, c1, c2, c3, c4⟩
theorem own5_go {w w' : World} {base : Nat} {v : Value} {n : Nat} {xs : List Value} (h : w.ownsRow base 29 5 v n xs) (hB : Below w.heap.size w w') : w'.ownsRow base 29 5 v n xs := by
  obtain ⟨h0, h⟩ := h
  refine ⟨h0, ?_⟩
  rcases h with h | ⟨g, cap, cur, e, h1, hg, h2⟩
  · exact .inl h
  · exact .inr ⟨g, cap, cur, e, h1, (hB.block g (Array.getElem?_eq_some_iff.1 hg).1).trans hg, h2⟩
/-- What was read, with where it begins as a number. -/
def rdA (ws : List (Tk × Nat)) : List TkA := ws.map (fun x => (x.1, (x.2 : Int)))
theorem rdA_snoc (ws : List (Tk × Nat)) (t : Tk) (i : Nat) : rdA (ws ++ [(t, i)]) = rdA ws ++ [(t, (i : Int))] := by unfold rdA; simp
theorem rdA_length (ws : List (Tk × Nat)) : (rdA ws).length = ws.length := by unfold rdA; simp
end Go.Proofs.YthfdpfekjcdlbaaDoor
