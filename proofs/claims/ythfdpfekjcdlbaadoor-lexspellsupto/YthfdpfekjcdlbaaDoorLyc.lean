/-
  The reference reads Chars.
-/
import Derived.Test.YthfdpfekjcdlbaaDoorLyb
namespace Go.Proofs.YthfdpfekjcdlbaaDoor
open Go.RowKit Go.Lib
set_option linter.unusedVariables false

def tokZ : Value := .agg #[.int .i64 0, .int .i64 0, .int .i64 0, .string ⟨#[]⟩, .int .i64 0]
/-- What the reference tells of a word. -/
def RwP (W : Wd) (i : Nat) (w : World) (e : Ending) (w' : World) : Prop :=
  Below w.heap.size w w' ∧ match W with
    | Except.ok (t, n) => e = .returned (.tuple #[tokV t i, .int .i64 ((i + n : Nat) : Int), .int .i64 0])
    | Except.error c => e = .returned (.tuple #[tokZ, .int .i64 0, .int .i64 c])
theorem bt_getD (s : ByteArray) (i : Nat) : (s.data.toList.getD i 0).toNat = bt s i := rfl
/-- What has been read of Chars, byte by byte. -/
def Qr (s : ByteArray) (i j : Nat) (txt : List UInt8) : Prop :=
  i + 1 ≤ j ∧ j ≤ s.size ∧ qt (tl s (i + 1)) = (qt (tl s j)).map (fun x => (txt ++ x.1, j - (i + 1) + x.2))
theorem Qr.zero {s : ByteArray} {i : Nat} (hi : i < s.size) : Qr s i (i + 1) [] := by
  refine ⟨Nat.le_refl _, hi, ?_⟩
  rw [Nat.sub_self]
  cases qt (tl s (i + 1)) with
  | none => rfl
  | some x => rw [Option.map_some, List.nil_append, Nat.zero_add]
theorem Qr.no {s : ByteArray} {i j : Nat} {txt : List UInt8} (h : Qr s i j txt) (hj : ¬ j < s.size) : chrS (tl s (i + 1)) = .bad 1 := by
  refine chrS_none ?_
  rw [h.2.2, tl_end hj]; rfl
theorem Qr.one {s : ByteArray} {i j : Nat} {txt : List UInt8} (h : Qr s i j txt) (hj : j < s.size) (hb : bt s j ≠ 39) : Qr s i (j + 1) (txt ++ [s.data.toList.getD j 0]) := by
  obtain ⟨h1, h2, h3⟩ := h
  refine ⟨by omega, hj, ?_⟩
  rw [h3, tl_cons hj, qt_cons_ne (show ¬ _ = 39 from hb)]
  cases qt (tl s (j + 1)) with
  | none => rfl
  | some x => simp only [Option.map_some, List.append_assoc, List.cons_append, List.nil_append]; rw [show j - (i + 1) + (x.2 + 1) = j + 1 - (i + 1) + x.2 by omega]
theorem Qr.two {s : ByteArray} {i j : Nat} {txt : List UInt8} (h : Qr s i j txt) (hj : j + 1 < s.size) (hb : bt s j = 39) (hc : bt s (j + 1) = 39) : Qr s i (j + 2) (txt ++ [39]) := by
  obtain ⟨h1, h2, h3⟩ := h
  refine ⟨by omega, by omega, ?_⟩
  rw [h3, tl_cons (show j < s.size by omega), tl_cons hj, qt_two (show _ = 39 from hb) (show _ = 39 from hc)]
  show _ = (qt (tl s (j + 1 + 1))).map _
  cases qt (tl s (j + 1 + 1)) with
  | none => rfl
  | some x => simp only [Option.map_some, List.append_assoc, List.cons_append, List.nil_append]; rw [show j - (i + 1) + (x.2 + 2) = j + 2 - (i + 1) + x.2 by omega]
theorem Qr.fin {s : ByteArray} {i j : Nat} {txt : List UInt8} (h : Qr s i j txt) (hj : j < s.size) (hb : bt s j = 39) (hc : ¬ j + 1 < s.size ∨ bt s (j + 1) ≠ 39) :
    chrS (tl s (i + 1)) = if qbl txt = true then .ok ⟨2, 0, 0, txt⟩ (j + 1 - i) else .bad 1 := by
  obtain ⟨h1, h2, h3⟩ := h
  have hend : qt (tl s j) = some ([], 1) := by
    rw [tl_cons hj]
    by_cases hlt : j + 1 < s.size
    · rw [tl_cons hlt]
      exact qt_end (show _ = 39 from hb) (show ¬ _ = 39 from hc.resolve_left (fun h => h hlt))
    · rw [tl_end hlt]; exact qt_one (show _ = 39 from hb)
  have he : qt (tl s (i + 1)) = some (txt, j - (i + 1) + 1) := by
    rw [h3, hend]; simp only [Option.map_some, List.append_nil]
  rw [chrS_some he, show j - (i + 1) + 1 + 1 = j + 1 - i by omega]
theorem cat_byte {T s : ByteArray} {j : Nat} (hj : j < s.size) : (T ++ s.extract j (j + 1)).data.toList = T.data.toList ++ [s.data.toList.getD j 0] := by
  have hl : j < s.data.toList.length := by rw [← size_eq]; exact hj
  rw [ByteArray.data_append, Array.toList_append, extract_data, Nat.add_sub_cancel_left, List.drop_eq_getElem_cons hl, List.getD_eq_getElem?_getD, List.getElem?_eq_getElem hl]; rfl
theorem cat_quote (T : ByteArray) : (T ++ (⟨#[39]⟩ : ByteArray)).data.toList = T.data.toList ++ [39] := by
  rw [ByteArray.data_append, Array.toList_append]
end Go.Proofs.YthfdpfekjcdlbaaDoor
