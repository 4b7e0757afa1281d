/-
  What the program finds at each place, one behind the other: its contract over whatever is asked there.
-/
import Derived.Test.YtcpmendkocnlhaaBase
import Derived.Test.YtcpmendkocnlhaaEachp
import Derived.Test.YtcpmendkocnlhaaCutn
namespace Go.Proofs.Ytcpmendkocnlhaa
open Go.RowKit
set_option linter.unusedVariables false

/-- The numbers at so many places. -/
def upL (V : Nat → Int) (n : Nat) : List Int := (List.range n).map V
theorem upL_length (V : Nat → Int) (n : Nat) : (upL V n).length = n := by simp [upL]
theorem upL_nth (V : Nat → Int) (n : Nat) {j : Nat} (h : j < n) : nth (upL V n) j = V j := by simp [upL, nth, h]
/-- What is told of so many places. -/
def TellP (n : Nat) (V E : Nat → Int) (sz : List Int) (w : World) (e : Ending) (w' : World) : Prop :=
  (∃ i, i < n ∧ E i ≠ 0 ∧ e = .returned (.tuple #[.agg #[.bool false, .slice none 0 0, .slice none 0 0], .iface 67 (.int .i64 (E i))]) ∧ Below w.heap.size w w') ∨
  ((∀ i, i < n → E i = 0) ∧ ∃ xa xc ya yc, e = .returned (.tuple #[.agg #[.bool false, .slice xa sz.length xc, .slice ya n yc], .nilIface]) ∧ NewC w.heap.size w' xa sz xc ∧ NewInts w.heap.size w' ya (upL V n) ∧ Below w.heap.size w w')
/-- The same, with the room of the numbers. -/
def TellQ (n : Nat) (V E : Nat → Int) (sz : List Int) (w : World) (e : Ending) (w' : World) : Prop :=
  (∃ i, i < n ∧ E i ≠ 0 ∧ e = .returned (.tuple #[.agg #[.bool false, .slice none 0 0, .slice none 0 0], .iface 67 (.int .i64 (E i))]) ∧ Below w.heap.size w w') ∨
  ((∀ i, i < n → E i = 0) ∧ ∃ xa xc ya yc, e = .returned (.tuple #[.agg #[.bool false, .slice xa sz.length xc, .slice ya n yc], .nilIface]) ∧ NewC w.heap.size w' xa sz xc ∧ NewC w.heap.size w' ya (upL V n) yc ∧ Below w.heap.size w w')
theorem TellQ.plain {n : Nat} {V E : Nat → Int} {sz : List Int} {w : World} {e : Ending} {w' : World} (h : TellQ n V E sz w e w') : TellP n V E sz w e w' :=
  h.elim .inl (fun ⟨h0, xa, xc, ya, yc, he, hX, hY, hB⟩ => .inr ⟨h0, xa, xc, ya, yc, he, hX, hY.1, hB⟩)
/-- What is asked at a place. -/
def AskP (V E : Nat → Int) (i : Nat) (w : World) (e : Ending) (w' : World) : Prop := e = .returned (.tuple #[.int .i64 (V i), errV (E i)]) ∧ Below w.heap.size w w'
theorem ask_ok {V E : Nat → Int} {i : Nat} (h : E i = 0) {w w' : World} {e : Ending} (H : AskP V E i w e w') : e = .returned (.tuple #[.int .i64 (V i), .nilIface]) ∧ Below w.heap.size w w' := ⟨by rw [H.1, h]; rfl, H.2⟩
theorem ask_no {V E : Nat → Int} {i : Nat} (h : E i ≠ 0) {w w' : World} {e : Ending} (H : AskP V E i w e w') : e = .returned (.tuple #[.int .i64 (V i), .iface 67 (.int .i64 (E i))]) ∧ Below w.heap.size w w' := ⟨by rw [H.1, errV_pos h], H.2⟩
theorem row_go {w w' : World} {b : Nat} {t : TypeId} {n : Nat} {f : Nat → Value} (h : w.rowIs b t n f) (hB : Below w.heap.size w w') : w'.rowIs b t n f := h.of_block (hB.block b h.lt)
theorem news_of {w : World} {ad : Addr} {zs : List Int} {m : Nat} (hI : IsInts m w (some ad) zs) : ∀ j u, (zs.map (Value.int .i64))[j]? = some u → w.cell? (ad.add j) = some u := by
  intro j u hj
  rw [List.getElem?_map] at hj
  by_cases hl : j < zs.length
  · obtain ⟨b, off, e, hb, hc⟩ := hI.at hl
    cases e
    rw [List.getElem?_eq_getElem hl] at hj
    simp only [Option.map_some] at hj
    obtain rfl := Option.some.inj hj
    rw [← nth_get zs j hl]
    have e : (⟨b, off, none⟩ : Addr).add j = ⟨b, off + j, none⟩ := by
      unfold Addr.add; split
      · rename_i h0; subst h0; rfl
      · rfl
    rw [e]; exact hc j hl
  · rw [List.getElem?_eq_none (by omega)] at hj; cases hj
end Go.Proofs.Ytcpmendkocnlhaa
