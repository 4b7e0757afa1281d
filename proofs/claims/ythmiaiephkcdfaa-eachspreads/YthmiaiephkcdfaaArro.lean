/-
  An array that came in: a mark, and two slices of integers, as the walks take it.
-/
import Derived.Deep.Strs
import Derived.OpenShut
import Derived.ProofKit
import Derived.ShutString
import Derived.ChangeOld
import Derived.Below
import Derived.Test.YthmiaiephkcdfaaRowi
import Derived.Test.YthmiaiephkcdfaaNum
import Derived.Test.YthmiaiephkcdfaaChecked
namespace Go.Proofs.Ythmiaiephkcdfaa
open Go.ChangeShapes Go.WideShapes Go.ChangeAt Go.RowKit Go.Deep
set_option linter.unusedVariables false

/-- The lengths and the cells of an array that came in. -/
def IsArr (W : World) (sa : Option Addr) (sz : List Int) (da : Option Addr) (dz : List Int) : Prop :=
  sz.length ≤ 9223372036854775807 ∧ dz.length ≤ 9223372036854775807 ∧ IsInts W.heap.size W sa sz ∧ IsInts W.heap.size W da dz ∧ (∀ j, In64 (nth sz j)) ∧ ∀ j, In64 (nth dz j)
set_option maxRecDepth 100000 in
theorem open_sl {H : Type} {enc : TypeId × Value → H} {W : World} {fuel : Nat} {x : Value} {y : DataW H × List MemPlace} (h : DataW.trod enc Try.prog W 0 (fun _ => true) true fuel 22 [x] = some y) :
    ∃ (a : Option Addr) (c : Nat) (z : List Int), x = .slice a z.length c ∧ z.length ≤ 9223372036854775807 ∧ IsInts W.heap.size W a z ∧ ∀ j, In64 (nth z j) := by
  rcases open_ints Try.underlying22 Try.underlying3 (by kernel_rfl) h with ⟨hcs, _⟩ | ⟨x', l, c, zs, hcs, _, hl, hm, hz, _, hcell, hwz⟩
  · obtain rfl := (List.cons.inj hcs).1
    exact ⟨none, 0, [], rfl, by simp, .inl rfl, fun j => by rw [nth_nil]; unfold In64; decide⟩
  · obtain rfl := (List.cons.inj hcs).1
    obtain ⟨z, hz1, hz2, hz3, hz4⟩ := row_ints (w := W) (a := some x') (len := l) (cap := c) (z := zs) (.inr ⟨x', rfl, hl, hm, by simpa using hz, hcell, hwz⟩)
    exact ⟨some x', c, z, by rw [hz1], hz2, hz3, hz4⟩
theorem three {cs : Array Value} (h : cs.size = 3) : ∃ x y z, cs = #[x, y, z] := by
  refine ⟨cs[0], cs[1], cs[2], ?_⟩
  apply Array.ext
  · simp [h]
  · intro i h1 h2
    rcases (by omega : i = 0 ∨ i = 1 ∨ i = 2) with rfl | rfl | rfl <;> rfl
set_option maxRecDepth 100000 in
theorem open_arr {H : Type} {enc : TypeId × Value → H} {W : World} {base : Nat} {v : Value} {d : DataW H} {p : List MemPlace} (hv : Value.okWide Try.prog W .any base 24 v)
    (h : DataW.Trod enc Try.prog W 0 (fun _ => true) true 24 v d p) :
    ∃ (c : Bool) (sa : Option Addr) (sc : Nat) (sz : List Int) (da : Option Addr) (dc : Nat) (dz : List Int), v = .agg #[.bool c, .slice sa sz.length sc, .slice da dz.length dc] ∧ IsArr W sa sz da dz := by
  obtain ⟨cs, rfl, hsz⟩ := okWide_struct Try.underlying24 hv
  rw [show Try.prog.cellsOf 24 = 3 by kernel_rfl] at hsz
  obtain ⟨x0, x1, x2, rfl⟩ := three hsz
  obtain ⟨fuel, hf⟩ := h
  obtain ⟨y0, y1, y2, n, _, _, h0, h1, h2⟩ := trod_struct3 Try.underlying24 hf
  have e0 : DataW.trod enc Try.prog W 0 (fun _ => true) true n 4 [x0] = some y0 := by
    have := h0
    rw [show Try.prog.cellsOf 4 = 1 by kernel_rfl] at this
    exact this
  have e1 : DataW.trod enc Try.prog W 0 (fun _ => true) true n 22 [x1] = some y1 := by
    have := h1
    rw [show Try.prog.cellsOf 22 = 1 by kernel_rfl] at this
    exact this
  have e2 : DataW.trod enc Try.prog W 0 (fun _ => true) true n 22 [x2] = some y2 := by
    have := h2
    rw [show Try.prog.cellsOf 22 = 1 by kernel_rfl] at this
    exact this
  obtain ⟨sa, sc, sz, rfl, s1, s2, s3⟩ := open_sl e1
  obtain ⟨da, dc, dz, rfl, d1, d2, d3⟩ := open_sl e2
  obtain ⟨c, hc, _⟩ := DataW.trod_bool Try.underlying4 e0
  obtain rfl := (List.cons.inj hc).1
  exact ⟨c, sa, sc, sz, da, dc, dz, rfl, s1, d1, s2, d2, s3, d3⟩
end Go.Proofs.Ythmiaiephkcdfaa
