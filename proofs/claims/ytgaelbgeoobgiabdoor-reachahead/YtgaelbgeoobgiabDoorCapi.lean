/-
  Slices that have as much room as they are long, at least.
-/
import Derived.Deep.Strs
import Derived.OpenShut
import Derived.ProofKit
import Derived.ShutString
import Derived.ChangeOld
import Derived.Below
import Derived.Test.YtgaelbgeoobgiabDoorBase
namespace Go.Proofs.YtgaelbgeoobgiabDoor
open Go.ChangeShapes Go.WideShapes Go.ChangeAt Go.RowKit Go.Deep
set_option linter.unusedVariables false

/-! ### A slice that has as much room as it is long, at least -/
def IsC (n₀ : Nat) (W : World) (a : Option Addr) (zs : List Int) (cap : Nat) : Prop := IsInts n₀ W a zs ∧ zs.length ≤ cap
def NewC (lo : Nat) (W : World) (a : Option Addr) (zs : List Int) (cap : Nat) : Prop := NewInts lo W a zs ∧ zs.length ≤ cap
section
variable {n₀ n₁ lo : Nat} {A B W : World} {a : Option Addr} {zs : List Int} {cap : Nat}
theorem IsC.below (h : Below n₀ A B) (k : IsC n₀ A a zs cap) : IsC n₀ B a zs cap := ⟨k.1.below h, k.2⟩
theorem IsC.mono (h : n₀ ≤ n₁) (k : IsC n₀ A a zs cap) : IsC n₁ A a zs cap := ⟨k.1.mono h, k.2⟩
theorem NewC.ints (h : NewC lo W a zs cap) : IsC W.heap.size W a zs cap := ⟨h.1.ints, h.2⟩
theorem NewC.low {lo' : Nat} (h : lo' ≤ lo) (k : NewC lo W a zs cap) : NewC lo' W a zs cap := ⟨k.1.low h, k.2⟩
theorem NewC.go {W' : World} (hB : Below W.heap.size W W') (h : NewC lo W a zs cap) : NewC lo W' a zs cap := ⟨h.1.go hB, h.2⟩
theorem NewC.set3 {b : Nat} (hb : b < lo) (x y z : Value) (h : NewC lo W a zs cap) : NewC lo (((W.setCell ⟨b, 0, none⟩ x).setCell ⟨b, 1, none⟩ y).setCell ⟨b, 2, none⟩ z) a zs cap := ⟨h.1.set3 hb x y z, h.2⟩
theorem NewC.al (h : NewC lo W a zs cap) (o : Obj) : NewC lo (W.alloc o) a zs cap := ⟨h.1.al o, h.2⟩
theorem NewC.dr (h : NewC lo W a zs cap) : NewC lo W.drew a zs cap := h
theorem IsInts.c (h : IsInts n₀ W a zs) (k : zs.length ≤ cap) : IsC n₀ W a zs cap := ⟨h, k⟩
end
theorem own_cap {w : World} {base : Nat} {e : TypeId} {v : Value} {n : Nat} {xs : List Int} (h : w.ownsRow base e 1 v n (xs.map (Value.int .i64))) :
    ∃ g cap, v = .slice g xs.length cap ∧ NewC base w g xs cap := by
  obtain ⟨g, cap, rfl, hN⟩ := owns_new h
  refine ⟨g, cap, rfl, hN, ?_⟩
  rcases h.2 with ⟨e1, _⟩ | ⟨g', cap', cur, e1, _, _, h1, _⟩
  · simp only [Value.slice.injEq] at e1; omega
  · simp only [Value.slice.injEq] at e1; have := h.1; simp only [List.length_map] at this; omega
/-- The lengths and the cells of an array that came in, and that its shape has room. -/
def IsArrC (W : World) (sa : Option Addr) (sz : List Int) (sc : Nat) (da : Option Addr) (dz : List Int) : Prop :=
  sz.length ≤ 9223372036854775807 ∧ dz.length ≤ 9223372036854775807 ∧ IsC W.heap.size W sa sz sc ∧ IsInts W.heap.size W da dz ∧ (∀ j, In64 (nth sz j)) ∧ ∀ j, In64 (nth dz j)
theorem IsArrC.arr {W : World} {sa : Option Addr} {sz : List Int} {sc : Nat} {da : Option Addr} {dz : List Int} (h : IsArrC W sa sz sc da dz) : IsArr W sa sz da dz := ⟨h.1, h.2.1, h.2.2.1.1, h.2.2.2⟩
set_option maxRecDepth 100000 in
theorem open_slC {H : Type} {enc : TypeId × Value → H} {W : World} {fuel : Nat} {x : Value} {y : DataW H × List MemPlace} (h : DataW.trod enc Tryd.prog W 0 (fun _ => true) true fuel 22 [x] = some y) :
    ∃ (a : Option Addr) (c : Nat) (z : List Int), x = .slice a z.length c ∧ z.length ≤ 9223372036854775807 ∧ IsInts W.heap.size W a z ∧ (∀ j, In64 (nth z j)) ∧ z.length ≤ c := by
  rcases open_ints Tryd.underlying22 Tryd.underlying3 (by kernel_rfl) h with ⟨hcs, _⟩ | ⟨x', l, c, zs, hcs, _, hl, hm, hz, _, hcell, hwz⟩
  · obtain rfl := (List.cons.inj hcs).1
    exact ⟨none, 0, [], rfl, by simp, .inl rfl, fun j => by rw [nth_nil]; unfold In64; decide, Nat.le_refl _⟩
  · obtain rfl := (List.cons.inj hcs).1
    obtain ⟨z, hz1, hz2, hz3, hz4⟩ := row_ints (w := W) (a := some x') (len := l) (cap := c) (z := zs) (.inr ⟨x', rfl, hl, hm, by simpa using hz, hcell, hwz⟩)
    exact ⟨some x', c, z, by rw [hz1], hz2, hz3, hz4, by omega⟩
set_option maxRecDepth 100000 in
theorem open_arrC {H : Type} {enc : TypeId × Value → H} {W : World} {base : Nat} {v : Value} {d : DataW H} {p : List MemPlace} (hv : Value.okWide Tryd.prog W .any base 24 v)
    (h : DataW.Trod enc Tryd.prog W 0 (fun _ => true) true 24 v d p) :
    ∃ (c : Bool) (sa : Option Addr) (sc : Nat) (sz : List Int) (da : Option Addr) (dc : Nat) (dz : List Int), v = .agg #[.bool c, .slice sa sz.length sc, .slice da dz.length dc] ∧ IsArrC W sa sz sc da dz := by
  obtain ⟨cs, rfl, hsz⟩ := okWide_struct Tryd.underlying24 hv
  rw [show Tryd.prog.cellsOf 24 = 3 by kernel_rfl] at hsz
  obtain ⟨x0, x1, x2, rfl⟩ := three hsz
  obtain ⟨fuel, hf⟩ := h
  obtain ⟨y0, y1, y2, n, _, _, h0, h1, h2⟩ := trod_struct3 Tryd.underlying24 hf
  have e0 : DataW.trod enc Tryd.prog W 0 (fun _ => true) true n 4 [x0] = some y0 := by
    have := h0
    rw [show Tryd.prog.cellsOf 4 = 1 by kernel_rfl] at this
    exact this
  have e1 : DataW.trod enc Tryd.prog W 0 (fun _ => true) true n 22 [x1] = some y1 := by
    have := h1
    rw [show Tryd.prog.cellsOf 22 = 1 by kernel_rfl] at this
    exact this
  have e2 : DataW.trod enc Tryd.prog W 0 (fun _ => true) true n 22 [x2] = some y2 := by
    have := h2
    rw [show Tryd.prog.cellsOf 22 = 1 by kernel_rfl] at this
    exact this
  obtain ⟨sa, sc, sz, rfl, s1, s2, s3, s4⟩ := open_slC e1
  obtain ⟨da, dc, dz, rfl, d1, d2, d3, d4⟩ := open_slC e2
  obtain ⟨c, hc, _⟩ := DataW.trod_bool Tryd.underlying4 e0
  obtain rfl := (List.cons.inj hc).1
  exact ⟨c, sa, sc, sz, da, dc, dz, rfl, s1, d1, ⟨s2, s4⟩, d2, s3, d3⟩
end Go.Proofs.YtgaelbgeoobgiabDoor
