/-
  A slice's value that leads to these integers, in memory made from block lo on.
-/
import Derived.Test.YthmiaiephkcdfaaAbx
import Derived.Test.YthmiaiephkcdfaaOwns
namespace Go.Proofs.Ythmiaiephkcdfaa
open Go.RowKit
set_option linter.unusedVariables false

theorem frozen_row {W : World} {b : Nat} {c : Array Value} {t : TypeId} (h : W.heap[b]? = some (.cells c t (0, 0))) (j : Nat) : W.frozen? ⟨b, j, none⟩ = false := by simp [World.frozen?, h]
def NewInts (lo : Nat) (W : World) (a : Option Addr) (zs : List Int) : Prop :=
  zs = [] ∨ ∃ b off, a = some ⟨b, off, none⟩ ∧ lo ≤ b ∧ b < W.heap.size ∧ (∀ j, j < zs.length → W.cell? ⟨b, off + j, none⟩ = some (.int .i64 (nth zs j))) ∧ ∀ j, W.frozen? ⟨b, off + j, none⟩ = false
section
variable {lo : Nat} {W : World} {a : Option Addr} {zs : List Int}
theorem NewInts.ints : NewInts lo W a zs → IsInts W.heap.size W a zs
  | .inl e => .inl e
  | .inr ⟨b, off, e, _, hb, hc, _⟩ => .inr ⟨b, off, e, hb, hc⟩
theorem NewInts.low {lo' : Nat} (h : lo' ≤ lo) : NewInts lo W a zs → NewInts lo' W a zs
  | .inl e => .inl e
  | .inr ⟨b, off, e, h0, hb, hc, hz⟩ => .inr ⟨b, off, e, by omega, hb, hc, hz⟩
theorem NewInts.bel {n : Nat} {W' : World} (hB : Below n W W') (hn : W.heap.size ≤ n) : NewInts lo W a zs → NewInts lo W' a zs
  | .inl e => .inl e
  | .inr ⟨b, off, e, h0, hb, hc, hz⟩ => .inr ⟨b, off, e, h0, by have := hB.size; omega, fun j hj => (hB.cell (p := ⟨b, off + j, none⟩) (by show b < n; omega)).trans (hc j hj), fun j => (hB.frozen (p := ⟨b, off + j, none⟩) (by show b < n; omega)).trans (hz j)⟩
theorem NewInts.go {W' : World} (hB : Below W.heap.size W W') (h : NewInts lo W a zs) : NewInts lo W' a zs := h.bel hB (Nat.le_refl _)
theorem NewInts.set {p : Addr} (hp : p.block < lo) (v : Value) : NewInts lo W a zs → NewInts lo (W.setCell p v) a zs
  | .inl e => .inl e
  | .inr ⟨b, off, e, h0, hb, hc, hz⟩ => .inr ⟨b, off, e, h0, by simpa [World.setCell] using hb, fun j hj => (World.cell?_of_block (Below.heap_setCell W p v b (by omega))).trans (hc j hj), fun j => by rw [World.frozen?_setCell]; exact hz j⟩
theorem NewInts.set3 {b : Nat} (hb : b < lo) (x y z : Value) (h : NewInts lo W a zs) : NewInts lo (((W.setCell ⟨b, 0, none⟩ x).setCell ⟨b, 1, none⟩ y).setCell ⟨b, 2, none⟩ z) a zs :=
  ((h.set (p := ⟨b, 0, none⟩) hb x).set (p := ⟨b, 1, none⟩) hb y).set (p := ⟨b, 2, none⟩) hb z
theorem NewInts.al (h : NewInts lo W a zs) (o : Obj) : NewInts lo (W.alloc o) a zs := h.go ((Below.refl _ W).alloc (Nat.le_refl _) o)
theorem NewInts.dr (h : NewInts lo W a zs) : NewInts lo W.drew a zs := h
end
/-- A slice that owns its integers leads to them, in memory of the call's own. -/
theorem owns_new {w : World} {base : Nat} {e : TypeId} {v : Value} {n : Nat} {xs : List Int} (h : w.ownsRow base e 1 v n (xs.map (Value.int .i64))) :
    ∃ g cap, v = .slice g xs.length cap ∧ NewInts base w g xs := by
  obtain ⟨hl, hc⟩ := h
  simp only [List.length_map, Nat.mul_one] at hl
  subst hl
  rcases hc with ⟨rfl, h0⟩ | ⟨g, cap, cur, rfl, h9, hg, h1, _, h2, h3⟩
  · have : xs = [] := List.eq_nil_of_length_eq_zero h0
    subst this
    exact ⟨none, 0, rfl, .inl rfl⟩
  · refine ⟨_, cap, rfl, .inr ⟨g, 0, rfl, h9, (Array.getElem?_eq_some_iff.1 hg).1, fun j hj => ?_, fun j => frozen_row hg _⟩⟩
    have e1 : (cur.toList.take (xs.length * 1))[j]? = (xs.map (Value.int .i64))[j]? := by rw [h3]
    rw [List.getElem?_take, if_pos (by omega), Array.getElem?_toList, List.getElem?_map] at e1
    simp only [World.cell?, hg, Nat.zero_add]
    rw [e1, nth_get xs j hj]
    simp [hj]
theorem new_ints1 (w : World) (t : TypeId) (x : Int) : NewInts w.heap.size (w.alloc (.cells #[.int .i64 x] t)) (some ⟨w.heap.size, 0, none⟩) [x] := by
  have hb : (w.alloc (.cells #[.int .i64 x] t)).heap[w.heap.size]? = some (.cells #[.int .i64 x] t (0, 0)) := World.alloc_heap_new w _
  refine .inr ⟨w.heap.size, 0, rfl, Nat.le_refl _, by simp, fun j hj => ?_, fun j => frozen_row hb _⟩
  simp only [List.length_cons, List.length_nil] at hj
  obtain rfl : j = 0 := by omega
  simp only [World.cell?, hb]; rfl
theorem new_lit (w : World) (t : TypeId) (xs : List Int) : NewInts w.heap.size (w.alloc (.cells (xs.map (Value.int .i64)).toArray t)) (some ⟨w.heap.size, 0, none⟩) xs := by
  have hb : (w.alloc (.cells (xs.map (Value.int .i64)).toArray t)).heap[w.heap.size]? = some (.cells (xs.map (Value.int .i64)).toArray t (0, 0)) := World.alloc_heap_new w _
  refine .inr ⟨w.heap.size, 0, rfl, Nat.le_refl _, by simp, fun j hj => ?_, fun j => frozen_row hb _⟩
  simp only [World.cell?, hb, Nat.zero_add]
  rw [nth_get xs j hj]
  simp [hj]
/-- The same, in blocks from lo on and below hi. -/
def MidInts (lo hi : Nat) (W : World) (a : Option Addr) (zs : List Int) : Prop :=
  zs = [] ∨ ∃ b off, a = some ⟨b, off, none⟩ ∧ lo ≤ b ∧ b < hi ∧ (∀ j, j < zs.length → W.cell? ⟨b, off + j, none⟩ = some (.int .i64 (nth zs j))) ∧ ∀ j, W.frozen? ⟨b, off + j, none⟩ = false
section
variable {lo hi : Nat} {W : World} {a : Option Addr} {zs : List Int}
theorem NewInts.mid : NewInts lo W a zs → MidInts lo W.heap.size W a zs
  | .inl e => .inl e
  | .inr ⟨b, off, e, h0, hb, hc, hz⟩ => .inr ⟨b, off, e, h0, hb, hc, hz⟩
theorem MidInts.new (h : hi ≤ W.heap.size) : MidInts lo hi W a zs → NewInts lo W a zs
  | .inl e => .inl e
  | .inr ⟨b, off, e, h0, hb, hc, hz⟩ => .inr ⟨b, off, e, h0, by omega, hc, hz⟩
theorem MidInts.bel {W' : World} (hB : Below hi W W') : MidInts lo hi W a zs → MidInts lo hi W' a zs
  | .inl e => .inl e
  | .inr ⟨b, off, e, h0, hb, hc, hz⟩ => .inr ⟨b, off, e, h0, hb, fun j hj => (hB.cell (p := ⟨b, off + j, none⟩) hb).trans (hc j hj), fun j => (hB.frozen (p := ⟨b, off + j, none⟩) hb).trans (hz j)⟩
theorem MidInts.set {p : Addr} (hp : p.block < lo) (v : Value) : MidInts lo hi W a zs → MidInts lo hi (W.setCell p v) a zs
  | .inl e => .inl e
  | .inr ⟨b, off, e, h0, hb, hc, hz⟩ => .inr ⟨b, off, e, h0, hb, fun j hj => (World.cell?_of_block (Below.heap_setCell W p v b (by omega))).trans (hc j hj), fun j => by rw [World.frozen?_setCell]; exact hz j⟩
theorem MidInts.off {p : Addr} (hp : hi ≤ p.block) (v : Value) : MidInts lo hi W a zs → MidInts lo hi (W.setCell p v) a zs
  | .inl e => .inl e
  | .inr ⟨b, off, e, h0, hb, hc, hz⟩ => .inr ⟨b, off, e, h0, hb, fun j hj => (World.cell?_of_block (Below.heap_setCell W p v b (by omega))).trans (hc j hj), fun j => by rw [World.frozen?_setCell]; exact hz j⟩
theorem MidInts.al (h : MidInts lo hi W a zs) (hh : hi ≤ W.heap.size) (o : Obj) : MidInts lo hi (W.alloc o) a zs := h.bel ((Below.refl _ W).alloc hh o)
theorem MidInts.dr (h : MidInts lo hi W a zs) : MidInts lo hi W.drew a zs := h
theorem MidInts.low {lo' : Nat} (h : lo' ≤ lo) : MidInts lo hi W a zs → MidInts lo' hi W a zs
  | .inl e => .inl e
  | .inr ⟨b, off, e, h0, hb, hc, hz⟩ => .inr ⟨b, off, e, by omega, hb, hc, hz⟩
theorem MidInts.set3 {b : Nat} (hb : b < lo) (x y z : Value) (h : MidInts lo hi W a zs) : MidInts lo hi (((W.setCell ⟨b, 0, none⟩ x).setCell ⟨b, 1, none⟩ y).setCell ⟨b, 2, none⟩ z) a zs :=
  ((h.set (p := ⟨b, 0, none⟩) hb x).set (p := ⟨b, 1, none⟩) hb y).set (p := ⟨b, 2, none⟩) hb z
theorem MidInts.ints : MidInts lo hi W a zs → IsInts hi W a zs
  | .inl e => .inl e
  | .inr ⟨b, off, e, _, hb, hc, _⟩ => .inr ⟨b, off, e, hb, hc⟩
end
/-- One of them is written: the list with that number in its place. -/
theorem MidInts.put {lo hi : Nat} {W : World} {b off : Nat} {zs : List Int} (h : MidInts lo hi W (some ⟨b, off, none⟩) zs) {i : Nat} (hi' : i < zs.length) (x : Int) : MidInts lo hi (W.setCell ⟨b, off + i, none⟩ (.int .i64 x)) (some ⟨b, off, none⟩) (zs.set i x) := by
  rcases h with e | ⟨b', off', e, h0, hb, hc, hz⟩
  · rw [e] at hi'; cases hi'
  · cases e
    refine .inr ⟨b, off, rfl, h0, hb, fun j hj => ?_, fun j => by rw [World.frozen?_setCell]; exact hz j⟩
    rw [List.length_set] at hj
    rw [nth_set _ _ _ _ hi']
    by_cases e : j = i
    · subst e
      rw [if_pos rfl]
      exact World.cell?_setCell_same' _ _ _ (by rw [hc j hj]; rfl)
    · rw [if_neg e, World.cell?_setCell_other _ _ _ _ (by intro h; have := congrArg Addr.off h; simp only at this; omega)]
      exact hc j hj
/-- A slice that owns its cells owns them behind a call that makes memory alone. -/
theorem own_go {w w' : World} {base : Nat} {e : TypeId} {size : Nat} {v : Value} {n : Nat} {xs : List Value} (h : w.ownsRow base e size v n xs) (hB : Below w.heap.size w w') : w'.ownsRow base e size v n xs := by
  obtain ⟨hl, hc⟩ := h
  refine ⟨hl, ?_⟩
  rcases hc with hc | ⟨g, cap, cur, h1, h2, hg, hr⟩
  · exact .inl hc
  · exact .inr ⟨g, cap, cur, h1, h2, (hB.block g (Array.getElem?_eq_some_iff.1 hg).1).trans hg, hr⟩
end Go.Proofs.Ythmiaiephkcdfaa
