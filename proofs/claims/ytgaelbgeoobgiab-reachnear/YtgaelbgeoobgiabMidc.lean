/-
  Lists with room, in blocks from one number on and below another one.
-/
import Derived.Test.YtgaelbgeoobgiabCapi
import Derived.Test.YtgaelbgeoobgiabBase
namespace Go.Proofs.Ytgaelbgeoobgiab
open Go.RowKit
set_option linter.unusedVariables false

def MidC (lo hi : Nat) (W : World) (a : Option Addr) (zs : List Int) (cap : Nat) : Prop := MidInts lo hi W a zs ∧ zs.length ≤ cap
section
variable {lo hi : Nat} {W W' : World} {a : Option Addr} {zs : List Int} {cap : Nat}
theorem NewC.midc (h : NewC lo W a zs cap) : MidC lo W.heap.size W a zs cap := ⟨h.1.mid, h.2⟩
theorem MidC.go (h : MidC lo hi W a zs cap) (hh : hi ≤ W.heap.size) (hB : Below W.heap.size W W') : MidC lo hi W' a zs cap := ⟨h.1.bel (hB.mono hh), h.2⟩
theorem MidC.al (h : MidC lo hi W a zs cap) (hh : hi ≤ W.heap.size) (o : Obj) : MidC lo hi (W.alloc o) a zs cap := ⟨h.1.al hh o, h.2⟩
theorem MidC.s1 (h : MidC lo hi W a zs cap) {p : Addr} (hp : p.block < lo ∨ hi ≤ p.block) (v : Value) : MidC lo hi (W.setCell p v) a zs cap := by
  rcases hp with hp | hp
  · exact ⟨h.1.set hp v, h.2⟩
  · exact ⟨h.1.off hp v, h.2⟩
theorem MidC.s3 (h : MidC lo hi W a zs cap) {b : Nat} (hb : b < lo ∨ hi ≤ b) (x y z : Value) : MidC lo hi (((W.setCell ⟨b, 0, none⟩ x).setCell ⟨b, 1, none⟩ y).setCell ⟨b, 2, none⟩ z) a zs cap :=
  ((h.s1 (p := ⟨b, 0, none⟩) hb x).s1 (p := ⟨b, 1, none⟩) hb y).s1 (p := ⟨b, 2, none⟩) hb z
theorem MidC.is (h : MidC lo hi W a zs cap) (hh : hi ≤ W.heap.size) : IsC W.heap.size W a zs cap := ⟨(h.1.ints).mono hh, h.2⟩
theorem MidC.put {b off : Nat} (h : MidC lo hi W (some ⟨b, off, none⟩) zs cap) {i : Nat} (hi' : i < zs.length) (x : Int) : MidC lo hi (W.setCell ⟨b, off + i, none⟩ (.int .i64 x)) (some ⟨b, off, none⟩) (zs.set i x) cap := ⟨h.1.put hi' x, by rw [List.length_set]; exact h.2⟩
theorem MidC.at (h : MidC lo hi W a zs cap) {i : Nat} (hi' : i < zs.length) : ∃ b off, a = some ⟨b, off, none⟩ ∧ lo ≤ b ∧ b < hi ∧ W.cell? ⟨b, off + i, none⟩ = some (.int .i64 (nth zs i)) ∧ W.frozen? ⟨b, off + i, none⟩ = false := by
  rcases h.1 with e | ⟨b, off, e, h0, hb, hc, hz⟩
  · rw [e] at hi'; cases hi'
  · exact ⟨b, off, e, h0, hb, hc i hi', hz i⟩
theorem lit_mid (w : World) (t : TypeId) (xs : List Int) (n : Nat) (h : xs.length = n) : MidC w.heap.size (w.heap.size + 1) (w.alloc (.cells (xs.map (Value.int .i64)).toArray t)) (some ⟨w.heap.size, 0, none⟩) xs n := by
  have h0 := (new_lit w t xs).mid
  rw [World.size_alloc] at h0
  exact ⟨h0, by omega⟩
end
theorem zer_mid (w : World) (t : TypeId) (n : Nat) : MidC w.heap.size (w.heap.size + 1) (w.alloc (.cells (madeCells #[.int .i64 0] n) t)) (some ⟨w.heap.size, 0, none⟩) (List.replicate n 0) n := by
  have r := World.rowIs_made w (.int .i64 0) n t
  refine ⟨.inr ⟨w.heap.size, 0, rfl, Nat.le_refl _, by omega, fun j hj => ?_, fun j => r.frozen _⟩, by simp⟩
  rw [Nat.zero_add, r.cell (by simpa using hj), nth_replicate]
theorem put0 {lo hi : Nat} {W : World} {b : Nat} {zs : List Int} {cap : Nat} (h : MidC lo hi W (some ⟨b, 0, none⟩) zs cap) {i : Nat} (hi' : i < zs.length) (x : Int) : MidC lo hi (W.setCell ⟨b, i, none⟩ (.int .i64 x)) (some ⟨b, 0, none⟩) (zs.set i x) cap := by
  have k := h.put hi' x
  rw [Nat.zero_add] at k
  exact k
theorem zput_mid (w : World) (t : TypeId) (n i : Nat) (hi : i < n) (x : Int) : MidC w.heap.size (w.heap.size + 1) (w.alloc (.cells ((madeCells #[.int .i64 0] n).setIfInBounds i (.int .i64 x)) t)) (some ⟨w.heap.size, 0, none⟩) ((List.replicate n 0).set i x) n := by
  have h := put0 (zer_mid w t n) (i := i) (by simpa using hi) x
  have e : (w.alloc (.cells (madeCells #[.int .i64 0] n) t)).setCell ⟨w.heap.size, i, none⟩ (.int .i64 x) = w.alloc (.cells ((madeCells #[.int .i64 0] n).setIfInBounds i (.int .i64 x)) t) := by rw [World.setCell_alloc_new]
  rw [e] at h
  exact h
theorem abx_o3 {w : World} {b : Nat} {x y z : Value} (h : Abx w b x y z) {B : Nat} (hb : b ≠ B) (x' y' z' : Value) : Abx (((w.setCell ⟨B, 0, none⟩ x').setCell ⟨B, 1, none⟩ y').setCell ⟨B, 2, none⟩ z') b x y z :=
  ((h.ot (a := ⟨B, 0, none⟩) hb x').ot (a := ⟨B, 1, none⟩) hb y').ot (a := ⟨B, 2, none⟩) hb z'
theorem bel_s3 {n : Nat} {w w' : World} (h : Below n w w') {B : Nat} (hb : n ≤ B) (x y z : Value) : Below n w (((w'.setCell ⟨B, 0, none⟩ x).setCell ⟨B, 1, none⟩ y).setCell ⟨B, 2, none⟩ z) :=
  ((h.setCell (p := ⟨B, 0, none⟩) hb x).setCell (p := ⟨B, 1, none⟩) hb y).setCell (p := ⟨B, 2, none⟩) hb z
end Go.Proofs.Ytgaelbgeoobgiab
