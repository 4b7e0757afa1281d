/-
  Slices that have as much room as they are long, at least.
-/
import Derived.Deep.Strs
import Derived.OpenShut
import Derived.ProofKit
import Derived.ShutString
import Derived.ChangeOld
import Derived.Below
import Derived.Test.YtigichhcoflaiaaBas9
namespace Go.Proofs.Ytigichhcoflaiaa
open Go.ChangeShapes Go.WideShapes Go.ChangeAt Go.RowKit Go.Deep
set_option linter.unusedVariables false

/-! ### A slice that has as much room as it is long, at least -/
def IsC (n₀ : Nat) (W : World) (a : Option Addr) (zs : List Int) (cap : Nat) : Prop := IsInts n₀ W a zs ∧ zs.length ≤ cap
def NewC (lo : Nat) (W : World) (a : Option Addr) (zs : List Int) (cap : Nat) : Prop := NewInts lo W a zs ∧ zs.length ≤ cap
section
variable {n₀ n₁ lo : Nat} {A B W : World} {a : Option Addr} {zs : List Int} {cap : Nat}
theorem IsC.below (h : Below n₀ A B) (k : IsC n₀ A a zs cap) : IsC n₀ B a zs cap := ⟨k.1.below h, k.2⟩
theorem IsC.mono (h : n₀ ≤ n₁) (k : IsC n₀ A a zs cap) : IsC n₁ A a zs cap := ⟨k.1.mono h, k.2⟩
theorem NewC.ints (h : NewC lo W a zs cap) : IsC W.heap.size W a zs cap := ⟨h.1.ints, h.2⟩
theorem NewC.low {lo' : Nat} (h : lo' ≤ lo) (k : NewC lo W a zs cap) : NewC lo' W a zs cap := ⟨k.1.low h, k.2⟩
theorem NewC.go {W' : World} (hB : Below W.heap.size W W') (h : NewC lo W a zs cap) : NewC lo W' a zs cap := ⟨h.1.go hB, h.2⟩
theorem NewC.set3 {b : Nat} (hb : b < lo) (x y z : Value) (h : NewC lo W a zs cap) : NewC lo (((W.setCell ⟨b, 0, none⟩ x).setCell ⟨b, 1, none⟩ y).setCell ⟨b, 2, none⟩ z) a zs cap := ⟨h.1.set3 hb x y z, h.2⟩
theorem NewC.al (h : NewC lo W a zs cap) (o : Obj) : NewC lo (W.alloc o) a zs cap := ⟨h.1.al o, h.2⟩
theorem NewC.dr (h : NewC lo W a zs cap) : NewC lo W.drew a zs cap := h
theorem IsInts.c (h : IsInts n₀ W a zs) (k : zs.length ≤ cap) : IsC n₀ W a zs cap := ⟨h, k⟩
end
theorem own_cap {w : World} {base : Nat} {e : TypeId} {v : Value} {n : Nat} {xs : List Int} (h : w.ownsRow base e 1 v n (xs.map (Value.int .i64))) :
    ∃ g cap, v = .slice g xs.length cap ∧ NewC base w g xs cap := by
  obtain ⟨g, cap, rfl, hN⟩ := owns_new h
  refine ⟨g, cap, rfl, hN, ?_⟩
  rcases h.2 with ⟨e1, _⟩ | ⟨g', cap', cur, e1, _, _, h1, _⟩
  · simp only [Value.slice.injEq] at e1; omega
  · simp only [Value.slice.injEq] at e1; have := h.1; simp only [List.length_map] at this; omega
end Go.Proofs.Ytigichhcoflaiaa
