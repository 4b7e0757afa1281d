/-
  What Place and At tell, case by case.
-/
import Derived.Test.YtoicddebjmfobaaAt
import Derived.Test.YtoicddebjmfobaaRowi
namespace Go.Proofs.Ytoicddebjmfobaa
open Go.RowKit

theorem place_ok (a : Option Addr) (cap : Nat) (zs : List Int) (a' : Option Addr) (cap' : Nat) (ts : List Int) (hreach : zs.length ≤ 9223372036854775807) (hreach' : ts.length ≤ 9223372036854775807) (w : World) (hI : IsInts w.heap.size w a zs) (hI' : IsInts w.heap.size w a' ts) (h : plErr zs ts = 0) :
    Calls Try.prog 6 #[.slice a zs.length cap, .slice a' ts.length cap'] w fun e w' => e = .returned (.tuple #[.int .i64 (place zs ts), .nilIface]) ∧ Below w.heap.size w w' :=
  (place_any a cap zs a' cap' ts hreach hreach' w hI hI').mono fun e w' ⟨h1, h2⟩ => ⟨by rw [h1, plVal_ok h, h]; rfl, h2⟩
theorem place_no (a : Option Addr) (cap : Nat) (zs : List Int) (a' : Option Addr) (cap' : Nat) (ts : List Int) (hreach : zs.length ≤ 9223372036854775807) (hreach' : ts.length ≤ 9223372036854775807) (w : World) (hI : IsInts w.heap.size w a zs) (hI' : IsInts w.heap.size w a' ts) (h : plErr zs ts ≠ 0) :
    Calls Try.prog 6 #[.slice a zs.length cap, .slice a' ts.length cap'] w fun e w' => e = .returned (.tuple #[.int .i64 0, .iface 35 (.int .i64 (plErr zs ts))]) ∧ Below w.heap.size w w' :=
  (place_any a cap zs a' cap' ts hreach hreach' w hI hI').mono fun e w' ⟨h1, h2⟩ => ⟨by rw [h1, plVal_bad h, errV_pos h], h2⟩
theorem at_ok (a : Option Addr) (cap : Nat) (zs : List Int) (p : Int) (hp1 : -9223372036854775808 ≤ p) (hp2 : p ≤ 9223372036854775807) (hreach : zs.length ≤ 9223372036854775807) (w : World) (hI : IsInts w.heap.size w a zs) (h : atErr zs p = 0) :
    Calls Try.prog 7 #[.slice a zs.length cap, .int .i64 p] w fun e w' => ∃ a' cap', e = .returned (.tuple #[.slice a' (atVal zs p).length cap', .nilIface]) ∧ IsInts w'.heap.size w' a' (atVal zs p) ∧ Below w.heap.size w w' :=
  (at_any a cap zs p hp1 hp2 hreach w hI).mono fun e w' ⟨a', cap', h1, h2, h3⟩ => ⟨a', cap', by rw [h1, h]; rfl, h2, h3⟩
theorem at_no (a : Option Addr) (cap : Nat) (zs : List Int) (p : Int) (hp1 : -9223372036854775808 ≤ p) (hp2 : p ≤ 9223372036854775807) (hreach : zs.length ≤ 9223372036854775807) (w : World) (hI : IsInts w.heap.size w a zs) (h : atErr zs p ≠ 0) :
    Calls Try.prog 7 #[.slice a zs.length cap, .int .i64 p] w fun e w' => ∃ a' cap', e = .returned (.tuple #[.slice a' (atVal zs p).length cap', .iface 35 (.int .i64 (atErr zs p))]) ∧ Below w.heap.size w w' :=
  (at_any a cap zs p hp1 hp2 hreach w hI).mono fun e w' ⟨a', cap', h1, h2, h3⟩ => ⟨a', cap', by rw [h1, errV_pos h], h3⟩
/-- Two new integers in a row. -/
theorem ints_new2 (w : World) (t : TypeId) (x y : Int) : IsInts (w.alloc (.cells #[.int .i64 x, .int .i64 y] t)).heap.size (w.alloc (.cells #[.int .i64 x, .int .i64 y] t)) (some ⟨w.heap.size, 0, none⟩) [x, y] := by
  refine .inr ⟨w.heap.size, 0, rfl, by simp, fun j hj => ?_⟩
  have hb : (w.alloc (.cells #[.int .i64 x, .int .i64 y] t)).heap[w.heap.size]? = some (.cells #[.int .i64 x, .int .i64 y] t (0, 0)) := World.alloc_heap_new w _
  simp only [List.length_cons, List.length_nil] at hj
  rcases (by omega : j = 0 ∨ j = 1) with rfl | rfl <;> (simp only [World.cell?, hb]; rfl)
theorem ints_new3 (w : World) (t : TypeId) (x y z : Int) : IsInts (w.alloc (.cells #[.int .i64 x, .int .i64 y, .int .i64 z] t)).heap.size (w.alloc (.cells #[.int .i64 x, .int .i64 y, .int .i64 z] t)) (some ⟨w.heap.size, 0, none⟩) [x, y, z] := by
  refine .inr ⟨w.heap.size, 0, rfl, by simp, fun j hj => ?_⟩
  have hb : (w.alloc (.cells #[.int .i64 x, .int .i64 y, .int .i64 z] t)).heap[w.heap.size]? = some (.cells #[.int .i64 x, .int .i64 y, .int .i64 z] t (0, 0)) := World.alloc_heap_new w _
  simp only [List.length_cons, List.length_nil] at hj
  rcases (by omega : j = 0 ∨ j = 1 ∨ j = 2) with rfl | rfl | rfl <;> (simp only [World.cell?, hb]; rfl)
end Go.Proofs.Ytoicddebjmfobaa
