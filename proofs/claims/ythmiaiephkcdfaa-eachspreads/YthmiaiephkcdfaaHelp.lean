/-
  Small facts that several walks use: the count of a shape, case by case; boxes and rows of the call's own.
-/
import Derived.Deep.OwnRows
import Derived.Test.YthmiaiephkcdfaaCount
import Derived.Test.YthmiaiephkcdfaaInts
namespace Go.Proofs.Ythmiaiephkcdfaa
open Go.RowKit Go.Shelf
set_option linter.unusedVariables false

theorem count_ok (a : Option Addr) (cap : Nat) (zs : List Int) (hreach : zs.length ≤ 9223372036854775807) (w : World) (hI : IsInts w.heap.size w a zs) (he : errOf zs = 0) :
    Calls Try.prog 12 #[.slice a zs.length cap] w fun e w' => e = .returned (.tuple #[.int .i64 (prod zs), .nilIface]) ∧ Below w.heap.size w w' :=
  (count_any a cap zs hreach w hI).mono fun e w' ⟨h1, h2⟩ => ⟨by rw [h1, cntOf_ok he, he]; rfl, h2⟩
theorem count_no (a : Option Addr) (cap : Nat) (zs : List Int) (hreach : zs.length ≤ 9223372036854775807) (w : World) (hI : IsInts w.heap.size w a zs) (he : errOf zs ≠ 0) :
    Calls Try.prog 12 #[.slice a zs.length cap] w fun e w' => e = .returned (.tuple #[.int .i64 0, .iface 46 (.int .i64 (errOf zs))]) ∧ Below w.heap.size w w' :=
  (count_any a cap zs hreach w hI).mono fun e w' ⟨h1, h2⟩ => ⟨by rw [h1, cntOf_bad he, errV_pos he], h2⟩
theorem boxed_below {n B : Nat} {A W : World} {t : TypeId} {v : Value} (h : Boxed A B t v) (hb : Below n A W) (hB : B < n) : Boxed W B t v := (hb.block B hB).trans h

theorem rowIs_own {β : Type} (B : Nat) (t : TypeId) (n : Nat) (f : β → Nat → Value) : Own (fun s W => W.rowIs B t n (f s)) := fun s X Y row hs hg hrow =>
  hs.of_block (hg.block B hs.lt (fun e' => by
    obtain ⟨o, ho, hc⟩ := hrow B e'.symm
    obtain ⟨c, hb, _⟩ := hs
    rw [hb] at ho; cases ho; cases hc))
theorem boxed_setRow {W : World} {B b : Nat} {t : TypeId} {v : Value} (h : Boxed W B t v) (hne : B ≠ b) (o : Nat) (u : Value) : Boxed (W.setCell ⟨b, o, none⟩ u) B t v :=
  (Below.heap_setCell W ⟨b, o, none⟩ u B hne).trans h
theorem ret2s {a : Option Addr} {n m cap : Nat} {v u : Value} (h : n = m) (h2 : v = u) : Ending.returned (.tuple #[.slice a n cap, v]) = .returned (.tuple #[.slice a m cap, u]) := by rw [h, h2]
theorem Try.infoInt : (Try.prog.info? 3).map (fun i => (i.zero, i.size, i.bytes)) = some (some (.int .i64 0), 1, 8) := by kernel_rfl
theorem nth_replicate (n j : Nat) : nth (List.replicate n 0) j = 0 := by
  by_cases h : j < n
  · simp [nth, h]
  · simp [nth, Nat.le_of_not_lt h]

end Go.Proofs.Ythmiaiephkcdfaa
