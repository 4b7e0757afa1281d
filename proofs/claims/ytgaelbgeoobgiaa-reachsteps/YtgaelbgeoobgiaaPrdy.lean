/-
  The program's each.Two, told in two cases, with the lengths told apart.
-/
import Derived.Test.YtgaelbgeoobgiaaEachc
import Derived.Test.YtgaelbgeoobgiaaCutw
namespace Go.Proofs.Ytgaelbgeoobgiaa
open Go.RowKit
set_option linter.unusedVariables false

theorem c2w_ok (H : C2d) (f : Int) (c : Bool) (sa : Option Addr) (sc : Nat) (sz : List Int) (l : Nat) (hl : sz.length = l) (da : Option Addr) (dc : Nat) (dz : List Int) (m : Nat) (hm : dz.length = m) (c' : Bool) (sa' : Option Addr) (sc' : Nat) (sz' : List Int) (l' : Nat) (hl' : sz'.length = l') (da' : Option Addr) (dc' : Nat) (dz' : List Int) (m' : Nat) (hm' : dz'.length = m') (w : World) (hf : In64 f)
    (h1 : l ≤ 9223372036854775807) (h2 : m ≤ 9223372036854775807) (hs : IsInts w.heap.size w sa sz) (hd : IsInts w.heap.size w da dz) (T : ∀ j, In64 (nth dz j)) (h1' : l' ≤ 9223372036854775807) (h2' : m' ≤ 9223372036854775807) (hs' : IsInts w.heap.size w sa' sz') (hd' : IsInts w.heap.size w da' dz') (T' : ∀ j, In64 (nth dz' j)) (S D : List Int) (h : e2E f c sz dz c' sz' dz' = 0 ∧ shp sz sz' = S ∧ e2V f c sz dz c' sz' dz' = D) :
    Calls Try.prog 11 #[.int .i64 f, .agg #[.bool c, .slice sa l sc, .slice da m dc], .agg #[.bool c', .slice sa' l' sc', .slice da' m' dc']] w (OkB false S D w) := by
  obtain ⟨h0, hS, hD⟩ := h
  subst hl hm hl' hm' hS hD
  exact (H f c sa sc sz da dc dz c' sa' sc' sz' da' dc' dz' w hf h1 h2 h1' h2' hs hd hs' hd' T T').mono fun e w' h' => h'.elim (fun h1 => absurd h0 h1.1) (fun h1 => h1.2)
theorem c2w_no (H : C2d) (f : Int) (c : Bool) (sa : Option Addr) (sc : Nat) (sz : List Int) (l : Nat) (hl : sz.length = l) (da : Option Addr) (dc : Nat) (dz : List Int) (m : Nat) (hm : dz.length = m) (c' : Bool) (sa' : Option Addr) (sc' : Nat) (sz' : List Int) (l' : Nat) (hl' : sz'.length = l') (da' : Option Addr) (dc' : Nat) (dz' : List Int) (m' : Nat) (hm' : dz'.length = m') (w : World) (hf : In64 f)
    (h1 : l ≤ 9223372036854775807) (h2 : m ≤ 9223372036854775807) (hs : IsInts w.heap.size w sa sz) (hd : IsInts w.heap.size w da dz) (T : ∀ j, In64 (nth dz j)) (h1' : l' ≤ 9223372036854775807) (h2' : m' ≤ 9223372036854775807) (hs' : IsInts w.heap.size w sa' sz') (hd' : IsInts w.heap.size w da' dz') (T' : ∀ j, In64 (nth dz' j)) (E : Int) (h : e2E f c sz dz c' sz' dz' = E ∧ E ≠ 0) :
    Calls Try.prog 11 #[.int .i64 f, .agg #[.bool c, .slice sa l sc, .slice da m dc], .agg #[.bool c', .slice sa' l' sc', .slice da' m' dc']] w (NoA E w) := by
  obtain ⟨h0, hE⟩ := h
  subst hl hm hl' hm' h0
  exact (H f c sa sc sz da dc dz c' sa' sc' sz' da' dc' dz' w hf h1 h2 h1' h2' hs hd hs' hd' T T').mono fun e w' h' => h'.elim (fun h1 => ⟨none, 0, none, 0, h1.2.1, h1.2.2⟩) (fun h1 => absurd h1.1 hE)
end Go.Proofs.Ytgaelbgeoobgiaa
