/-
  The program's Outer and Inner, told in two cases: as the statements' walks use them.
-/
import Derived.Test.YtgaelbgeoobgiaaPrdq
import Derived.Test.YtgaelbgeoobgiaaFldw
namespace Go.Proofs.Ytgaelbgeoobgiaa
open Go.RowKit
set_option linter.unusedVariables false

theorem niw_ok (f g : Int) (c : Bool) (sa : Option Addr) (sc : Nat) (sz : List Int) (l : Nat) (hl : sz.length = l) (da : Option Addr) (dc : Nat) (dz : List Int) (m : Nat) (hm : dz.length = m) (c' : Bool) (sa' : Option Addr) (sc' : Nat) (sz' : List Int) (l' : Nat) (hl' : sz'.length = l') (da' : Option Addr) (dc' : Nat) (dz' : List Int) (m' : Nat) (hm' : dz'.length = m') (w : World) (hf : In64 f) (hg : In64 g)
    (h1 : l ≤ 9223372036854775807) (h2 : m ≤ 9223372036854775807) (hs : IsC w.heap.size w sa sz sc) (hd : IsInts w.heap.size w da dz) (T : ∀ j, In64 (nth dz j)) (h1' : l' ≤ 9223372036854775807) (h2' : m' ≤ 9223372036854775807) (hs' : IsC w.heap.size w sa' sz' sc') (hd' : IsInts w.heap.size w da' dz') (T' : ∀ j, In64 (nth dz' j)) (S D : List Int) (H : CNi) (h : inE f g c sz dz c' sz' dz' = 0 ∧ inS sz sz' = S ∧ inD f g c sz dz c' sz' dz' = D) :
    Calls Try.prog 10 #[.int .i64 f, .int .i64 g, .agg #[.bool c, .slice sa l sc, .slice da m dc], .agg #[.bool c', .slice sa' l' sc', .slice da' m' dc']] w (OkB false S D w) := by
  subst hl hm hl' hm'
  exact (H f g c sa sc sz da dc dz c' sa' sc' sz' da' dc' dz' w hf hg h1 h2 h1' h2' hs hd hs' hd' T T').mono fun _ _ hU => ub_ok12 h hU
theorem niw_no (f g : Int) (c : Bool) (sa : Option Addr) (sc : Nat) (sz : List Int) (l : Nat) (hl : sz.length = l) (da : Option Addr) (dc : Nat) (dz : List Int) (m : Nat) (hm : dz.length = m) (c' : Bool) (sa' : Option Addr) (sc' : Nat) (sz' : List Int) (l' : Nat) (hl' : sz'.length = l') (da' : Option Addr) (dc' : Nat) (dz' : List Int) (m' : Nat) (hm' : dz'.length = m') (w : World) (hf : In64 f) (hg : In64 g)
    (h1 : l ≤ 9223372036854775807) (h2 : m ≤ 9223372036854775807) (hs : IsC w.heap.size w sa sz sc) (hd : IsInts w.heap.size w da dz) (T : ∀ j, In64 (nth dz j)) (h1' : l' ≤ 9223372036854775807) (h2' : m' ≤ 9223372036854775807) (hs' : IsC w.heap.size w sa' sz' sc') (hd' : IsInts w.heap.size w da' dz') (T' : ∀ j, In64 (nth dz' j)) (H : CNi) (E : Int) (h : inE f g c sz dz c' sz' dz' = E ∧ E ≠ 0) :
    Calls Try.prog 10 #[.int .i64 f, .int .i64 g, .agg #[.bool c, .slice sa l sc, .slice da m dc], .agg #[.bool c', .slice sa' l' sc', .slice da' m' dc']] w (NoA E w) := by
  subst hl hm hl' hm'
  exact (H f g c sa sc sz da dc dz c' sa' sc' sz' da' dc' dz' w hf hg h1 h2 h1' h2' hs hd hs' hd' T T').mono fun _ _ hU => ub_no12 h.1 h.2 hU
/-- Flipped, with the list's own length for its room. -/
theorem flw13 (c : Bool) (sa : Option Addr) (sc : Nat) (sz : List Int) (da : Option Addr) (dc : Nat) (dz : List Int) (w : World) (h1 : sz.length ≤ 9223372036854775807) (h2 : dz.length ≤ 9223372036854775807) (hs : IsC w.heap.size w sa sz sc) (hd : IsInts w.heap.size w da dz) (T : ∀ j, In64 (nth dz j)) (H : CFl) (pa : Option Addr) (pc : Nat) (p : List Int) (l : Nat) (hp0 : p.length = l) (hl : l ≤ 9223372036854775807) (hp : IsInts w.heap.size w pa p) (S D : List Int) (h : flE p c sz dz = 0 ∧ axVal sz p = S ∧ GA sz dz S (flpT p) = D) :
    Calls Try.prog 12 #[.slice pa l pc, .agg #[.bool c, .slice sa sz.length sc, .slice da dz.length dc]] w fun r w' => ∃ xa xc ya yc, r = .returned (.tuple #[.agg #[.bool c, .slice xa S.length xc, .slice ya D.length yc], .nilIface]) ∧ NewC w.heap.size w' xa S xc ∧ NewC w.heap.size w' ya D D.length ∧ Below w.heap.size w w' := by
  obtain ⟨h0, rfl, rfl⟩ := h
  subst hp0
  refine (fl_ok c sa sc sz da dc dz w h1 h2 hs hd T H pa pc p hl hp h0).mono ?_
  rintro r w' ⟨xa, xc, ya, yc, rfl, hX, hY, hB⟩
  exact ⟨xa, xc, ya, yc, rfl, hX, ⟨hY, Nat.le_refl _⟩, hB⟩
end Go.Proofs.Ytgaelbgeoobgiaa
