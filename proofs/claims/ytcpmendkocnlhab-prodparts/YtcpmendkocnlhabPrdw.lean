/-
  The program's Outer and Inner, told in two cases: as the statements' walks use them.
-/
import Derived.Test.YtcpmendkocnlhabPrdq
import Derived.Test.YtcpmendkocnlhabFldw
namespace Go.Proofs.Ytcpmendkocnlhab
open Go.RowKit
set_option linter.unusedVariables false

theorem niw_ok (f g : Int) (c : Bool) (sa : Option Addr) (sc : Nat) (sz : List Int) (l : Nat) (hl : sz.length = l) (da : Option Addr) (dc : Nat) (dz : List Int) (m : Nat) (hm : dz.length = m) (c' : Bool) (sa' : Option Addr) (sc' : Nat) (sz' : List Int) (l' : Nat) (hl' : sz'.length = l') (da' : Option Addr) (dc' : Nat) (dz' : List Int) (m' : Nat) (hm' : dz'.length = m') (w : World) (hf : In64 f) (hg : In64 g)
    (h1 : l ≤ 9223372036854775807) (h2 : m ≤ 9223372036854775807) (hs : IsC w.heap.size w sa sz sc) (hd : IsInts w.heap.size w da dz) (T : ∀ j, In64 (nth dz j)) (h1' : l' ≤ 9223372036854775807) (h2' : m' ≤ 9223372036854775807) (hs' : IsC w.heap.size w sa' sz' sc') (hd' : IsInts w.heap.size w da' dz') (T' : ∀ j, In64 (nth dz' j)) (S D : List Int) (H : CNi) (h : inE f g c sz dz c' sz' dz' = 0 ∧ inS sz sz' = S ∧ inD f g c sz dz c' sz' dz' = D) :
    Calls Try.prog 9 #[.int .i64 f, .int .i64 g, .agg #[.bool c, .slice sa l sc, .slice da m dc], .agg #[.bool c', .slice sa' l' sc', .slice da' m' dc']] w (OkB false S D w) := by
  subst hl hm hl' hm'
  exact (H f g c sa sc sz da dc dz c' sa' sc' sz' da' dc' dz' w hf hg h1 h2 h1' h2' hs hd hs' hd' T T').mono fun _ _ hU => ub_ok12 h hU
theorem niw_no (f g : Int) (c : Bool) (sa : Option Addr) (sc : Nat) (sz : List Int) (l : Nat) (hl : sz.length = l) (da : Option Addr) (dc : Nat) (dz : List Int) (m : Nat) (hm : dz.length = m) (c' : Bool) (sa' : Option Addr) (sc' : Nat) (sz' : List Int) (l' : Nat) (hl' : sz'.length = l') (da' : Option Addr) (dc' : Nat) (dz' : List Int) (m' : Nat) (hm' : dz'.length = m') (w : World) (hf : In64 f) (hg : In64 g)
    (h1 : l ≤ 9223372036854775807) (h2 : m ≤ 9223372036854775807) (hs : IsC w.heap.size w sa sz sc) (hd : IsInts w.heap.size w da dz) (T : ∀ j, In64 (nth dz j)) (h1' : l' ≤ 9223372036854775807) (h2' : m' ≤ 9223372036854775807) (hs' : IsC w.heap.size w sa' sz' sc') (hd' : IsInts w.heap.size w da' dz') (T' : ∀ j, In64 (nth dz' j)) (H : CNi) (E : Int) (h : inE f g c sz dz c' sz' dz' = E ∧ E ≠ 0) :
    Calls Try.prog 9 #[.int .i64 f, .int .i64 g, .agg #[.bool c, .slice sa l sc, .slice da m dc], .agg #[.bool c', .slice sa' l' sc', .slice da' m' dc']] w (NoA E w) := by
  subst hl hm hl' hm'
  exact (H f g c sa sc sz da dc dz c' sa' sc' sz' da' dc' dz' w hf hg h1 h2 h1' h2' hs hd hs' hd' T T').mono fun _ _ hU => ub_no12 h.1 h.2 hU
theorem otw_ok (f : Int) (c : Bool) (sa : Option Addr) (sc : Nat) (sz : List Int) (l : Nat) (hl : sz.length = l) (da : Option Addr) (dc : Nat) (dz : List Int) (m : Nat) (hm : dz.length = m) (c' : Bool) (sa' : Option Addr) (sc' : Nat) (sz' : List Int) (l' : Nat) (hl' : sz'.length = l') (da' : Option Addr) (dc' : Nat) (dz' : List Int) (m' : Nat) (hm' : dz'.length = m') (w : World) (hf : In64 f)
    (h1 : l ≤ 9223372036854775807) (h2 : m ≤ 9223372036854775807) (hs : IsInts w.heap.size w sa sz) (hd : IsInts w.heap.size w da dz) (T : ∀ j, In64 (nth dz j)) (h1' : l' ≤ 9223372036854775807) (h2' : m' ≤ 9223372036854775807) (hs' : IsInts w.heap.size w sa' sz') (hd' : IsInts w.heap.size w da' dz') (T' : ∀ j, In64 (nth dz' j)) (S D : List Int) (H : COt) (h : otE f c sz dz c' sz' dz' = 0 ∧ sz ++ sz' = S ∧ otD f c sz dz c' sz' dz' = D) :
    Calls Try.prog 6 #[.int .i64 f, .agg #[.bool c, .slice sa l sc, .slice da m dc], .agg #[.bool c', .slice sa' l' sc', .slice da' m' dc']] w (OkB false S D w) := by
  subst hl hm hl' hm'
  exact (H f c sa sc sz da dc dz c' sa' sc' sz' da' dc' dz' w hf h1 h2 h1' h2' hs hd hs' hd' T T').mono fun _ _ hU => ub_ok12 h hU
theorem otw_no (f : Int) (c : Bool) (sa : Option Addr) (sc : Nat) (sz : List Int) (l : Nat) (hl : sz.length = l) (da : Option Addr) (dc : Nat) (dz : List Int) (m : Nat) (hm : dz.length = m) (c' : Bool) (sa' : Option Addr) (sc' : Nat) (sz' : List Int) (l' : Nat) (hl' : sz'.length = l') (da' : Option Addr) (dc' : Nat) (dz' : List Int) (m' : Nat) (hm' : dz'.length = m') (w : World) (hf : In64 f)
    (h1 : l ≤ 9223372036854775807) (h2 : m ≤ 9223372036854775807) (hs : IsInts w.heap.size w sa sz) (hd : IsInts w.heap.size w da dz) (T : ∀ j, In64 (nth dz j)) (h1' : l' ≤ 9223372036854775807) (h2' : m' ≤ 9223372036854775807) (hs' : IsInts w.heap.size w sa' sz') (hd' : IsInts w.heap.size w da' dz') (T' : ∀ j, In64 (nth dz' j)) (H : COt) (E : Int) (h : otE f c sz dz c' sz' dz' = E ∧ E ≠ 0) :
    Calls Try.prog 6 #[.int .i64 f, .agg #[.bool c, .slice sa l sc, .slice da m dc], .agg #[.bool c', .slice sa' l' sc', .slice da' m' dc']] w (NoA E w) := by
  subst hl hm hl' hm'
  exact (H f c sa sc sz da dc dz c' sa' sc' sz' da' dc' dz' w hf h1 h2 h1' h2' hs hd hs' hd' T T').mono fun _ _ hU => ub_no12 h.1 h.2 hU
end Go.Proofs.Ytcpmendkocnlhab
