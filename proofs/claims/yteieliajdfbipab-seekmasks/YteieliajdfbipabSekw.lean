/-
  What Index, In, Nub, Without, Meet and Union tell, where nothing is wrong and where something is; the lengths told apart.
-/
import Derived.Test.YteieliajdfbipabCutw
import Derived.Test.YteieliajdfbipabSekq
namespace Go.Proofs.Yteieliajdfbipab
open Go.RowKit
set_option linter.unusedVariables false

theorem in_ok (c : Bool) (sa : Option Addr) (sc : Nat) (sz : List Int) (l : Nat) (hl : sz.length = l) (da : Option Addr) (dc : Nat) (dz : List Int) (c' : Bool) (sa' : Option Addr) (sc' : Nat) (sz' : List Int) (l' : Nat) (hl' : sz'.length = l') (da' : Option Addr) (dc' : Nat) (dz' : List Int) (w : World) (h1 : l ≤ 9223372036854775807) (h2 : dz.length ≤ 9223372036854775807) (h1' : l' ≤ 9223372036854775807) (h2' : dz'.length ≤ 9223372036854775807) (hs : IsInts w.heap.size w sa sz) (hd : IsInts w.heap.size w da dz) (hs' : IsInts w.heap.size w sa' sz') (hd' : IsInts w.heap.size w da' dz') (T : ∀ j, In64 (nth dz j)) (T' : ∀ j, In64 (nth dz' j)) (S D : List Int) (H : CIn) (h : flawsE c sz dz c' sz' dz' = 0 ∧ sz = S ∧ inD c dz c' dz' = D) :
    Calls Try.prog 4 #[.agg #[.bool c, .slice sa l sc, .slice da dz.length dc], .agg #[.bool c', .slice sa' l' sc', .slice da' dz'.length dc']] w (OkB false S D w) := by
  subst hl hl'
  exact (H c sa sc sz da dc dz c' sa' sc' sz' da' dc' dz' w h1 h2 h1' h2' hs hd hs' hd' T T').mono fun r w' h' => UB.ok h h'
theorem in_no (c : Bool) (sa : Option Addr) (sc : Nat) (sz : List Int) (l : Nat) (hl : sz.length = l) (da : Option Addr) (dc : Nat) (dz : List Int) (c' : Bool) (sa' : Option Addr) (sc' : Nat) (sz' : List Int) (l' : Nat) (hl' : sz'.length = l') (da' : Option Addr) (dc' : Nat) (dz' : List Int) (w : World) (h1 : l ≤ 9223372036854775807) (h2 : dz.length ≤ 9223372036854775807) (h1' : l' ≤ 9223372036854775807) (h2' : dz'.length ≤ 9223372036854775807) (hs : IsInts w.heap.size w sa sz) (hd : IsInts w.heap.size w da dz) (hs' : IsInts w.heap.size w sa' sz') (hd' : IsInts w.heap.size w da' dz') (T : ∀ j, In64 (nth dz j)) (T' : ∀ j, In64 (nth dz' j)) (H : CIn) (h : flawsE c sz dz c' sz' dz' ≠ 0) :
    Calls Try.prog 4 #[.agg #[.bool c, .slice sa l sc, .slice da dz.length dc], .agg #[.bool c', .slice sa' l' sc', .slice da' dz'.length dc']] w (NoA (flawsE c sz dz c' sz' dz') w) := by
  subst hl hl'
  exact (H c sa sc sz da dc dz c' sa' sc' sz' da' dc' dz' w h1 h2 h1' h2' hs hd hs' hd' T T').mono fun r w' h' => UB.no h h'
theorem wo_ok (c : Bool) (sa : Option Addr) (sc : Nat) (sz : List Int) (l : Nat) (hl : sz.length = l) (da : Option Addr) (dc : Nat) (dz : List Int) (c' : Bool) (sa' : Option Addr) (sc' : Nat) (sz' : List Int) (l' : Nat) (hl' : sz'.length = l') (da' : Option Addr) (dc' : Nat) (dz' : List Int) (w : World) (h1 : l ≤ 9223372036854775807) (h2 : dz.length ≤ 9223372036854775807) (h1' : l' ≤ 9223372036854775807) (h2' : dz'.length ≤ 9223372036854775807) (hs : IsInts w.heap.size w sa sz) (hd : IsInts w.heap.size w da dz) (hs' : IsInts w.heap.size w sa' sz') (hd' : IsInts w.heap.size w da' dz') (T : ∀ j, In64 (nth dz j)) (T' : ∀ j, In64 (nth dz' j)) (S D : List Int) (H : CWo) (h : lsE c sz dz c' sz' dz' = 0 ∧ [((shD c dz c' dz' false).length : Int)] = S ∧ shD c dz c' dz' false = D) :
    Calls Try.prog 8 #[.agg #[.bool c, .slice sa l sc, .slice da dz.length dc], .agg #[.bool c', .slice sa' l' sc', .slice da' dz'.length dc']] w (OkB c S D w) := by
  subst hl hl'
  exact (H c sa sc sz da dc dz c' sa' sc' sz' da' dc' dz' w h1 h2 h1' h2' hs hd hs' hd' T T').mono fun r w' h' => UB.ok h h'
theorem wo_no (c : Bool) (sa : Option Addr) (sc : Nat) (sz : List Int) (l : Nat) (hl : sz.length = l) (da : Option Addr) (dc : Nat) (dz : List Int) (c' : Bool) (sa' : Option Addr) (sc' : Nat) (sz' : List Int) (l' : Nat) (hl' : sz'.length = l') (da' : Option Addr) (dc' : Nat) (dz' : List Int) (w : World) (h1 : l ≤ 9223372036854775807) (h2 : dz.length ≤ 9223372036854775807) (h1' : l' ≤ 9223372036854775807) (h2' : dz'.length ≤ 9223372036854775807) (hs : IsInts w.heap.size w sa sz) (hd : IsInts w.heap.size w da dz) (hs' : IsInts w.heap.size w sa' sz') (hd' : IsInts w.heap.size w da' dz') (T : ∀ j, In64 (nth dz j)) (T' : ∀ j, In64 (nth dz' j)) (H : CWo) (h : lsE c sz dz c' sz' dz' ≠ 0) :
    Calls Try.prog 8 #[.agg #[.bool c, .slice sa l sc, .slice da dz.length dc], .agg #[.bool c', .slice sa' l' sc', .slice da' dz'.length dc']] w (NoA (lsE c sz dz c' sz' dz') w) := by
  subst hl hl'
  exact (H c sa sc sz da dc dz c' sa' sc' sz' da' dc' dz' w h1 h2 h1' h2' hs hd hs' hd' T T').mono fun r w' h' => UB.no h h'
theorem mt_ok (c : Bool) (sa : Option Addr) (sc : Nat) (sz : List Int) (l : Nat) (hl : sz.length = l) (da : Option Addr) (dc : Nat) (dz : List Int) (c' : Bool) (sa' : Option Addr) (sc' : Nat) (sz' : List Int) (l' : Nat) (hl' : sz'.length = l') (da' : Option Addr) (dc' : Nat) (dz' : List Int) (w : World) (h1 : l ≤ 9223372036854775807) (h2 : dz.length ≤ 9223372036854775807) (h1' : l' ≤ 9223372036854775807) (h2' : dz'.length ≤ 9223372036854775807) (hs : IsInts w.heap.size w sa sz) (hd : IsInts w.heap.size w da dz) (hs' : IsInts w.heap.size w sa' sz') (hd' : IsInts w.heap.size w da' dz') (T : ∀ j, In64 (nth dz j)) (T' : ∀ j, In64 (nth dz' j)) (S D : List Int) (H : CMt) (h : lsE c sz dz c' sz' dz' = 0 ∧ [((shD c dz c' dz' true).length : Int)] = S ∧ shD c dz c' dz' true = D) :
    Calls Try.prog 7 #[.agg #[.bool c, .slice sa l sc, .slice da dz.length dc], .agg #[.bool c', .slice sa' l' sc', .slice da' dz'.length dc']] w (OkB c S D w) := by
  subst hl hl'
  exact (H c sa sc sz da dc dz c' sa' sc' sz' da' dc' dz' w h1 h2 h1' h2' hs hd hs' hd' T T').mono fun r w' h' => UB.ok h h'
theorem mt_no (c : Bool) (sa : Option Addr) (sc : Nat) (sz : List Int) (l : Nat) (hl : sz.length = l) (da : Option Addr) (dc : Nat) (dz : List Int) (c' : Bool) (sa' : Option Addr) (sc' : Nat) (sz' : List Int) (l' : Nat) (hl' : sz'.length = l') (da' : Option Addr) (dc' : Nat) (dz' : List Int) (w : World) (h1 : l ≤ 9223372036854775807) (h2 : dz.length ≤ 9223372036854775807) (h1' : l' ≤ 9223372036854775807) (h2' : dz'.length ≤ 9223372036854775807) (hs : IsInts w.heap.size w sa sz) (hd : IsInts w.heap.size w da dz) (hs' : IsInts w.heap.size w sa' sz') (hd' : IsInts w.heap.size w da' dz') (T : ∀ j, In64 (nth dz j)) (T' : ∀ j, In64 (nth dz' j)) (H : CMt) (h : lsE c sz dz c' sz' dz' ≠ 0) :
    Calls Try.prog 7 #[.agg #[.bool c, .slice sa l sc, .slice da dz.length dc], .agg #[.bool c', .slice sa' l' sc', .slice da' dz'.length dc']] w (NoA (lsE c sz dz c' sz' dz') w) := by
  subst hl hl'
  exact (H c sa sc sz da dc dz c' sa' sc' sz' da' dc' dz' w h1 h2 h1' h2' hs hd hs' hd' T T').mono fun r w' h' => UB.no h h'
end Go.Proofs.Yteieliajdfbipab
