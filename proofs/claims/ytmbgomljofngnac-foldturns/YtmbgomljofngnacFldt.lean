/-
  Reverse and Rotate, told where nothing is wrong; which functions are the same either way round, as the statements ask it.
-/
import Derived.Test.YtmbgomljofngnacRevb
import Derived.Test.YtmbgomljofngnacRotb
import Derived.Test.YtmbgomljofngnacFldx
namespace Go.Proofs.Ytmbgomljofngnac
open Go.RowKit
set_option linter.unusedVariables false

theorem rvw12_ok (x : Int) (c : Bool) (sa : Option Addr) (sc : Nat) (sz : List Int) (da : Option Addr) (dc : Nat) (dz : List Int) (w : World) (hx : In64 x) (h1 : sz.length ≤ 9223372036854775807) (h2 : dz.length ≤ 9223372036854775807) (hs : IsC w.heap.size w sa sz sc) (hd : IsInts w.heap.size w da dz) (T : ∀ j, In64 (nth dz j)) (S D : List Int) (H : CRvB) (h : axE x c sz dz = 0 ∧ sz = S ∧ GA sz dz sz (revT sz x.toNat) = D) :
    Calls Try.prog 9 #[.int .i64 x, .agg #[.bool c, .slice sa sz.length sc, .slice da dz.length dc]] w (OkB c S D w) := (H x c sa sc sz da dc dz w hx h1 h2 hs hd T).mono fun _ _ hU => UB.ok h hU
theorem rtw12_ok (n x : Int) (c : Bool) (sa : Option Addr) (sc : Nat) (sz : List Int) (da : Option Addr) (dc : Nat) (dz : List Int) (w : World) (hn : In64 n) (hx : In64 x) (h1 : sz.length ≤ 9223372036854775807) (h2 : dz.length ≤ 9223372036854775807) (hs : IsC w.heap.size w sa sz sc) (hd : IsInts w.heap.size w da dz) (T : ∀ j, In64 (nth dz j)) (S D : List Int) (H : CRtB) (h : axE x c sz dz = 0 ∧ sz = S ∧ GA sz dz sz (rotT sz n x.toNat) = D) :
    Calls Try.prog 11 #[.int .i64 n, .int .i64 x, .agg #[.bool c, .slice sa sz.length sc, .slice da dz.length dc]] w (OkB c S D w) := (H n x c sa sc sz da dc dz w hn hx h1 h2 hs hd T).mono fun _ _ hU => UB.ok h hU
end Go.Proofs.Ytmbgomljofngnac
