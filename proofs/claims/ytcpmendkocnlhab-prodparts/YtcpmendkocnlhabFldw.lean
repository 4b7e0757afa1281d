/-
  The program's Reduce, Scan and Windows, told in two cases: as the statements' walks use them.
-/
import Derived.Test.YtcpmendkocnlhabFldq
import Derived.Test.YtcpmendkocnlhabCutw
namespace Go.Proofs.Ytcpmendkocnlhab
open Go.RowKit
set_option linter.unusedVariables false

theorem onc_false (e : Int) : onc e false = false := by unfold onc; split <;> rfl
theorem ub_ok12 {e : Int} {S D S' D' : List Int} {w w' : World} {r : Ending} (h0 : e = 0 ∧ S = S' ∧ D = D') (h : UB e false (onl e S) (onl e D) w r w') : OkB false S' D' w r w' := UB.ok (c := false) h0 (by rw [onc_false]; exact h)
theorem ub_no12 {e : Int} {S D : List Int} {w w' : World} {r : Ending} {E : Int} (he : e = E) (h0 : E ≠ 0) (h : UB e false (onl e S) (onl e D) w r w') : NoA E w r w' := by subst he; exact UB.no (c := false) h0 (by rw [onc_false]; exact h)
theorem rdw_ok (f x : Int) (c : Bool) (sa : Option Addr) (sc : Nat) (sz : List Int) (l : Nat) (hl : sz.length = l) (da : Option Addr) (dc : Nat) (dz : List Int) (m : Nat) (hm : dz.length = m) (w : World) (hf : In64 f) (hx : In64 x) (h1 : l ≤ 9223372036854775807) (h2 : m ≤ 9223372036854775807) (hs : IsC w.heap.size w sa sz sc) (hd : IsInts w.heap.size w da dz) (T : ∀ j, In64 (nth dz j)) (S D : List Int) (H : CRd) (h : rdE f x c sz dz = 0 ∧ xout x.toNat sz = S ∧ rdD f sz dz x.toNat = D) : Calls Try.prog 13 #[.int .i64 f, .int .i64 x, .agg #[.bool c, .slice sa l sc, .slice da m dc]] w (OkB false S D w) := by
  subst hl hm
  exact (H f x c sa sc sz da dc dz w hf hx h1 h2 hs hd T).mono fun _ _ hU => ub_ok12 h hU
theorem rdw_no (f x : Int) (c : Bool) (sa : Option Addr) (sc : Nat) (sz : List Int) (l : Nat) (hl : sz.length = l) (da : Option Addr) (dc : Nat) (dz : List Int) (m : Nat) (hm : dz.length = m) (w : World) (hf : In64 f) (hx : In64 x) (h1 : l ≤ 9223372036854775807) (h2 : m ≤ 9223372036854775807) (hs : IsC w.heap.size w sa sz sc) (hd : IsInts w.heap.size w da dz) (T : ∀ j, In64 (nth dz j)) (H : CRd) (E : Int) (h : rdE f x c sz dz = E ∧ E ≠ 0) : Calls Try.prog 13 #[.int .i64 f, .int .i64 x, .agg #[.bool c, .slice sa l sc, .slice da m dc]] w (NoA E w) := by
  subst hl hm
  exact (H f x c sa sc sz da dc dz w hf hx h1 h2 hs hd T).mono fun _ _ hU => ub_no12 h.1 h.2 hU
end Go.Proofs.Ytcpmendkocnlhab
