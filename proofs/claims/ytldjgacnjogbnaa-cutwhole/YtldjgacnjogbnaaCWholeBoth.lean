/-
  The walks of CutWhole, and what they rest on, together.
-/
import Derived.Test.YtldjgacnjogbnaaCWholeOk
import Derived.Test.YtldjgacnjogbnaaCut1
import Derived.Test.YtldjgacnjogbnaaCut2
import Derived.Test.YtldjgacnjogbnaaCut5
namespace Go.Proofs.Ytldjgacnjogbnaa
open Go.RowKit
set_option linter.unusedVariables false

theorem whole_walk (n x : Int) (hn : In64 n) (hx : In64 x) (c1 : Bool) (sa1 : Option Addr) (sc1 : Nat) (sz1 : List Int) (da1 : Option Addr) (dc1 : Nat) (dz1 : List Int) (w : World) (w9 : IsArrD w sa1 sz1 sc1 da1 dz1 dc1) :
    Calls Try.prog 3 #[.int .i64 n, .int .i64 x, .agg #[.bool c1, .slice sa1 sz1.length sc1, .slice da1 dz1.length dc1]] w fun e w' => e = .returned (.bool true) ∧ Below w.heap.size w w' := by
  by_cases hf : flawE c1 sz1 dz1 = 0
  · by_cases x0 : x < 0
    · exact whole_lo tk_holds dr_holds jn_holds n x hn hx c1 sa1 sc1 sz1 da1 dc1 dz1 w w9 hf x0
    · by_cases x1 : (sz1.length : Int) ≤ x
      · exact whole_hi tk_holds dr_holds jn_holds n x hn hx c1 sa1 sc1 sz1 da1 dc1 dz1 w w9 hf (by omega) x1
      · by_cases n0 : n < 0
        · exact whole_neg tk_holds dr_holds jn_holds n x hn hx c1 sa1 sc1 sz1 da1 dc1 dz1 w w9 hf (by omega) (by omega) n0
        · by_cases n1 : nth sz1 x.toNat < n
          · exact whole_big tk_holds dr_holds jn_holds n x hn hx c1 sa1 sc1 sz1 da1 dc1 dz1 w w9 hf (by omega) (by omega) (by omega) n1
          · obtain ⟨xn, rfl⟩ : ∃ xn : Nat, x = (xn : Int) := ⟨x.toNat, by omega⟩
            rw [Int.toNat_natCast] at n1
            have hxl : xn < sz1.length := by omega
            obtain ⟨bs, os, e, _, _⟩ := w9.2.2.1.1.at hxl
            subst e
            exact whole_ok tk_holds dr_holds jn_holds n xn c1 bs os sc1 sz1 da1 dc1 dz1 w w9 hf hxl (by omega) (by omega)
  · exact whole_no tk_holds dr_holds jn_holds n x hn hx c1 sa1 sc1 sz1 da1 dc1 dz1 w w9 hf
end Go.Proofs.Ytldjgacnjogbnaa
