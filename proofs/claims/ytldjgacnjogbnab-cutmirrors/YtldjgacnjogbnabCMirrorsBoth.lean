/-
  The walks of CutMirrors, and what they rest on, together.
-/
import Derived.Test.YtldjgacnjogbnabCMirrorsOk
import Derived.Test.YtldjgacnjogbnabCut1
import Derived.Test.YtldjgacnjogbnabCut5
namespace Go.Proofs.Ytldjgacnjogbnab
open Go.RowKit
set_option linter.unusedVariables false

theorem mirrors_walk (x : Int) (hx : In64 x) (c1 : Bool) (sa1 : Option Addr) (sc1 : Nat) (sz1 : List Int) (da1 : Option Addr) (dc1 : Nat) (dz1 : List Int) (c2 : Bool) (sa2 : Option Addr) (sc2 : Nat) (sz2 : List Int) (da2 : Option Addr) (dc2 : Nat) (dz2 : List Int) (n : Int) (hn : In64 n) (w : World) (w9_1 : IsArrD w sa1 sz1 sc1 da1 dz1 dc1) (w9_2 : IsArrD w sa2 sz2 sc2 da2 dz2 dc2) :
    Calls Try.prog 6 #[.int .i64 x, .agg #[.bool c1, .slice sa1 sz1.length sc1, .slice da1 dz1.length dc1], .agg #[.bool c2, .slice sa2 sz2.length sc2, .slice da2 dz2.length dc2], .int .i64 n] w fun e w' => e = .returned (.bool true) ∧ Below w.heap.size w w' := by
  by_cases h1 : jnE x c1 sz1 dz1 c2 sz2 dz2 = 0
  · obtain ⟨a1, a2, a3, a4, a5, a6, a7, a8⟩ := jnE_zero.1 h1
    obtain ⟨xn, rfl⟩ : ∃ xn : Nat, x = (xn : Int) := ⟨x.toNat, by omega⟩
    rw [Int.toNat_natCast] at a5
    subst a7
    obtain ⟨bs, os, e, _, _⟩ := w9_1.2.2.1.1.at a5
    subst e
    by_cases n0 : n < 0
    · exact mirrors_lo tk_holds jn_holds rvb_holds xn c1 bs os sc1 sz1 da1 dc1 dz1 sa2 sc2 sz2 da2 dc2 dz2 n hn w w9_1 w9_2 h1 n0
    · by_cases n1 : nth sz1 xn < n
      · exact mirrors_hi tk_holds jn_holds rvb_holds xn c1 bs os sc1 sz1 da1 dc1 dz1 sa2 sc2 sz2 da2 dc2 dz2 n hn w w9_1 w9_2 h1 (by omega) n1
      · exact mirrors_ok tk_holds jn_holds rvb_holds xn c1 bs os sc1 sz1 da1 dc1 dz1 sa2 sc2 sz2 da2 dc2 dz2 n hn w w9_1 w9_2 h1 (by omega) (by omega)
  · exact mirrors_no tk_holds jn_holds rvb_holds x hx c1 sa1 sc1 sz1 da1 dc1 dz1 c2 sa2 sc2 sz2 da2 dc2 dz2 n hn w w9_1 w9_2 h1
end Go.Proofs.Ytldjgacnjogbnab
