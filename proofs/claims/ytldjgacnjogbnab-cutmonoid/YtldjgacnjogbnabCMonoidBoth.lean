/-
  The walks of CutMonoid, and what they rest on, together.
-/
import Derived.Test.YtldjgacnjogbnabCMonoidOk
import Derived.Test.YtldjgacnjogbnabCut1
import Derived.Test.YtldjgacnjogbnabCut5
namespace Go.Proofs.Ytldjgacnjogbnab
open Go.RowKit
set_option linter.unusedVariables false

theorem monoid_walk (x : Int) (hx : In64 x) (c1 : Bool) (sa1 : Option Addr) (sc1 : Nat) (sz1 : List Int) (da1 : Option Addr) (dc1 : Nat) (dz1 : List Int) (c2 : Bool) (sa2 : Option Addr) (sc2 : Nat) (sz2 : List Int) (da2 : Option Addr) (dc2 : Nat) (dz2 : List Int) (c3 : Bool) (sa3 : Option Addr) (sc3 : Nat) (sz3 : List Int) (da3 : Option Addr) (dc3 : Nat) (dz3 : List Int) (w : World) (w9_1 : IsArrD w sa1 sz1 sc1 da1 dz1 dc1) (w9_2 : IsArrD w sa2 sz2 sc2 da2 dz2 dc2) (w9_3 : IsArrD w sa3 sz3 sc3 da3 dz3 dc3) :
    Calls Try.prog 3 #[.int .i64 x, .agg #[.bool c1, .slice sa1 sz1.length sc1, .slice da1 dz1.length dc1], .agg #[.bool c2, .slice sa2 sz2.length sc2, .slice da2 dz2.length dc2], .agg #[.bool c3, .slice sa3 sz3.length sc3, .slice da3 dz3.length dc3]] w fun e w' => e = .returned (.bool true) ∧ Below w.heap.size w w' := by
  by_cases h1 : jnE x c1 sz1 dz1 c2 sz2 dz2 = 0
  · by_cases h2 : jnE x c1 (jnS x.toNat sz1 sz2) (jnD x.toNat sz1 dz1 sz2 dz2) c3 sz3 dz3 = 0
    · obtain ⟨a1, a2, a3, a4, a5, a6, a7, a8⟩ := jnE_zero.1 h1
      obtain ⟨b1, b2, b3, b4, b5, b6, b7, b8⟩ := jnE_zero.1 h2
      obtain ⟨xn, rfl⟩ : ∃ xn : Nat, x = (xn : Int) := ⟨x.toNat, by omega⟩
      rw [Int.toNat_natCast] at a5 h2
      subst a7 b7
      obtain ⟨bs, os, e, _, _⟩ := w9_1.2.2.1.1.at a5
      subst e
      exact monoid_ok tk_holds jn_holds xn c1 bs os sc1 sz1 da1 dc1 dz1 sa2 sc2 sz2 da2 dc2 dz2 sa3 sc3 sz3 da3 dc3 dz3 w w9_1 w9_2 w9_3 h1 h2
    · exact monoid_no2 tk_holds jn_holds x hx c1 sa1 sc1 sz1 da1 dc1 dz1 c2 sa2 sc2 sz2 da2 dc2 dz2 c3 sa3 sc3 sz3 da3 dc3 dz3 w w9_1 w9_2 w9_3 h1 h2
  · exact monoid_no1 tk_holds jn_holds x hx c1 sa1 sc1 sz1 da1 dc1 dz1 c2 sa2 sc2 sz2 da2 dc2 dz2 c3 sa3 sc3 sz3 da3 dc3 dz3 w w9_1 w9_2 w9_3 h1
end Go.Proofs.Ytldjgacnjogbnab
