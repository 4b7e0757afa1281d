/-
  The walk of the statement PickLens, given what the program tells.
-/
import Derived.Test.YtlflacoiidhgoaaPLensA
import Derived.Test.YtlflacoiidhgoaaPLensB
import Derived.Test.YtlflacoiidhgoaaPLensC
import Derived.Deep.QuietTactic
import Derived.BigQuiet
import Derived.WalkSmall
import Derived.Deep.RegionWith
namespace Go.Proofs.Ytlflacoiidhgoaa
open Go.RowKit
set_option linter.unusedVariables false

theorem plens_walk (HA : CAt) (HPt : CPt) (c1 : Bool) (sa1 : Option Addr) (sc1 : Nat) (sz1 : List Int) (da1 : Option Addr) (dc1 : Nat) (dz1 : List Int) (ba : Option Addr) (bc : Nat) (bs : List ArV) (hbl : bs.length ≤ 9223372036854775807) (c2 : Bool) (sa2 : Option Addr) (sc2 : Nat) (sz2 : List Int) (da2 : Option Addr) (dc2 : Nat) (dz2 : List Int) (c3 : Bool) (sa3 : Option Addr) (sc3 : Nat) (sz3 : List Int) (da3 : Option Addr) (dc3 : Nat) (dz3 : List Int) (w : World) (w8 : IsArrD w sa1 sz1 sc1 da1 dz1 dc1) (w9 : IsArrD w sa2 sz2 sc2 da2 dz2 dc2) (w10 : IsArrD w sa3 sz3 sc3 da3 dz3 dc3) (hbs : IsAs w.heap.size w ba bs) :
    Calls Try.prog 3 #[.agg #[.bool c1, .slice sa1 sz1.length sc1, .slice da1 dz1.length dc1], .slice ba bs.length bc, .agg #[.bool c2, .slice sa2 sz2.length sc2, .slice da2 dz2.length dc2], .agg #[.bool c3, .slice sa3 sz3.length sc3, .slice da3 dz3.length dc3]] w fun e w' => e = .returned (.bool true) ∧ Below w.heap.size w w' := by
  by_cases h1 : pkE c1 sz1 dz1 (bya bs) = 0
  · by_cases h2 : ptE c1 sz1 dz1 (bya bs) c2 sz2 dz2 = 0
    · by_cases h3 : ptE c1 sz1 dz1 (bya bs) c3 sz3 dz3 = 0
      · exact lens_ok HA HPt c1 sa1 sc1 sz1 da1 dc1 dz1 ba bc bs hbl c2 sa2 sc2 sz2 da2 dc2 dz2 c3 sa3 sc3 sz3 da3 dc3 dz3 w w8 w9 w10 hbs h1 h2 h3
      · exact lens_no3 HA HPt c1 sa1 sc1 sz1 da1 dc1 dz1 ba bc bs hbl c2 sa2 sc2 sz2 da2 dc2 dz2 c3 sa3 sc3 sz3 da3 dc3 dz3 w w8 w9 w10 hbs h1 h2 h3
    · exact lens_no2 HA HPt c1 sa1 sc1 sz1 da1 dc1 dz1 ba bc bs hbl c2 sa2 sc2 sz2 da2 dc2 dz2 c3 sa3 sc3 sz3 da3 dc3 dz3 w w8 w9 w10 hbs h1 h2
  · exact lens_no1 HA HPt c1 sa1 sc1 sz1 da1 dc1 dz1 ba bc bs hbl c2 sa2 sc2 sz2 da2 dc2 dz2 c3 sa3 sc3 sz3 da3 dc3 dz3 w w8 w9 w10 hbs h1
end Go.Proofs.Ytlflacoiidhgoaa
