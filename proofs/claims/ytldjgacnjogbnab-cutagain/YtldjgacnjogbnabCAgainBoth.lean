/-
  The walks of CutAgain, and what they rest on, together.
-/
import Derived.Test.YtldjgacnjogbnabCAgainOk
import Derived.Test.YtldjgacnjogbnabCut1
import Derived.Test.YtldjgacnjogbnabCut2
namespace Go.Proofs.Ytldjgacnjogbnab
open Go.RowKit
set_option linter.unusedVariables false

theorem again_walk (m n : Int) (hm : In64 m) (hn : In64 n) (c1 : Bool) (sa1 : Option Addr) (sc1 : Nat) (sz1 : List Int) (da1 : Option Addr) (dc1 : Nat) (dz1 : List Int) (w : World) (w9 : IsArrD w sa1 sz1 sc1 da1 dz1 dc1) :
    Calls Try.prog 7 #[.int .i64 m, .int .i64 n, .agg #[.bool c1, .slice sa1 sz1.length sc1, .slice da1 dz1.length dc1]] w fun e w' => e = .returned (.bool true) ∧ Below w.heap.size w w' := by
  by_cases hf : flawE c1 sz1 dz1 = 0
  · by_cases h1 : sz1.length = 1
    · by_cases m0 : m < 0
      · exact again_lo1 tk_holds dr_holds m n hm hn c1 sa1 sc1 sz1 da1 dc1 dz1 w w9 hf h1 m0
      · by_cases n0 : n < 0
        · exact again_lo2 tk_holds dr_holds m n hm hn c1 sa1 sc1 sz1 da1 dc1 dz1 w w9 hf h1 (by omega) n0
        · by_cases m1 : 4096 < m
          · exact again_hi1 tk_holds dr_holds m n hm hn c1 sa1 sc1 sz1 da1 dc1 dz1 w w9 hf h1 (by omega) (by omega) m1
          · by_cases n1 : 4096 < n
            · exact again_hi2 tk_holds dr_holds m n hm hn c1 sa1 sc1 sz1 da1 dc1 dz1 w w9 hf h1 (by omega) (by omega) (by omega) n1
            · obtain ⟨M, rfl⟩ : ∃ M : Nat, m = (M : Int) := ⟨m.toNat, by omega⟩
              obtain ⟨N, rfl⟩ : ∃ N : Nat, n = (N : Int) := ⟨n.toNat, by omega⟩
              have hs : sz1 = [(dz1.length : Int)] := by
                match sz1, h1, hf with
                | [l], _, hf => rw [(one_flaw hf).1]
              by_cases hlt : N < M
              · exact again_lt tk_holds dr_holds M N (by omega) (by omega) c1 sa1 sc1 sz1 da1 dc1 dz1 w w9 ⟨hs, hf⟩ hlt
              · exact again_ge tk_holds dr_holds M N (by omega) (by omega) c1 sa1 sc1 sz1 da1 dc1 dz1 w w9 ⟨hs, hf⟩ (by omega)
    · exact again_rank tk_holds dr_holds m n hm hn c1 sa1 sc1 sz1 da1 dc1 dz1 w w9 hf h1
  · exact again_no tk_holds dr_holds m n hm hn c1 sa1 sc1 sz1 da1 dc1 dz1 w w9 hf
end Go.Proofs.Ytldjgacnjogbnab
