/-
  The walks of CutMeshes, and what they rest on, together.
-/
import Derived.Test.YtnfdcdoelhanlaaCMeshesOk
import Derived.Test.YtnfdcdoelhanlaaCut3
import Derived.Test.YtnfdcdoelhanlaaCut4
import Derived.Test.YtnfdcdoelhanlaaEach2
namespace Go.Proofs.Ytnfdcdoelhanlaa
open Go.RowKit
set_option linter.unusedVariables false

theorem meshes_walk (ma : Option Addr) (mc : Nat) (m : List Int) (hm : m.length ≤ 9223372036854775807) (Tm : ∀ j, In64 (nth m j)) (x : Int) (hx : In64 x) (c1 : Bool) (sa1 : Option Addr) (sc1 : Nat) (sz1 : List Int) (da1 : Option Addr) (dc1 : Nat) (dz1 : List Int) (w : World) (wm : IsC w.heap.size w ma m mc) (w9 : IsArrD w sa1 sz1 sc1 da1 dz1 dc1) :
    Calls Try.prog 4 #[.slice ma m.length mc, .int .i64 x, .agg #[.bool c1, .slice sa1 sz1.length sc1, .slice da1 dz1.length dc1]] w fun e w' => e = .returned (.bool true) ∧ Below w.heap.size w w' := by
  by_cases h1 : kpE m x c1 sz1 dz1 = 0
  · cases c1
    · have hx0 : 0 ≤ x := by
        by_cases h0 : axE x false sz1 dz1 = 0
        · exact (axE_zero.1 h0).2.1
        · unfold kpE at h1; rw [if_pos h0] at h1; exact absurd h1 h0
      obtain ⟨xn, rfl⟩ : ∃ xn : Nat, x = (xn : Int) := ⟨x.toNat, by omega⟩
      exact meshes_ok each_two_c kp_holds sp_holds ma mc m hm Tm xn sa1 sc1 sz1 da1 dc1 dz1 w wm w9 h1
    · exact meshes_ch each_two_c kp_holds sp_holds ma mc m hm Tm x hx sa1 sc1 sz1 da1 dc1 dz1 w wm w9 h1
  · exact meshes_no each_two_c kp_holds sp_holds ma mc m hm Tm x hx c1 sa1 sc1 sz1 da1 dc1 dz1 w wm w9 h1
end Go.Proofs.Ytnfdcdoelhanlaa
