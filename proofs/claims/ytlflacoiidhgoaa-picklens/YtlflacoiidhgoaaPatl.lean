/-
  Two arrays that are alike, whatever room they have.
-/
import Derived.Test.YtlflacoiidhgoaaTurnw
namespace Go.Proofs.Ytlflacoiidhgoaa
open Go.RowKit
set_option linter.unusedVariables false

set_option maxRecDepth 100000 in
set_option maxHeartbeats 2000000 in
theorem alike_i (c : Bool) (sa : Option Addr) (sc : Nat) (sz : List Int) (da : Option Addr) (dc : Nat) (dz : List Int) (sa' : Option Addr) (sc' : Nat) (sz' : List Int) (da' : Option Addr) (dc' : Nat) (dz' : List Int) (es : sz' = sz) (ed : dz' = dz)
    (h1 : sz.length ≤ 9223372036854775807) (h2 : dz.length ≤ 9223372036854775807) (w : World) (hs : IsInts w.heap.size w sa sz) (hd : IsInts w.heap.size w da dz) (hs' : IsInts w.heap.size w sa' sz') (hd' : IsInts w.heap.size w da' dz') :
    Calls Try.prog 11 #[.agg #[.bool c, .slice sa sz.length sc, .slice da dz.length dc], .nilIface, .agg #[.bool c, .slice sa' sz'.length sc', .slice da' dz'.length dc'], .nilIface] w fun r w' => r = .returned (.bool true) ∧ Below w.heap.size w w' := by
  subst es ed
  have HI : Hid ((IsInts w.heap.size w sa sz' ∧ IsInts w.heap.size w da dz') ∧ (IsInts w.heap.size w sa' sz' ∧ IsInts w.heap.size w da' dz')) := ⟨⟨hs, hd⟩, hs', hd'⟩
  clear hs hd hs' hd'
  have hb : Hid (Below w.heap.size w ((w.alloc (.cells #[.bool c, .slice sa sz'.length sc, .slice da dz'.length dc] 24)).alloc (.cells #[.bool c, .slice sa' sz'.length sc', .slice da' dz'.length dc'] 24))) := ((Below.refl _ w).alloc (Nat.le_refl _) _).alloc (by simp) _
  go_enter Try.func11, Try.ntmps11
  go_wp2_with fail
  refine (sarr_any c c sa sc sz' da dc dz' sa' sc' sz' da' dc' dz' h1 h2 _ ((HI.out.1.1.below hb.out).mono hb.out.size) ((HI.out.1.2.below hb.out).mono hb.out.size) ((HI.out.2.1.below hb.out).mono hb.out.size) ((HI.out.2.2.below hb.out).mono hb.out.size)).mono ?_
  rintro r v1 ⟨rfl, hB⟩
  rw [arrB_self]
  have hb1 : Hid (Below w.heap.size w v1) := hb.out.trans (hB.mono hb.out.size)
  clear hB
  go_wp2_with fail
  go_ret
  exact ⟨rfl, hb1.out⟩
end Go.Proofs.Ytlflacoiidhgoaa
