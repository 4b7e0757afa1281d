/-
  What the program's Outer and Inner tell, in one form.
-/
import Derived.Test.YtgaelbgeoobgiaaCutq
import Derived.Test.YtgaelbgeoobgiaaPrdn
namespace Go.Proofs.Ytgaelbgeoobgiaa
open Go.RowKit
set_option linter.unusedVariables false

section
variable (f g : Int) (c : Bool) (sz dz : List Int) (c' : Bool) (sz' dz' : List Int)
def otS13 : List Int := onl (otE f c sz dz c' sz' dz') (sz ++ sz')
def otD13 : List Int := onl (otE f c sz dz c' sz' dz') (otD f c sz dz c' sz' dz')
def niS13 : List Int := onl (inE f g c sz dz c' sz' dz') (inS sz sz')
def niD13 : List Int := onl (inE f g c sz dz c' sz' dz') (inD f g c sz dz c' sz' dz')
theorem ot13_len : (otS13 f c sz dz c' sz' dz').length ≤ 4096 ∧ (otD13 f c sz dz c' sz' dz').length ≤ 4096 :=
  ⟨onl_le6 fun h => (errS (otE_zero.1 h).2.2.1).1, onl_le6 fun h => by unfold otD; rw [TA_length]; exact (errS (otE_zero.1 h).2.2.1).2⟩
theorem ni13_len : (niS13 f g c sz dz c' sz' dz').length ≤ 4096 ∧ (niD13 f g c sz dz c' sz' dz').length ≤ 4096 :=
  ⟨onl_le6 fun h => (errS (inE_zero.1 h).2.2.2.2.1).1, onl_le6 fun h => by unfold inD; rw [TA_length]; exact (errS (inE_zero.1 h).2.2.2.2.1).2⟩
end
/-- The contract of prod.Inner. -/
def CNi : Prop := ∀ (f g : Int) (c : Bool) (sa : Option Addr) (sc : Nat) (sz : List Int) (da : Option Addr) (dc : Nat) (dz : List Int) (c' : Bool) (sa' : Option Addr) (sc' : Nat) (sz' : List Int) (da' : Option Addr) (dc' : Nat) (dz' : List Int) (w : World), In64 f → In64 g → sz.length ≤ 9223372036854775807 → dz.length ≤ 9223372036854775807 → sz'.length ≤ 9223372036854775807 → dz'.length ≤ 9223372036854775807 → IsC w.heap.size w sa sz sc → IsInts w.heap.size w da dz → IsC w.heap.size w sa' sz' sc' → IsInts w.heap.size w da' dz' → (∀ j, In64 (nth dz j)) → (∀ j, In64 (nth dz' j)) →
  Calls Try.prog 10 #[.int .i64 f, .int .i64 g, .agg #[.bool c, .slice sa sz.length sc, .slice da dz.length dc], .agg #[.bool c', .slice sa' sz'.length sc', .slice da' dz'.length dc']] w (UB (inE f g c sz dz c' sz' dz') false (niS13 f g c sz dz c' sz' dz') (niD13 f g c sz dz c' sz' dz') w)
theorem ub13_no {e : Int} {S D : List Int} {w w' : World} {e' : Int} (h : e = e') (h0 : e' ≠ 0) (hB : Below w.heap.size w w') : UB e false (onl e S) (onl e D) w (.returned (.tuple #[.agg #[.bool false, .slice none 0 0, .slice none 0 0], .iface 76 (.int .i64 e')])) w' := by
  subst h
  rw [onl_no h0, onl_no h0]
  exact ⟨none, 0, none, 0, by rw [errV_pos h0]; rfl, ⟨.inl rfl, Nat.le_refl _⟩, ⟨.inl rfl, Nat.le_refl _⟩, hB⟩
theorem ub13_ok {e : Int} {S D : List Int} {n m : Nat} {w w' : World} {xa : Option Addr} {xc : Nat} {ya : Option Addr} {yc : Nat} (h : e = 0) (hn : S.length = n) (hm : D.length = m) (hX : NewC w.heap.size w' xa S xc) (hY : NewC w.heap.size w' ya D yc) (hB : Below w.heap.size w w') :
    UB e false (onl e S) (onl e D) w (.returned (.tuple #[.agg #[.bool false, .slice xa n xc, .slice ya m yc], .nilIface])) w' := by
  subst h hn hm
  exact ⟨xa, xc, ya, yc, rfl, hX, hY, hB⟩
end Go.Proofs.Ytgaelbgeoobgiaa
