/-
  What the program's Index, In, Nub, Without, Meet and Union tell, in one form.
-/
import Derived.Test.YteieliajdfbipaaCutq
import Derived.Test.YteieliajdfbipaaSekm
namespace Go.Proofs.Yteieliajdfbipaa
open Go.RowKit
set_option linter.unusedVariables false

/-- The contract of seek.Index. -/
def CIx : Prop := ∀ (c : Bool) (sa : Option Addr) (sc : Nat) (sz : List Int) (da : Option Addr) (dc : Nat) (dz : List Int) (c' : Bool) (sa' : Option Addr) (sc' : Nat) (sz' : List Int) (da' : Option Addr) (dc' : Nat) (dz' : List Int) (w : World), sz.length ≤ 9223372036854775807 → dz.length ≤ 9223372036854775807 → sz'.length ≤ 9223372036854775807 → dz'.length ≤ 9223372036854775807 → IsInts w.heap.size w sa sz → IsInts w.heap.size w da dz → IsInts w.heap.size w sa' sz' → IsInts w.heap.size w da' dz' → (∀ j, In64 (nth dz j)) → (∀ j, In64 (nth dz' j)) → 
  Calls Try.prog 6 #[.agg #[.bool c, .slice sa sz.length sc, .slice da dz.length dc], .agg #[.bool c', .slice sa' sz'.length sc', .slice da' dz'.length dc']] w (UB (ixE c sz dz c' sz' dz') (onc (ixE c sz dz c' sz' dz') false) (onl (ixE c sz dz c' sz' dz') (sz')) (onl (ixE c sz dz c' sz' dz') (ixD c dz c' dz')) w)
/-- The contract of seek.In. -/
def CIn : Prop := ∀ (c : Bool) (sa : Option Addr) (sc : Nat) (sz : List Int) (da : Option Addr) (dc : Nat) (dz : List Int) (c' : Bool) (sa' : Option Addr) (sc' : Nat) (sz' : List Int) (da' : Option Addr) (dc' : Nat) (dz' : List Int) (w : World), sz.length ≤ 9223372036854775807 → dz.length ≤ 9223372036854775807 → sz'.length ≤ 9223372036854775807 → dz'.length ≤ 9223372036854775807 → IsInts w.heap.size w sa sz → IsInts w.heap.size w da dz → IsInts w.heap.size w sa' sz' → IsInts w.heap.size w da' dz' → (∀ j, In64 (nth dz j)) → (∀ j, In64 (nth dz' j)) → 
  Calls Try.prog 9 #[.agg #[.bool c, .slice sa sz.length sc, .slice da dz.length dc], .agg #[.bool c', .slice sa' sz'.length sc', .slice da' dz'.length dc']] w (UB (flawsE c sz dz c' sz' dz') (onc (flawsE c sz dz c' sz' dz') false) (onl (flawsE c sz dz c' sz' dz') (sz)) (onl (flawsE c sz dz c' sz' dz') (inD c dz c' dz')) w)
/-- The contract of seek.Nub. -/
def CNb : Prop := ∀ (c : Bool) (sa : Option Addr) (sc : Nat) (sz : List Int) (da : Option Addr) (dc : Nat) (dz : List Int) (w : World), sz.length ≤ 9223372036854775807 → dz.length ≤ 9223372036854775807 → IsInts w.heap.size w sa sz → IsInts w.heap.size w da dz → (∀ j, In64 (nth dz j)) → 
  Calls Try.prog 10 #[.agg #[.bool c, .slice sa sz.length sc, .slice da dz.length dc]] w (UB (nbE c sz dz) (onc (nbE c sz dz) c) (onl (nbE c sz dz) ([((nbL dz).length : Int)])) (onl (nbE c sz dz) (nbL dz)) w)
/-- The contract of seek.Without. -/
def CWo : Prop := ∀ (c : Bool) (sa : Option Addr) (sc : Nat) (sz : List Int) (da : Option Addr) (dc : Nat) (dz : List Int) (c' : Bool) (sa' : Option Addr) (sc' : Nat) (sz' : List Int) (da' : Option Addr) (dc' : Nat) (dz' : List Int) (w : World), sz.length ≤ 9223372036854775807 → dz.length ≤ 9223372036854775807 → sz'.length ≤ 9223372036854775807 → dz'.length ≤ 9223372036854775807 → IsInts w.heap.size w sa sz → IsInts w.heap.size w da dz → IsInts w.heap.size w sa' sz' → IsInts w.heap.size w da' dz' → (∀ j, In64 (nth dz j)) → (∀ j, In64 (nth dz' j)) → 
  Calls Try.prog 13 #[.agg #[.bool c, .slice sa sz.length sc, .slice da dz.length dc], .agg #[.bool c', .slice sa' sz'.length sc', .slice da' dz'.length dc']] w (UB (lsE c sz dz c' sz' dz') (onc (lsE c sz dz c' sz' dz') c) (onl (lsE c sz dz c' sz' dz') ([((shD c dz c' dz' false).length : Int)])) (onl (lsE c sz dz c' sz' dz') (shD c dz c' dz' false)) w)
/-- The contract of seek.Meet. -/
def CMt : Prop := ∀ (c : Bool) (sa : Option Addr) (sc : Nat) (sz : List Int) (da : Option Addr) (dc : Nat) (dz : List Int) (c' : Bool) (sa' : Option Addr) (sc' : Nat) (sz' : List Int) (da' : Option Addr) (dc' : Nat) (dz' : List Int) (w : World), sz.length ≤ 9223372036854775807 → dz.length ≤ 9223372036854775807 → sz'.length ≤ 9223372036854775807 → dz'.length ≤ 9223372036854775807 → IsInts w.heap.size w sa sz → IsInts w.heap.size w da dz → IsInts w.heap.size w sa' sz' → IsInts w.heap.size w da' dz' → (∀ j, In64 (nth dz j)) → (∀ j, In64 (nth dz' j)) → 
  Calls Try.prog 14 #[.agg #[.bool c, .slice sa sz.length sc, .slice da dz.length dc], .agg #[.bool c', .slice sa' sz'.length sc', .slice da' dz'.length dc']] w (UB (lsE c sz dz c' sz' dz') (onc (lsE c sz dz c' sz' dz') c) (onl (lsE c sz dz c' sz' dz') ([((shD c dz c' dz' true).length : Int)])) (onl (lsE c sz dz c' sz' dz') (shD c dz c' dz' true)) w)
/-- The contract of seek.Union. -/
def CUn : Prop := ∀ (c : Bool) (sa : Option Addr) (sc : Nat) (sz : List Int) (da : Option Addr) (dc : Nat) (dz : List Int) (c' : Bool) (sa' : Option Addr) (sc' : Nat) (sz' : List Int) (da' : Option Addr) (dc' : Nat) (dz' : List Int) (w : World), sz.length ≤ 9223372036854775807 → dz.length ≤ 9223372036854775807 → sz'.length ≤ 9223372036854775807 → dz'.length ≤ 9223372036854775807 → IsInts w.heap.size w sa sz → IsInts w.heap.size w da dz → IsInts w.heap.size w sa' sz' → IsInts w.heap.size w da' dz' → (∀ j, In64 (nth dz j)) → (∀ j, In64 (nth dz' j)) → 
  Calls Try.prog 12 #[.agg #[.bool c, .slice sa sz.length sc, .slice da dz.length dc], .agg #[.bool c', .slice sa' sz'.length sc', .slice da' dz'.length dc']] w (UB (unE c sz dz c' sz' dz') (onc (unE c sz dz c' sz' dz') c) (onl (unE c sz dz c' sz' dz') ([((unD c dz c' dz').length : Int)])) (onl (unE c sz dz c' sz' dz') (unD c dz c' dz')) w)
section
variable (c : Bool) (sz dz : List Int) (c' : Bool) (sz' dz' : List Int)
theorem ix8_len : (onl (ixE c sz dz c' sz' dz') sz').length ≤ 4096 ∧ (onl (ixE c sz dz c' sz' dz') (ixD c dz c' dz')).length ≤ 4096 :=
  ⟨onl_le6 fun h => by have := (flawE_short (ixE_zero.1 h).2.1).1; omega, onl_le6 fun h => by rw [ixD_length]; exact (flawE_short (ixE_zero.1 h).2.1).2⟩
theorem in8_len : (onl (flawsE c sz dz c' sz' dz') sz).length ≤ 4096 ∧ (onl (flawsE c sz dz c' sz' dz') (inD c dz c' dz')).length ≤ 4096 :=
  ⟨onl_le6 fun h => by have := (flawE_short (flawsE_zero.1 h).1).1; omega, onl_le6 fun h => by rw [inD_length]; exact (flawE_short (flawsE_zero.1 h).1).2⟩
theorem nb8_len : (onl (nbE c sz dz) [((nbL dz).length : Int)]).length ≤ 4096 ∧ (onl (nbE c sz dz) (nbL dz)).length ≤ 4096 :=
  ⟨onl_le6 fun h => by simp, onl_le6 fun h => Nat.le_trans nbL_le (flawE_short (nbE_zero.1 h).1).2⟩
theorem sh8_len (has : Bool) : (onl (lsE c sz dz c' sz' dz') [((shD c dz c' dz' has).length : Int)]).length ≤ 4096 ∧ (onl (lsE c sz dz c' sz' dz') (shD c dz c' dz' has)).length ≤ 4096 :=
  ⟨onl_le6 fun h => by simp, onl_le6 fun h => Nat.le_trans shD_le (flawE_short (lsE_zero.1 h).1).2⟩
theorem un8_len : (onl (unE c sz dz c' sz' dz') [((unD c dz c' dz').length : Int)]).length ≤ 4096 ∧ (onl (unE c sz dz c' sz' dz') (unD c dz c' dz')).length ≤ 4096 :=
  ⟨onl_le6 fun h => by simp, onl_le6 fun h => (unE_zero.1 h).2.2⟩
end
end Go.Proofs.Yteieliajdfbipaa
