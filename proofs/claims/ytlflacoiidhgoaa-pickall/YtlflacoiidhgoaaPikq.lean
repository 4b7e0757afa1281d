/-
  What the program's At and Put tell, in one form.
-/
import Derived.Test.YtlflacoiidhgoaaCutq
import Derived.Test.YtlflacoiidhgoaaNmm
import Derived.Test.YtlflacoiidhgoaaPikl
namespace Go.Proofs.Ytlflacoiidhgoaa
open Go.RowKit
set_option linter.unusedVariables false

section
variable (c : Bool) (sz dz : List Int) (bys : List Ar) (c' : Bool) (sz' dz' : List Int)
def pkS7 : List Int := onl (pkE c sz dz bys) (pkS bys)
def pkD7 : List Int := onl (pkE c sz dz bys) (pkD sz dz bys)
def ptS7 : List Int := onl (ptE c sz dz bys c' sz' dz') sz
def ptD7 : List Int := onl (ptE c sz dz bys c' sz' dz') (ptV sz dz bys sz' dz')
theorem pk7_len : (pkS7 c sz dz bys).length ≤ 4096 ∧ (pkD7 c sz dz bys).length ≤ 4096 :=
  ⟨onl_le6 fun h => by have := (pk_len h).1; omega, onl_le6 fun h => (pk_len h).2⟩
theorem pt7_len : (ptS7 c sz dz bys c' sz' dz').length ≤ 4096 ∧ (ptD7 c sz dz bys c' sz' dz').length ≤ 4096 :=
  ⟨onl_le6 fun h => by have := (flawE_short (pkE_zero.1 (ptE_zero.1 h).1).1).1; omega, onl_le6 fun h => by rw [ptV_length]; exact (flawE_short (pkE_zero.1 (ptE_zero.1 h).1).1).2⟩
end
/-- The contract of pick.At. -/
def CAt : Prop := ∀ (c : Bool) (sa : Option Addr) (sc : Nat) (sz : List Int) (da : Option Addr) (dc : Nat) (dz : List Int) (ba : Option Addr) (bc : Nat) (bs : List ArV) (w : World), sz.length ≤ 9223372036854775807 → dz.length ≤ 9223372036854775807 → bs.length ≤ 9223372036854775807 → IsInts w.heap.size w sa sz → IsInts w.heap.size w da dz → IsAs w.heap.size w ba bs →
  Calls Try.prog 10 #[.agg #[.bool c, .slice sa sz.length sc, .slice da dz.length dc], .slice ba bs.length bc] w (UB (pkE c sz dz (bya bs)) (onc (pkE c sz dz (bya bs)) c) (pkS7 c sz dz (bya bs)) (pkD7 c sz dz (bya bs)) w)
/-- The contract of pick.Put. -/
def CPt : Prop := ∀ (c : Bool) (sa : Option Addr) (sc : Nat) (sz : List Int) (da : Option Addr) (dc : Nat) (dz : List Int) (ba : Option Addr) (bc : Nat) (bs : List ArV) (c' : Bool) (sa' : Option Addr) (sc' : Nat) (sz' : List Int) (da' : Option Addr) (dc' : Nat) (dz' : List Int) (w : World), sz.length ≤ 9223372036854775807 → dz.length ≤ 9223372036854775807 → bs.length ≤ 9223372036854775807 → sz'.length ≤ 9223372036854775807 → dz'.length ≤ 9223372036854775807 → IsInts w.heap.size w sa sz → IsInts w.heap.size w da dz → IsAs w.heap.size w ba bs → IsInts w.heap.size w sa' sz' → IsInts w.heap.size w da' dz' →
  Calls Try.prog 7 #[.agg #[.bool c, .slice sa sz.length sc, .slice da dz.length dc], .slice ba bs.length bc, .agg #[.bool c', .slice sa' sz'.length sc', .slice da' dz'.length dc']] w (UB (ptE c sz dz (bya bs) c' sz' dz') (onc (ptE c sz dz (bya bs) c' sz' dz') c) (ptS7 c sz dz (bya bs) c' sz' dz') (ptD7 c sz dz (bya bs) c' sz' dz') w)
end Go.Proofs.Ytlflacoiidhgoaa
