/-
  What the walk of GradeRises takes besides.
-/
import Derived.Test.YteddkfeiikdekaaGrdw
import Derived.Test.YteddkfeiikdekaaRrow
import Derived.Test.YteddkfeiikdekaaRcmp
import Derived.Test.YteddkfeiikdekaaPerm
namespace Go.Proofs.Yteddkfeiikdekaa
open Go.RowKit
set_option linter.unusedVariables false

theorem perm_ok10 (a : Option Addr) (cap : Nat) (ps : List Int) (l : Nat) (hl : ps.length = l) (h : l ≤ 9223372036854775807) (w : World) (hI : IsInts w.heap.size w a ps) (ho : IsOrd ps) :
    Calls Try.prog 10 #[.slice a l cap] w fun e w' => e = .returned (.bool true) ∧ Below w.heap.size w w' := by
  subst hl
  exact (perm_any a cap ps h _ w hI).mono fun e w' ⟨h1, h2⟩ => ⟨by rw [h1, (ordB_iff ps).2 ho], h2⟩
theorem cmp_l (a : Option Addr) (cap : Nat) (p : List Int) (l : Nat) (hp : p.length = l) (b : Option Addr) (bap : Nat) (q : List Int) (m : Nat) (hq : q.length = m) (C : Int) (hC : cmpL p q = C) (hlm : l = m) (h : l ≤ 9223372036854775807) (n₀ : Nat) (w : World) (hI : IsInts n₀ w a p) (hI' : IsInts n₀ w b q) :
    Calls Try.prog 12 #[.slice a l cap, .slice b m bap] w fun e w' => e = .returned (.int .i64 C) ∧ Below w.heap.size w w' := by
  subst hp hq hC
  exact cmp_any a cap p b bap q hlm h n₀ w hI hI'
/-- Rows that follow one another in the order. -/
theorem gd_rise {sz dz : List Int} {k : Nat} (hk : k + 1 < nR sz) : cmpL (rwL dz (lR sz dz) (nth (gdO false sz dz) k).toNat) (rwL dz (lR sz dz) (nth (gdO false sz dz) (k + 1)).toNat) < 0 ∨ (cmpL (rwL dz (lR sz dz) (nth (gdO false sz dz) k).toNat) (rwL dz (lR sz dz) (nth (gdO false sz dz) (k + 1)).toNat) = 0 ∧ (nth (gdO false sz dz) k).toNat < (nth (gdO false sz dz) (k + 1)).toNat) := by
  have h := grd_rises (ltR_tot (dn := false) (lR_le sz dz)) (show k < k + 1 by omega) hk
  rw [ltR_iff] at h
  simp only [cmR, Bool.false_eq_true, if_false] at h
  exact h
end Go.Proofs.Yteddkfeiikdekaa
