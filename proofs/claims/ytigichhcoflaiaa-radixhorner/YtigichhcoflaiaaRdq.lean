/-
  What the program's functions on digits tell, in one form: Value and Digits.
-/
import Derived.Test.YtigichhcoflaiaaRadm
import Derived.Test.YtigichhcoflaiaaPrmv
namespace Go.Proofs.Ytigichhcoflaiaa
open Go.RowKit
set_option linter.unusedVariables false

/-- How bases and digits may be wrong. -/
def vaE (b d : List Int) : Int := if 4096 < b.length then 7 else if d.length ≠ b.length then 4 else 0
def dgE (b : List Int) : Int := if 4096 < b.length then 7 else 0
theorem vaE_zero {b d : List Int} : vaE b d = 0 ↔ b.length ≤ 4096 ∧ d.length = b.length := by
  unfold vaE
  by_cases h : 4096 < b.length
  · rw [if_pos h]; exact ⟨fun e => absurd e (by decide), fun e => by omega⟩
  · rw [if_neg h]
    by_cases h1 : d.length = b.length
    · rw [if_neg (not_not_intro h1)]; exact ⟨fun _ => ⟨by omega, h1⟩, fun _ => rfl⟩
    · rw [if_pos h1]; exact ⟨fun e => absurd e (by decide), fun e => absurd e.2 h1⟩
theorem dgE_zero {b : List Int} : dgE b = 0 ↔ b.length ≤ 4096 := by
  unfold dgE
  by_cases h : 4096 < b.length
  · rw [if_pos h]; exact ⟨fun e => absurd e (by decide), fun e => by omega⟩
  · rw [if_neg h]; exact ⟨fun _ => by omega, fun _ => rfl⟩
/-- The value, and the digits. -/
def vaV (b d : List Int) : Int := wrap64 (hv b d b.length)
def dgV (b : List Int) (n : Int) : List Int := dgL b b.length n
theorem dgV_length (b : List Int) (n : Int) : (dgV b n).length = b.length := dgL_length b b.length n
theorem vaV_in (b d : List Int) : In64 (vaV b d) := In64.w _
/-- The contract of radix.Value. -/
def CVa : Prop := ∀ (a : Option Addr) (cap : Nat) (b : List Int) (a' : Option Addr) (cap' : Nat) (d : List Int) (w : World), b.length ≤ 9223372036854775807 → d.length ≤ 9223372036854775807 → IsInts w.heap.size w a b → IsInts w.heap.size w a' d →
  Calls Try.prog 6 #[.slice a b.length cap, .slice a' d.length cap'] w (UZ (vaE b d) (onZ (vaE b d) (vaV b d)) w)
/-- The contract of radix.Digits. -/
def CDg : Prop := ∀ (a : Option Addr) (cap : Nat) (b : List Int) (n : Int) (w : World), b.length ≤ 9223372036854775807 → IsInts w.heap.size w a b → (∀ j, In64 (nth b j)) → In64 n →
  Calls Try.prog 8 #[.slice a b.length cap, .int .i64 n] w (UL (dgE b) (onL (dgE b) (dgV b n)) w)
theorem va_ok (a : Option Addr) (cap : Nat) (b : List Int) (l : Nat) (hl : b.length = l) (a' : Option Addr) (cap' : Nat) (d : List Int) (m : Nat) (hm : d.length = m) (w : World) (h1 : l ≤ 4096) (h2 : m = l) (hI : IsInts w.heap.size w a b) (hI' : IsInts w.heap.size w a' d) (x : Int) (H : CVa) (h : vaV b d = x) :
    Calls Try.prog 6 #[.slice a l cap, .slice a' m cap'] w (OkZ x w) := by
  subst hl hm
  exact (H a cap b a' cap' d w (by omega) (by omega) hI hI').mono fun r w' h' => UZ.ok ⟨vaE_zero.2 ⟨h1, h2⟩, h⟩ h'
theorem va_no (a : Option Addr) (cap : Nat) (b : List Int) (a' : Option Addr) (cap' : Nat) (d : List Int) (E : Int) (w : World) (h1 : b.length ≤ 9223372036854775807) (h2 : d.length ≤ 9223372036854775807) (hI : IsInts w.heap.size w a b) (hI' : IsInts w.heap.size w a' d) (H : CVa) (h : vaE b d = E) (h0 : E ≠ 0) :
    Calls Try.prog 6 #[.slice a b.length cap, .slice a' d.length cap'] w (NoZ E w) := by
  subst h
  exact (H a cap b a' cap' d w h1 h2 hI hI').mono fun r w' h' => UZ.no h0 h'
theorem dg_ok (a : Option Addr) (cap : Nat) (b : List Int) (l : Nat) (hl : b.length = l) (n : Int) (w : World) (h1 : l ≤ 4096) (hI : IsInts w.heap.size w a b) (T : ∀ j, In64 (nth b j)) (hn : In64 n) (L : List Int) (H : CDg) (h : dgV b n = L) :
    Calls Try.prog 8 #[.slice a l cap, .int .i64 n] w (OkL L w) := by
  subst hl
  exact (H a cap b n w (by omega) hI T hn).mono fun r w' h' => UL.ok ⟨dgE_zero.2 h1, h⟩ h'
theorem dg_no (a : Option Addr) (cap : Nat) (b : List Int) (n : Int) (E : Int) (w : World) (h1 : b.length ≤ 9223372036854775807) (hI : IsInts w.heap.size w a b) (T : ∀ j, In64 (nth b j)) (hn : In64 n) (H : CDg) (h : dgE b = E) (h0 : E ≠ 0) :
    Calls Try.prog 8 #[.slice a b.length cap, .int .i64 n] w (NoL E w) := by
  subst h
  exact (H a cap b n w h1 hI T hn).mono fun r w' h' => UL.no h0 h'
end Go.Proofs.Ytigichhcoflaiaa
