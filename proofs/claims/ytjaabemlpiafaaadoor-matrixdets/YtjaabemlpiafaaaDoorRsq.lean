/-
  The statements' own words on answers that are matrices, and the reference's word on an array that should be one.
-/
import Derived.Test.YtjaabemlpiafaaaDoorRsf
import Derived.Test.YtjaabemlpiafaaaDoorIsw
namespace Go.Proofs.YtjaabemlpiafaaaDoor
open Go.RowKit
set_option linter.unusedVariables false

theorem sfault_ok (n : Nat) (hn : n ≤ 6) (sa : Option Addr) (sc : Nat) (da : Option Addr) (dc : Nat) (dz : List Int) (m : Nat) (hm : dz.length = m) (hl : dz.length = n * n) (w : World) (hs : IsInts w.heap.size w sa [(n : Int), (n : Int)]) (hd : IsInts w.heap.size w da dz) :
    Calls Tryd.prog 7 #[.agg #[.bool false, .slice sa 2 sc, .slice da m dc], .int .i64 6] w fun e w' => e = .returned (.int .i64 0) ∧ Below w.heap.size w w' := by
  have h36 : n * n ≤ 6 * 6 := Nat.mul_le_mul hn hn
  have h := sfault_any false sa sc [(n : Int), (n : Int)] da dc dz w (by simp) (by omega) hs hd
  rw [mx_of n hn dz hl, hm] at h
  exact h
theorem sfault_no (c : Bool) (sa : Option Addr) (sc : Nat) (sz : List Int) (da : Option Addr) (dc : Nat) (dz : List Int) (E : Int) (hE : mxE c sz dz = E) (w : World) (h1 : sz.length ≤ 9223372036854775807) (h2 : dz.length ≤ 9223372036854775807) (hs : IsInts w.heap.size w sa sz) (hd : IsInts w.heap.size w da dz) :
    Calls Tryd.prog 7 #[.agg #[.bool c, .slice sa sz.length sc, .slice da dz.length dc], .int .i64 6] w fun e w' => e = .returned (.int .i64 E) ∧ Below w.heap.size w w' := by
  subst hE
  exact sfault_any c sa sc sz da dc dz w h1 h2 hs hd
theorem is_ok14 (n N : Nat) (D : List Int) (hD : D.length = N) (hN : N ≤ 36) (xa : Option Addr) (xc : Nat) (ya : Option Addr) (yc : Nat) (ta : Option Addr) (tc : Nat) (ua : Option Addr) (uc : Nat) (w : World) (hg : HasErr w)
    (hx : IsInts w.heap.size w xa [(n : Int), (n : Int)]) (hy : IsInts w.heap.size w ya D) (ht : IsInts w.heap.size w ta [(n : Int), (n : Int)]) (hu : IsInts w.heap.size w ua D) :
    Calls Tryd.prog 17 #[.agg #[.bool false, .slice xa 2 xc, .slice ya N yc], .nilIface, .agg #[.bool false, .slice ta 2 tc, .slice ua N uc], .int .i64 0] w fun r w' => r = .returned (.bool true) ∧ Below w.heap.size w w' := by
  subst hD
  exact is_same 0 false [(n : Int), (n : Int)] D xa xc ya yc ta tc ua uc (by simp) (by omega) w hg hx hy ht hu
theorem is_no14 (e : Int) (he : e ≠ 0) (w : World) (hg : HasErr w) :
    Calls Tryd.prog 17 #[.agg #[.bool false, .slice none 0 0, .slice none 0 0], .iface 25 (.int .i64 e), .agg #[.bool false, .slice none 0 0, .slice none 0 0], .int .i64 e] w fun r w' => r = .returned (.bool true) ∧ Below w.heap.size w w' := by
  have h := is_same e false [] [] none 0 none 0 none 0 none 0 (by simp) (by simp) w hg (.inl rfl) (.inl rfl) (.inl rfl) (.inl rfl)
  rw [errV_pos he] at h
  exact h
end Go.Proofs.YtjaabemlpiafaaaDoor
