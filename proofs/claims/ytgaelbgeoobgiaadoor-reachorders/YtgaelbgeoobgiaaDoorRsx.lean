/-
  The statements' own words on answers, and the reference's word on an array that should be a relation.
-/
import Derived.Test.YtgaelbgeoobgiaaDoorRrf
import Derived.Test.YtgaelbgeoobgiaaDoorIsw
import Derived.Test.YtgaelbgeoobgiaaDoorBase
import Derived.Test.YtgaelbgeoobgiaaDoorErr
namespace Go.Proofs.YtgaelbgeoobgiaaDoor
open Go.RowKit
set_option linter.unusedVariables false

theorem rfault_ok (n : Nat) (hn : n ≤ 24) (sa : Option Addr) (sc : Nat) (da : Option Addr) (dc : Nat) (dz : List Int) (m : Nat) (hm : dz.length = m) (hl : dz.length = n * n) (hk : mskB dz = true) (w : World) (hs : IsInts w.heap.size w sa [(n : Int), (n : Int)]) (hd : IsInts w.heap.size w da dz) :
    Calls Tryd.prog 6 #[.agg #[.bool false, .slice sa 2 sc, .slice da m dc]] w fun e w' => e = .returned (.int .i64 0) ∧ Below w.heap.size w w' := by
  have h576 : n * n ≤ 24 * 24 := Nat.mul_le_mul hn hn
  have h := rfault_any false sa sc [(n : Int), (n : Int)] da dc dz w (by simp) (by omega) hs hd
  rw [rl_of n hn dz hl hk, hm] at h
  exact h
theorem rfault_no (c : Bool) (sa : Option Addr) (sc : Nat) (sz : List Int) (da : Option Addr) (dc : Nat) (dz : List Int) (E : Int) (hE : rlE c sz dz = E) (w : World) (h1 : sz.length ≤ 9223372036854775807) (h2 : dz.length ≤ 9223372036854775807) (hs : IsInts w.heap.size w sa sz) (hd : IsInts w.heap.size w da dz) :
    Calls Tryd.prog 6 #[.agg #[.bool c, .slice sa sz.length sc, .slice da dz.length dc]] w fun e w' => e = .returned (.int .i64 E) ∧ Below w.heap.size w w' := by
  subst hE
  exact rfault_any c sa sc sz da dc dz w h1 h2 hs hd
theorem is_ok15 (n N : Nat) (D : List Int) (hD : D.length = N) (hN : N ≤ 576) (xa : Option Addr) (xc : Nat) (ya : Option Addr) (yc : Nat) (ta : Option Addr) (tc : Nat) (ua : Option Addr) (uc : Nat) (w : World) (hg : HasErr w)
    (hx : IsInts w.heap.size w xa [(n : Int), (n : Int)]) (hy : IsInts w.heap.size w ya D) (ht : IsInts w.heap.size w ta [(n : Int), (n : Int)]) (hu : IsInts w.heap.size w ua D) :
    Calls Tryd.prog 11 #[.agg #[.bool false, .slice xa 2 xc, .slice ya N yc], .nilIface, .agg #[.bool false, .slice ta 2 tc, .slice ua N uc], .int .i64 0] w fun r w' => r = .returned (.bool true) ∧ Below w.heap.size w w' := by
  subst hD
  exact is_same 0 false [(n : Int), (n : Int)] D xa xc ya yc ta tc ua uc (by simp) (by omega) w hg hx hy ht hu
theorem is_no15 (e : Int) (he : e ≠ 0) (w : World) (hg : HasErr w) :
    Calls Tryd.prog 11 #[.agg #[.bool false, .slice none 0 0, .slice none 0 0], .iface 25 (.int .i64 e), .agg #[.bool false, .slice none 0 0, .slice none 0 0], .int .i64 e] w fun r w' => r = .returned (.bool true) ∧ Below w.heap.size w w' := by
  have h := is_same e false [] [] none 0 none 0 none 0 none 0 (by simp) (by simp) w hg (.inl rfl) (.inl rfl) (.inl rfl) (.inl rfl)
  rw [errV_pos he] at h
  exact h
set_option maxRecDepth 100000 in
set_option maxHeartbeats 1000000 in
theorem ints_same15 (e : Int) (a : Option Addr) (cap : Nat) (zs : List Int) (l : Nat) (hl : zs.length = l) (b : Option Addr) (bap : Nat) (w : World) (hg : HasErr w) (h1 : l ≤ 9223372036854775807) (hs : IsInts w.heap.size w a zs) (hd : IsInts w.heap.size w b zs) :
    Calls Tryd.prog 13 #[.slice a l cap, errV e, .slice b l bap, .int .i64 e] w fun r w' => r = .returned (.bool true) ∧ Below w.heap.size w w' := by
  subst hl
  have HI : Hid (IsInts w.heap.size w a zs ∧ IsInts w.heap.size w b zs) := ⟨hs, hd⟩
  clear hs hd
  go_enter Tryd.func13, Tryd.ntmps13
  go_wp2_with fail
  refine (error_same e w hg).mono ?_
  rintro r w1 ⟨rfl, hB⟩
  have HB : Hid (Below w.heap.size w w1) := hB
  clear hB hg
  go_wp2_with fail
  refine (ints_any a cap zs b bap zs h1 _ w1 ((HI.out.1.below HB.out).mono HB.out.size) ((HI.out.2.below HB.out).mono HB.out.size)).mono ?_
  rintro r w2 ⟨rfl, hB2⟩
  rw [eqB_true rfl]
  go_wp2_with fail
  go_ret
  exact ⟨rfl, HB.out.trans (hB2.mono HB.out.size)⟩
theorem ints_ok15 (L : List Int) (l : Nat) (hl : L.length = l) (h7 : l ≤ 576) (a : Option Addr) (cap : Nat) (b : Option Addr) (bap : Nat) (w : World) (hg : HasErr w) (hs : IsInts w.heap.size w a L) (hd : IsInts w.heap.size w b L) :
    Calls Tryd.prog 13 #[.slice a l cap, .nilIface, .slice b l bap, .int .i64 0] w fun r w' => r = .returned (.bool true) ∧ Below w.heap.size w w' := ints_same15 0 a cap L l hl b bap w hg (by omega) hs hd
theorem ints_no15 (e : Int) (he : e ≠ 0) (w : World) (hg : HasErr w) :
    Calls Tryd.prog 13 #[.slice none 0 0, .iface 25 (.int .i64 e), .slice none 0 0, .int .i64 e] w fun r w' => r = .returned (.bool true) ∧ Below w.heap.size w w' := by
  have h := ints_same15 e none 0 [] 0 rfl none 0 w hg (by omega) (.inl rfl) (.inl rfl)
  rw [errV_pos he] at h
  exact h
theorem err_ok15 (w : World) (hg : HasErr w) : Calls Tryd.prog 23 #[.nilIface, .int .i64 0] w fun e w' => e = .returned (.bool true) ∧ Below w.heap.size w w' := error_same 0 w hg
theorem err_no15 (e : Int) (he : e ≠ 0) (w : World) (hg : HasErr w) : Calls Tryd.prog 23 #[.iface 25 (.int .i64 e), .int .i64 e] w fun r w' => r = .returned (.bool true) ∧ Below w.heap.size w w' := by
  have h := error_same e w hg
  rw [errV_pos he] at h
  exact h
end Go.Proofs.YtgaelbgeoobgiaaDoor
