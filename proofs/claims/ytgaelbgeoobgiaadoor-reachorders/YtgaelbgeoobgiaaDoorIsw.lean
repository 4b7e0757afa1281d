/-
  The statements' own question: has a call told what the document does?
-/
import Derived.Test.YtgaelbgeoobgiaaDoorErr
import Derived.Test.YtgaelbgeoobgiaaDoorSarr
import Derived.Test.YtgaelbgeoobgiaaDoorTurnq
namespace Go.Proofs.YtgaelbgeoobgiaaDoor
open Go.RowKit
set_option linter.unusedVariables false

theorem onl_le {e : Int} {xs : List Int} {n : Nat} (h : e = 0 → xs.length ≤ n) : (onl e xs).length ≤ n := by
  unfold onl
  split
  · rename_i q; exact h q
  · simp
theorem ax5_len (x n : Int) (c : Bool) (sz dz : List Int) : (axS5 x c sz dz).length ≤ 4096 ∧ (rvD5 x c sz dz).length ≤ 4096 ∧ (rtD5 x n c sz dz).length ≤ 4096 := by
  have k : axE x c sz dz = 0 → sz.length ≤ 4096 ∧ (prod sz).toNat ≤ 4096 := fun h => by
    have hf := (axE_zero.1 h).1
    have h6 := flawE_short hf
    have := (flawE_zero hf).2.1
    omega
  exact ⟨onl_le fun h => (k h).1, onl_le fun h => by rw [GA_length]; exact (k h).2, onl_le fun h => by rw [GA_length]; exact (k h).2⟩
theorem fl5_len (p : List Int) (c : Bool) (sz dz : List Int) : (flS5 p c sz dz).length ≤ 4096 ∧ (flD5 p c sz dz).length ≤ 4096 := by
  have k : flE p c sz dz = 0 → (axVal sz p).length ≤ 4096 ∧ (prod (axVal sz p)).toNat ≤ 4096 := fun h => by
    obtain ⟨hf, hl, ho⟩ := flE_zero.1 h
    have h6 := flawE_short hf
    have h7 := (flawE_zero hf).2.1
    have ha := axVal_spec (axErr_zero.2 ⟨(flawE_zero hf).1, hl, ho⟩)
    have := ax_prod ho hl ha
    have := ha.1
    omega
  exact ⟨onl_le fun h => (k h).1, onl_le fun h => by rw [GA_length]; exact (k h).2⟩
set_option maxRecDepth 100000 in
set_option maxHeartbeats 4000000 in
theorem is_same (e : Int) (c : Bool) (S D : List Int) (xa : Option Addr) (xc : Nat) (ya : Option Addr) (yc : Nat) (ta : Option Addr) (tc : Nat) (ua : Option Addr) (uc : Nat) (h1 : S.length ≤ 9223372036854775807) (h2 : D.length ≤ 9223372036854775807) (w : World) (hg : HasErr w)
    (hx : IsInts w.heap.size w xa S) (hy : IsInts w.heap.size w ya D) (ht : IsInts w.heap.size w ta S) (hu : IsInts w.heap.size w ua D) :
    Calls Tryd.prog 11 #[.agg #[.bool c, .slice xa S.length xc, .slice ya D.length yc], errV e, .agg #[.bool c, .slice ta S.length tc, .slice ua D.length uc], .int .i64 e] w fun r w' => r = .returned (.bool true) ∧ Below w.heap.size w w' := by
  have HI : Hid ((IsInts w.heap.size w xa S ∧ IsInts w.heap.size w ya D) ∧ (IsInts w.heap.size w ta S ∧ IsInts w.heap.size w ua D)) := ⟨⟨hx, hy⟩, ht, hu⟩
  clear hx hy ht hu
  have hb : Hid (Below w.heap.size w ((w.alloc (.cells #[.bool c, .slice xa S.length xc, .slice ya D.length yc] 24)).alloc (.cells #[.bool c, .slice ta S.length tc, .slice ua D.length uc] 24))) := ((Below.refl _ w).alloc (Nat.le_refl _) _).alloc (by simp) _
  have p1 := (Abx.new w (.bool c) (.slice xa S.length xc) (.slice ya D.length yc)).al (.cells #[.bool c, .slice ta S.length tc, .slice ua D.length uc] 24)
  have p2 := Abx.new1 w (.cells #[.bool c, .slice xa S.length xc, .slice ya D.length yc] 24) (.bool c) (.slice ta S.length tc) (.slice ua D.length uc)
  replace hg := (hg.al (.cells #[.bool c, .slice xa S.length xc, .slice ya D.length yc] 24)).al (.cells #[.bool c, .slice ta S.length tc, .slice ua D.length uc] 24)
  go_enter Tryd.func11, Tryd.ntmps11
  go_wp2_with fail
  refine (error_same e _ hg).mono ?_
  rintro r v1 ⟨rfl, hB⟩
  replace hb : Hid (Below w.heap.size w v1) := hb.out.trans (hB.mono hb.out.size)
  replace p1 := p1.go hB
  replace p2 := p2.go hB
  clear hg hB
  have a0 := p1.c0
  have a1 := p1.c1
  have a2 := p1.c2
  have b0 := p2.c0
  have b1 := p2.c1
  have b2 := p2.c2
  go_wp2_with fail
  refine (sarr_any c c xa xc S ya yc D ta tc S ua uc D h1 h2 v1 ((HI.out.1.1.below hb.out).mono hb.out.size) ((HI.out.1.2.below hb.out).mono hb.out.size) ((HI.out.2.1.below hb.out).mono hb.out.size) ((HI.out.2.2.below hb.out).mono hb.out.size)).mono ?_
  rintro r v2 ⟨rfl, hB⟩
  rw [arrB_self]
  have hb2 : Hid (Below w.heap.size w v2) := hb.out.trans (hB.mono hb.out.size)
  clear hB
  go_wp2_with fail
  go_ret
  exact ⟨rfl, hb2.out⟩
end Go.Proofs.YtgaelbgeoobgiaaDoor
