/-
  What the reference tells of an array's fault.
-/
import Derived.Deep.QuietTactic
import Derived.BigQuiet
import Derived.Test.YtgaelbgeoobgiaaDoorFault
import Derived.Test.YtgaelbgeoobgiaaDoorBase
namespace Go.Proofs.YtgaelbgeoobgiaaDoor
open Go.RowKit
set_option linter.unusedVariables false

set_option maxRecDepth 100000 in
set_option maxHeartbeats 1000000 in
theorem flaw_any (c : Bool) (sa : Option Addr) (sc : Nat) (sz : List Int) (da : Option Addr) (dc : Nat) (dz : List Int) (h1 : sz.length ≤ 9223372036854775807) (h2 : dz.length ≤ 9223372036854775807) (w : World) (hs : IsInts w.heap.size w sa sz) (hd : IsInts w.heap.size w da dz) :
    Calls Tryd.prog 29 #[.agg #[.bool c, .slice sa sz.length sc, .slice da dz.length dc]] w fun e w' => e = .returned (.int .i64 (flawE c sz dz)) ∧ Below w.heap.size w w' := by
  have hB0 : Below w.heap.size w (w.alloc (.cells #[.bool c, .slice sa sz.length sc, .slice da dz.length dc] 24)) := (Below.refl _ w).alloc (Nat.le_refl _) _
  have hs0 := hs.below hB0
  have hd0 := hd.below hB0
  have HB0 : Hid (Below w.heap.size w (w.alloc (.cells #[.bool c, .slice sa sz.length sc, .slice da dz.length dc] 24))) := hB0
  have HS0 : Hid (IsInts w.heap.size (w.alloc (.cells #[.bool c, .slice sa sz.length sc, .slice da dz.length dc] 24)) sa sz) := hs0
  have HD0 : Hid (IsInts w.heap.size (w.alloc (.cells #[.bool c, .slice sa sz.length sc, .slice da dz.length dc] 24)) da dz) := hd0
  clear hB0 hs0 hd0 hs hd
  by_cases he : errOf sz = 0
  · have HE : Hid (errOf sz = 0) := he
    by_cases hl : (dz.length : Int) = prod sz
    · have tl : ((dz.length : Int) != prod sz) = false := by simp [hl]
      have HL : Hid ((dz.length : Int) = prod sz) := hl
      clear he hl
      cases c
      · have HV : Hid (flawE false sz dz = 0) := by show _ = _; simp [flawE, HE.out, HL.out]
        go_enter Tryd.func29, Tryd.ntmps29
        go_wp2_with fail
        refine (fault_any sa sc sz h1 w.heap.size _ HS0.out).mono ?_
        rintro e w1 ⟨rfl, hw⟩
        subst hw
        rw [HE.out]
        go_wp2_with fail
        go_quiet (first | (go_at_call 34; refine Calls.quiet_of_same (cells_any sa sc sz h1 HE.out w.heap.size _ HS0.out)))
        go_wp2_with fail
        go_ret
        exact ⟨ret1 HV.out.symm, bel_drewN HB0.out _⟩
      · go_enter Tryd.func29, Tryd.ntmps29
        go_wp2_with fail
        refine (fault_any sa sc sz h1 w.heap.size _ HS0.out).mono ?_
        rintro e w1 ⟨rfl, hw⟩
        subst hw
        rw [HE.out]
        go_wp2_with fail
        go_quiet (first | (go_at_call 34; refine Calls.quiet_of_same (cells_any sa sc sz h1 HE.out w.heap.size _ HS0.out)))
        go_wp2_with fail
        go_loop [4] (fun i => ∃ k : Nat, k ≤ dz.length ∧ i = .int .i64 k ∧ Hid (chAll (dz.take k) = true)) (fun i => dz.length - (intOf i).toNat)
        case atStart => exact ⟨0, Nat.zero_le _, rfl, rfl⟩
        case round =>
          obtain ⟨k, hk, rfl, HA⟩ := hrel
          by_cases hlt : k < dz.length
          · obtain ⟨b, off, rfl, hb, hcell⟩ := HD0.out.at hlt
            have hc := hcell k hlt
            clear hcell
            rcases (by omega : nth dz k < 0 ∨ (0 ≤ nth dz k ∧ nth dz k < 55296) ∨ (55296 ≤ nth dz k ∧ nth dz k ≤ 57343) ∨ (57343 < nth dz k ∧ nth dz k ≤ 1114111) ∨ 1114111 < nth dz k) with hx | hx | hx | hx | hx
            · have q1 : decide (0 ≤ nth dz k) = false := by simp; omega
              have q2 : decide (nth dz k < 55296) = true := by simp; omega
              have q3 : decide (57343 < nth dz k) = false := by simp; omega
              have q4 : decide (nth dz k ≤ 1114111) = true := by simp; omega
              have HV : Hid (flawE true sz dz = 6) := by show _ = _; simp [flawE, HE.out, HL.out, chAll_bad hlt (show chOk (nth dz k) = false by unfold chOk; simp; omega)]
              clear hx
              go_wp2_with fail
              go_ret
              exact ⟨ret1 HV.out.symm, bel_drewN HB0.out _⟩
            · have q1 : decide (0 ≤ nth dz k) = true := by simp; omega
              have q2 : decide (nth dz k < 55296) = true := by simp; omega
              have q3 : decide (57343 < nth dz k) = false := by simp; omega
              have q4 : decide (nth dz k ≤ 1114111) = true := by simp; omega
              have HN : Hid (chAll (dz.take (k + 1)) = true) := chAll_snoc hlt HA.out (by unfold chOk; simp; omega)
              clear hx
              go_wp2_with fail
              go_round
              case rel => exact ⟨k + 1, by omega, by go_num, HN⟩
              case measure => simp [intOf]; omega
            · have q1 : decide (0 ≤ nth dz k) = true := by simp; omega
              have q2 : decide (nth dz k < 55296) = false := by simp; omega
              have q3 : decide (57343 < nth dz k) = false := by simp; omega
              have q4 : decide (nth dz k ≤ 1114111) = true := by simp; omega
              have HV : Hid (flawE true sz dz = 6) := by show _ = _; simp [flawE, HE.out, HL.out, chAll_bad hlt (show chOk (nth dz k) = false by unfold chOk; simp; omega)]
              clear hx
              go_wp2_with fail
              go_ret
              exact ⟨ret1 HV.out.symm, bel_drewN HB0.out _⟩
            · have q1 : decide (0 ≤ nth dz k) = true := by simp; omega
              have q2 : decide (nth dz k < 55296) = false := by simp; omega
              have q3 : decide (57343 < nth dz k) = true := by simp; omega
              have q4 : decide (nth dz k ≤ 1114111) = true := by simp; omega
              have HN : Hid (chAll (dz.take (k + 1)) = true) := chAll_snoc hlt HA.out (by unfold chOk; simp; omega)
              clear hx
              go_wp2_with fail
              go_round
              case rel => exact ⟨k + 1, by omega, by go_num, HN⟩
              case measure => simp [intOf]; omega
            · have q1 : decide (0 ≤ nth dz k) = true := by simp; omega
              have q2 : decide (nth dz k < 55296) = false := by simp; omega
              have q3 : decide (57343 < nth dz k) = true := by simp; omega
              have q4 : decide (nth dz k ≤ 1114111) = false := by simp; omega
              have HV : Hid (flawE true sz dz = 6) := by show _ = _; simp [flawE, HE.out, HL.out, chAll_bad hlt (show chOk (nth dz k) = false by unfold chOk; simp; omega)]
              clear hx
              go_wp2_with fail
              go_ret
              exact ⟨ret1 HV.out.symm, bel_drewN HB0.out _⟩
          · obtain rfl : k = dz.length := by omega
            have HV : Hid (flawE true sz dz = 0) := by
              have h := HA.out
              rw [List.take_length] at h
              show _ = _
              simp [flawE, HE.out, HL.out, h]
            clear hlt
            go_wp2_with fail
            go_ret
            exact ⟨ret1 HV.out.symm, bel_drewN HB0.out _⟩
    · have tl : ((dz.length : Int) != prod sz) = true := by simp [hl]
      have HV : Hid (flawE c sz dz = 4) := by show _ = _; simp [flawE, he, hl]
      clear he hl
      go_enter Tryd.func29, Tryd.ntmps29
      go_wp2_with fail
      refine (fault_any sa sc sz h1 w.heap.size _ HS0.out).mono ?_
      rintro e w1 ⟨rfl, hw⟩
      subst hw
      rw [HE.out]
      go_wp2_with fail
      go_quiet (first | (go_at_call 34; refine Calls.quiet_of_same (cells_any sa sc sz h1 HE.out w.heap.size _ HS0.out)))
      go_wp2_with fail
      go_ret
      exact ⟨ret1 HV.out.symm, bel_drewN HB0.out _⟩
  · have te : (errOf sz != 0) = true := by simp [he]
    have HV : Hid (flawE c sz dz = errOf sz) := by show _ = _; simp [flawE, he]
    clear he
    go_enter Tryd.func29, Tryd.ntmps29
    go_wp2_with fail
    refine (fault_any sa sc sz h1 w.heap.size _ HS0.out).mono ?_
    rintro e w1 ⟨rfl, hw⟩
    subst hw
    go_wp2_with fail
    go_ret
    exact ⟨ret1 HV.out.symm, HB0.out⟩
end Go.Proofs.YtgaelbgeoobgiaaDoor
