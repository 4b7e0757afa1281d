/-
  What the program tells of an array's fault.
-/
import Derived.Test.YthmiaiephkcdfaaHelp
import Derived.Test.YthmiaiephkcdfaaArro
import Derived.Test.YthmiaiephkcdfaaChars
namespace Go.Proofs.Ythmiaiephkcdfaa
open Go.RowKit
set_option linter.unusedVariables false

theorem flawE_shape {c : Bool} {sz dz : List Int} (h : errOf sz ≠ 0) : flawE c sz dz = errOf sz := by simp [flawE, h]
theorem flawE_len {c : Bool} {sz dz : List Int} (h : errOf sz = 0) (hl : (dz.length : Int) ≠ prod sz) : flawE c sz dz = 4 := by simp [flawE, h, hl]
theorem flawE_char {sz dz : List Int} (h : errOf sz = 0) (hl : (dz.length : Int) = prod sz) (hc : chAll dz = false) : flawE true sz dz = 6 := by simp [flawE, h, hl, hc]
theorem flawE_okc {sz dz : List Int} (h : errOf sz = 0) (hl : (dz.length : Int) = prod sz) (hc : chAll dz = true) : flawE true sz dz = 0 := by simp [flawE, h, hl, hc]
theorem flawE_okn {sz dz : List Int} (h : errOf sz = 0) (hl : (dz.length : Int) = prod sz) : flawE false sz dz = 0 := by simp [flawE, h, hl]
theorem flawE_zero {c : Bool} {sz dz : List Int} (h : flawE c sz dz = 0) : errOf sz = 0 ∧ (dz.length : Int) = prod sz ∧ (c = true → chAll dz = true) := by
  unfold flawE at h
  split at h
  · rename_i h1; exact absurd h h1
  · rename_i h1
    split at h
    · cases h
    · rename_i h2
      split at h
      · cases h
      · rename_i h3
        refine ⟨by omega, by omega, fun hc => ?_⟩
        cases hx : chAll dz
        · exact absurd ⟨hc, hx⟩ h3
        · rfl
theorem flawE_short {c : Bool} {sz dz : List Int} (h : flawE c sz dz = 0) : sz.length ≤ 6 ∧ dz.length ≤ 4096 := by
  obtain ⟨h1, h2, _⟩ := flawE_zero h
  have := errOf_zero.1 h1
  omega
/-- An error that is told by its value. -/
theorem ret_err {e : Int} {v : Value} (h : errV e = v) : Ending.returned v = .returned (errV e) := by rw [h]
set_option maxRecDepth 100000 in
set_option maxHeartbeats 1000000 in
theorem check_any (c : Bool) (sa : Option Addr) (sc : Nat) (sz : List Int) (da : Option Addr) (dc : Nat) (dz : List Int) (h1 : sz.length ≤ 9223372036854775807) (h2 : dz.length ≤ 9223372036854775807) (w : World) (hs : IsInts w.heap.size w sa sz) (hd : IsInts w.heap.size w da dz) :
    Calls Try.prog 8 #[.agg #[.bool c, .slice sa sz.length sc, .slice da dz.length dc]] w fun e w' => e = .returned (errV (flawE c sz dz)) ∧ Below w.heap.size w w' := by
  have HB0 : Hid (Below w.heap.size w (w.alloc (.cells #[.bool c, .slice sa sz.length sc, .slice da dz.length dc] 24))) := (Below.refl _ w).alloc (Nat.le_refl _) _
  have HI : Hid (IsInts w.heap.size w sa sz ∧ IsInts w.heap.size w da dz) := ⟨hs, hd⟩
  clear hs hd
  by_cases he : errOf sz = 0
  · have HE : Hid (errOf sz = 0) := he
    clear he
    by_cases hl : (dz.length : Int) = prod sz
    · have tl : ((dz.length : Int) != prod sz) = false := by simp [hl]
      have HL : Hid ((dz.length : Int) = prod sz) := hl
      clear hl
      cases c
      · have HV : Hid (errV (flawE false sz dz) = .nilIface) := by show _ = _; rw [flawE_okn HE.out HL.out]; rfl
        go_enter Try.func8, Try.ntmps8
        go_wp2_with fail
        refine (count_ok sa sc sz h1 _ ((HI.out.1.below HB0.out).mono HB0.out.size) HE.out).mono ?_
        rintro e w1 ⟨rfl, hC1⟩
        have hB1 : Below w.heap.size w w1 := HB0.out.trans (hC1.mono HB0.out.size)
        have c0 : w1.cell? ⟨w.heap.size, 0, none⟩ = some (.bool false) := (hC1.cell (p := ⟨w.heap.size, 0, none⟩) (by simp)).trans (by simp)
        have c2 : w1.cell? ⟨w.heap.size, 2, none⟩ = some (.slice da dz.length dc) := (hC1.cell (p := ⟨w.heap.size, 2, none⟩) (by simp)).trans (by simp)
        have HB1 : Hid (Below w.heap.size w w1) := hB1
        clear hB1 hC1
        go_wp2_with fail
        go_ret
        exact ⟨ret_err HV.out, HB1.out⟩
      · go_enter Try.func8, Try.ntmps8
        go_wp2_with fail
        refine (count_ok sa sc sz h1 _ ((HI.out.1.below HB0.out).mono HB0.out.size) HE.out).mono ?_
        rintro e w1 ⟨rfl, hC1⟩
        have hB1 : Below w.heap.size w w1 := HB0.out.trans (hC1.mono HB0.out.size)
        have c0 : w1.cell? ⟨w.heap.size, 0, none⟩ = some (.bool true) := (hC1.cell (p := ⟨w.heap.size, 0, none⟩) (by simp)).trans (by simp)
        have c2 : w1.cell? ⟨w.heap.size, 2, none⟩ = some (.slice da dz.length dc) := (hC1.cell (p := ⟨w.heap.size, 2, none⟩) (by simp)).trans (by simp)
        have HB1 : Hid (Below w.heap.size w w1) := hB1
        clear hB1 hC1
        go_wp2_with fail
        refine (chars_any da dc dz h2 w.heap.size _ (HI.out.2.below HB1.out)).mono ?_
        rintro e w2 ⟨rfl, rfl⟩
        cases hx : chAll dz
        · have HV : Hid (errV (flawE true sz dz) = .iface 46 (.int .i64 6)) := by show _ = _; rw [flawE_char HE.out HL.out hx]; rfl
          go_wp2_with fail
          go_ret
          exact ⟨ret_err HV.out, HB1.out⟩
        · have HV : Hid (errV (flawE true sz dz) = .nilIface) := by show _ = _; rw [flawE_okc HE.out HL.out hx]; rfl
          go_wp2_with fail
          go_ret
          exact ⟨ret_err HV.out, HB1.out⟩
    · have tl : ((dz.length : Int) != prod sz) = true := by simp [hl]
      have HV : Hid (errV (flawE c sz dz) = .iface 46 (.int .i64 4)) := by show _ = _; rw [flawE_len HE.out hl]; rfl
      clear hl
      go_enter Try.func8, Try.ntmps8
      go_wp2_with fail
      refine (count_ok sa sc sz h1 _ ((HI.out.1.below HB0.out).mono HB0.out.size) HE.out).mono ?_
      rintro e w1 ⟨rfl, hC1⟩
      have hB1 : Below w.heap.size w w1 := HB0.out.trans (hC1.mono HB0.out.size)
      have c2 : w1.cell? ⟨w.heap.size, 2, none⟩ = some (.slice da dz.length dc) := (hC1.cell (p := ⟨w.heap.size, 2, none⟩) (by simp)).trans (by simp)
      have HB1 : Hid (Below w.heap.size w w1) := hB1
      clear hB1 hC1
      go_wp2_with fail
      go_ret
      exact ⟨ret_err HV.out, HB1.out⟩
  · have HE : Hid (errOf sz ≠ 0) := he
    have HV : Hid (errV (flawE c sz dz) = .iface 46 (.int .i64 (errOf sz))) := by show _ = _; rw [flawE_shape he, errV_pos he]
    clear he
    go_enter Try.func8, Try.ntmps8
    go_wp2_with fail
    refine (count_no sa sc sz h1 _ ((HI.out.1.below HB0.out).mono HB0.out.size) HE.out).mono ?_
    rintro e w1 ⟨rfl, hC1⟩
    have HB1 : Hid (Below w.heap.size w w1) := HB0.out.trans (hC1.mono HB0.out.size)
    clear hC1
    go_wp2_with fail
    go_ret
    exact ⟨ret_err HV.out, HB1.out⟩
theorem check_ok (c : Bool) (sa : Option Addr) (sc : Nat) (sz : List Int) (da : Option Addr) (dc : Nat) (dz : List Int) (h1 : sz.length ≤ 9223372036854775807) (h2 : dz.length ≤ 9223372036854775807) (w : World) (hs : IsInts w.heap.size w sa sz) (hd : IsInts w.heap.size w da dz) (h : flawE c sz dz = 0) :
    Calls Try.prog 8 #[.agg #[.bool c, .slice sa sz.length sc, .slice da dz.length dc]] w fun e w' => e = .returned .nilIface ∧ Below w.heap.size w w' :=
  (check_any c sa sc sz da dc dz h1 h2 w hs hd).mono fun e w' ⟨e1, e2⟩ => ⟨by rw [e1, h]; rfl, e2⟩
theorem check_no (c : Bool) (sa : Option Addr) (sc : Nat) (sz : List Int) (da : Option Addr) (dc : Nat) (dz : List Int) (h1 : sz.length ≤ 9223372036854775807) (h2 : dz.length ≤ 9223372036854775807) (w : World) (hs : IsInts w.heap.size w sa sz) (hd : IsInts w.heap.size w da dz) (h : flawE c sz dz ≠ 0) :
    Calls Try.prog 8 #[.agg #[.bool c, .slice sa sz.length sc, .slice da dz.length dc]] w fun e w' => e = .returned (.iface 46 (.int .i64 (flawE c sz dz))) ∧ Below w.heap.size w w' :=
  (check_any c sa sc sz da dc dz h1 h2 w hs hd).mono fun e w' ⟨e1, e2⟩ => ⟨by rw [e1, errV_pos h], e2⟩
end Go.Proofs.Ythmiaiephkcdfaa
