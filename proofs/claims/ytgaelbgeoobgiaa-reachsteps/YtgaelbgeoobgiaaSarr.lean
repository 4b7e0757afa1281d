/-
  Are two arrays the same? What the comparison of two arrays tells.
-/
import Derived.Test.YtgaelbgeoobgiaaBase
import Derived.Test.YtgaelbgeoobgiaaEachm
namespace Go.Proofs.Ytgaelbgeoobgiaa
open Go.RowKit
set_option linter.unusedVariables false

/-- An array's value. -/
def arrV (c : Bool) (sa : Option Addr) (sn sc : Nat) (da : Option Addr) (dn dc : Nat) : Value := .agg #[.bool c, .slice sa sn sc, .slice da dn dc]
set_option maxRecDepth 100000 in
set_option maxHeartbeats 1000000 in
theorem sarr_tt (sa : Option Addr) (sc : Nat) (sz : List Int) (da : Option Addr) (dc : Nat) (dz : List Int) (sa' : Option Addr) (sc' : Nat) (sz' : List Int) (da' : Option Addr) (dc' : Nat) (dz' : List Int)
    (h1 : sz.length ≤ 9223372036854775807) (h2 : dz.length ≤ 9223372036854775807) (w : World) (hs : IsInts w.heap.size w sa sz) (hd : IsInts w.heap.size w da dz) (hs' : IsInts w.heap.size w sa' sz') (hd' : IsInts w.heap.size w da' dz') :
    Calls Try.prog 19 #[.agg #[.bool true, .slice sa sz.length sc, .slice da dz.length dc], .agg #[.bool true, .slice sa' sz'.length sc', .slice da' dz'.length dc']] w fun e w' => e = .returned (.bool (eqB sz sz' && eqB dz dz')) ∧ Below w.heap.size w w' := by
  have hB0 : Below w.heap.size w ((w.alloc (.cells #[.bool true, .slice sa sz.length sc, .slice da dz.length dc] 24)).alloc (.cells #[.bool true, .slice sa' sz'.length sc', .slice da' dz'.length dc'] 24)) := ((Below.refl _ w).alloc (Nat.le_refl _) _).alloc (by simp) _
  have HB0 : Hid (Below w.heap.size w ((w.alloc (.cells #[.bool true, .slice sa sz.length sc, .slice da dz.length dc] 24)).alloc (.cells #[.bool true, .slice sa' sz'.length sc', .slice da' dz'.length dc'] 24))) := hB0
  have HI : Hid (IsInts w.heap.size w sa sz ∧ IsInts w.heap.size w da dz ∧ IsInts w.heap.size w sa' sz' ∧ IsInts w.heap.size w da' dz') := ⟨hs, hd, hs', hd'⟩
  clear hB0 hs hd hs' hd'
  go_enter Try.func19, Try.ntmps19
  go_wp2_with fail
  refine (ints_any sa sc sz sa' sc' sz' h1 w.heap.size _ (HI.out.1.below HB0.out) (HI.out.2.2.1.below HB0.out)).mono ?_
  rintro e w1 ⟨rfl, hC1⟩
  have hB1 : Below w.heap.size w w1 := HB0.out.trans (hC1.mono HB0.out.size)
  have c0 : w1.cell? ⟨w.heap.size, 2, none⟩ = some (.slice da dz.length dc) := (hC1.cell (p := ⟨w.heap.size, 2, none⟩) (by simp; omega)).trans (by simp)
  have c1 : w1.cell? ⟨w.heap.size + 1, 2, none⟩ = some (.slice da' dz'.length dc') := (hC1.cell (p := ⟨w.heap.size + 1, 2, none⟩) (by simp)).trans (by simp)
  have HB1 : Hid (Below w.heap.size w w1) := hB1
  clear hB1 hC1
  go_wp2_with fail
  refine (ints_any da dc dz da' dc' dz' h2 w.heap.size w1 (HI.out.2.1.below HB1.out) (HI.out.2.2.2.below HB1.out)).mono ?_
  rintro e w2 ⟨rfl, hC2⟩
  have hB2 : Below w.heap.size w w2 := HB1.out.trans (hC2.mono HB1.out.size)
  by_cases h : eqB sz sz' = true
  · rw [h]
    go_wp2_with fail
    go_ret
    exact ⟨by simp [h], hB2⟩
  · have h' : eqB sz sz' = false := by simpa using h
    rw [h']
    go_wp2_with fail
    go_ret
    exact ⟨by simp [h'], hB2⟩
set_option maxRecDepth 100000 in
set_option maxHeartbeats 1000000 in
theorem sarr_tf (sa : Option Addr) (sc : Nat) (sz : List Int) (da : Option Addr) (dc : Nat) (dz : List Int) (sa' : Option Addr) (sc' : Nat) (sz' : List Int) (da' : Option Addr) (dc' : Nat) (dz' : List Int)
    (h1 : sz.length ≤ 9223372036854775807) (h2 : dz.length ≤ 9223372036854775807) (w : World) (hs : IsInts w.heap.size w sa sz) (hd : IsInts w.heap.size w da dz) (hs' : IsInts w.heap.size w sa' sz') (hd' : IsInts w.heap.size w da' dz') :
    Calls Try.prog 19 #[.agg #[.bool true, .slice sa sz.length sc, .slice da dz.length dc], .agg #[.bool false, .slice sa' sz'.length sc', .slice da' dz'.length dc']] w fun e w' => e = .returned (.bool (false)) ∧ Below w.heap.size w w' := by
  have hB0 : Below w.heap.size w ((w.alloc (.cells #[.bool true, .slice sa sz.length sc, .slice da dz.length dc] 24)).alloc (.cells #[.bool false, .slice sa' sz'.length sc', .slice da' dz'.length dc'] 24)) := ((Below.refl _ w).alloc (Nat.le_refl _) _).alloc (by simp) _
  go_enter Try.func19, Try.ntmps19
  go_wp2_with fail
  go_ret
  exact ⟨rfl, hB0⟩
set_option maxRecDepth 100000 in
set_option maxHeartbeats 1000000 in
theorem sarr_ft (sa : Option Addr) (sc : Nat) (sz : List Int) (da : Option Addr) (dc : Nat) (dz : List Int) (sa' : Option Addr) (sc' : Nat) (sz' : List Int) (da' : Option Addr) (dc' : Nat) (dz' : List Int)
    (h1 : sz.length ≤ 9223372036854775807) (h2 : dz.length ≤ 9223372036854775807) (w : World) (hs : IsInts w.heap.size w sa sz) (hd : IsInts w.heap.size w da dz) (hs' : IsInts w.heap.size w sa' sz') (hd' : IsInts w.heap.size w da' dz') :
    Calls Try.prog 19 #[.agg #[.bool false, .slice sa sz.length sc, .slice da dz.length dc], .agg #[.bool true, .slice sa' sz'.length sc', .slice da' dz'.length dc']] w fun e w' => e = .returned (.bool (false)) ∧ Below w.heap.size w w' := by
  have hB0 : Below w.heap.size w ((w.alloc (.cells #[.bool false, .slice sa sz.length sc, .slice da dz.length dc] 24)).alloc (.cells #[.bool true, .slice sa' sz'.length sc', .slice da' dz'.length dc'] 24)) := ((Below.refl _ w).alloc (Nat.le_refl _) _).alloc (by simp) _
  go_enter Try.func19, Try.ntmps19
  go_wp2_with fail
  go_ret
  exact ⟨rfl, hB0⟩
set_option maxRecDepth 100000 in
set_option maxHeartbeats 1000000 in
theorem sarr_ff (sa : Option Addr) (sc : Nat) (sz : List Int) (da : Option Addr) (dc : Nat) (dz : List Int) (sa' : Option Addr) (sc' : Nat) (sz' : List Int) (da' : Option Addr) (dc' : Nat) (dz' : List Int)
    (h1 : sz.length ≤ 9223372036854775807) (h2 : dz.length ≤ 9223372036854775807) (w : World) (hs : IsInts w.heap.size w sa sz) (hd : IsInts w.heap.size w da dz) (hs' : IsInts w.heap.size w sa' sz') (hd' : IsInts w.heap.size w da' dz') :
    Calls Try.prog 19 #[.agg #[.bool false, .slice sa sz.length sc, .slice da dz.length dc], .agg #[.bool false, .slice sa' sz'.length sc', .slice da' dz'.length dc']] w fun e w' => e = .returned (.bool (eqB sz sz' && eqB dz dz')) ∧ Below w.heap.size w w' := by
  have hB0 : Below w.heap.size w ((w.alloc (.cells #[.bool false, .slice sa sz.length sc, .slice da dz.length dc] 24)).alloc (.cells #[.bool false, .slice sa' sz'.length sc', .slice da' dz'.length dc'] 24)) := ((Below.refl _ w).alloc (Nat.le_refl _) _).alloc (by simp) _
  have HB0 : Hid (Below w.heap.size w ((w.alloc (.cells #[.bool false, .slice sa sz.length sc, .slice da dz.length dc] 24)).alloc (.cells #[.bool false, .slice sa' sz'.length sc', .slice da' dz'.length dc'] 24))) := hB0
  have HI : Hid (IsInts w.heap.size w sa sz ∧ IsInts w.heap.size w da dz ∧ IsInts w.heap.size w sa' sz' ∧ IsInts w.heap.size w da' dz') := ⟨hs, hd, hs', hd'⟩
  clear hB0 hs hd hs' hd'
  go_enter Try.func19, Try.ntmps19
  go_wp2_with fail
  refine (ints_any sa sc sz sa' sc' sz' h1 w.heap.size _ (HI.out.1.below HB0.out) (HI.out.2.2.1.below HB0.out)).mono ?_
  rintro e w1 ⟨rfl, hC1⟩
  have hB1 : Below w.heap.size w w1 := HB0.out.trans (hC1.mono HB0.out.size)
  have c0 : w1.cell? ⟨w.heap.size, 2, none⟩ = some (.slice da dz.length dc) := (hC1.cell (p := ⟨w.heap.size, 2, none⟩) (by simp; omega)).trans (by simp)
  have c1 : w1.cell? ⟨w.heap.size + 1, 2, none⟩ = some (.slice da' dz'.length dc') := (hC1.cell (p := ⟨w.heap.size + 1, 2, none⟩) (by simp)).trans (by simp)
  have HB1 : Hid (Below w.heap.size w w1) := hB1
  clear hB1 hC1
  go_wp2_with fail
  refine (ints_any da dc dz da' dc' dz' h2 w.heap.size w1 (HI.out.2.1.below HB1.out) (HI.out.2.2.2.below HB1.out)).mono ?_
  rintro e w2 ⟨rfl, hC2⟩
  have hB2 : Below w.heap.size w w2 := HB1.out.trans (hC2.mono HB1.out.size)
  by_cases h : eqB sz sz' = true
  · rw [h]
    go_wp2_with fail
    go_ret
    exact ⟨by simp [h], hB2⟩
  · have h' : eqB sz sz' = false := by simpa using h
    rw [h']
    go_wp2_with fail
    go_ret
    exact ⟨by simp [h'], hB2⟩
theorem sarr_any (c c' : Bool) (sa : Option Addr) (sc : Nat) (sz : List Int) (da : Option Addr) (dc : Nat) (dz : List Int) (sa' : Option Addr) (sc' : Nat) (sz' : List Int) (da' : Option Addr) (dc' : Nat) (dz' : List Int)
    (h1 : sz.length ≤ 9223372036854775807) (h2 : dz.length ≤ 9223372036854775807) (w : World) (hs : IsInts w.heap.size w sa sz) (hd : IsInts w.heap.size w da dz) (hs' : IsInts w.heap.size w sa' sz') (hd' : IsInts w.heap.size w da' dz') :
    Calls Try.prog 19 #[.agg #[.bool c, .slice sa sz.length sc, .slice da dz.length dc], .agg #[.bool c', .slice sa' sz'.length sc', .slice da' dz'.length dc']] w fun e w' => e = .returned (.bool (arrB c sz dz c' sz' dz')) ∧ Below w.heap.size w w' := by
  cases c <;> cases c'
  · exact sarr_ff sa sc sz da dc dz sa' sc' sz' da' dc' dz' h1 h2 w hs hd hs' hd'
  · exact sarr_ft sa sc sz da dc dz sa' sc' sz' da' dc' dz' h1 h2 w hs hd hs' hd'
  · exact sarr_tf sa sc sz da dc dz sa' sc' sz' da' dc' dz' h1 h2 w hs hd hs' hd'
  · exact sarr_tt sa sc sz da dc dz sa' sc' sz' da' dc' dz' h1 h2 w hs hd hs' hd'
end Go.Proofs.Ytgaelbgeoobgiaa
