/-
  What the reference tells of the faults of two arrays: the first one's first.
-/
import Derived.Test.YtcpmendkocnlhaaDoorFlaw
import Derived.Test.YtcpmendkocnlhaaDoorArrb
namespace Go.Proofs.YtcpmendkocnlhaaDoor
open Go.RowKit
set_option linter.unusedVariables false

set_option maxRecDepth 100000 in
set_option maxHeartbeats 1000000 in
theorem flaws_any (c c' : Bool) (sa : Option Addr) (sc : Nat) (sz : List Int) (da : Option Addr) (dc : Nat) (dz : List Int) (sa' : Option Addr) (sc' : Nat) (sz' : List Int) (da' : Option Addr) (dc' : Nat) (dz' : List Int)
    (h1 : sz.length ≤ 9223372036854775807) (h2 : dz.length ≤ 9223372036854775807) (h1' : sz'.length ≤ 9223372036854775807) (h2' : dz'.length ≤ 9223372036854775807) (w : World) (hs : IsInts w.heap.size w sa sz) (hd : IsInts w.heap.size w da dz) (hs' : IsInts w.heap.size w sa' sz') (hd' : IsInts w.heap.size w da' dz') :
    Calls Tryd.prog 10 #[.agg #[.bool c, .slice sa sz.length sc, .slice da dz.length dc], .agg #[.bool c', .slice sa' sz'.length sc', .slice da' dz'.length dc']] w fun e w' => e = .returned (.int .i64 (flawsE c sz dz c' sz' dz')) ∧ Below w.heap.size w w' := by
  have hB0 : Below w.heap.size w ((w.alloc (.cells #[.bool c, .slice sa sz.length sc, .slice da dz.length dc] 25)).alloc (.cells #[.bool c', .slice sa' sz'.length sc', .slice da' dz'.length dc'] 25)) := ((Below.refl _ w).alloc (Nat.le_refl _) _).alloc (by simp) _
  have HB0 : Hid (Below w.heap.size w ((w.alloc (.cells #[.bool c, .slice sa sz.length sc, .slice da dz.length dc] 25)).alloc (.cells #[.bool c', .slice sa' sz'.length sc', .slice da' dz'.length dc'] 25))) := hB0
  have HI : Hid (IsInts w.heap.size w sa sz ∧ IsInts w.heap.size w da dz ∧ IsInts w.heap.size w sa' sz' ∧ IsInts w.heap.size w da' dz') := ⟨hs, hd, hs', hd'⟩
  clear hB0 hs hd hs' hd'
  go_enter Tryd.func10, Tryd.ntmps10
  go_wp2_with fail
  refine (flaw_any c sa sc sz da dc dz h1 h2 _ ((HI.out.1.below HB0.out).mono HB0.out.size) ((HI.out.2.1.below HB0.out).mono HB0.out.size)).mono ?_
  rintro e w1 ⟨rfl, hC1⟩
  have hB1 : Below w.heap.size w w1 := HB0.out.trans (hC1.mono HB0.out.size)
  have d0 : w1.cell? ⟨w.heap.size + 1, 0, none⟩ = some (.bool c') := (hC1.cell (p := ⟨w.heap.size + 1, 0, none⟩) (by simp)).trans (by simp)
  have d1 : w1.cell? ⟨w.heap.size + 1, 1, none⟩ = some (.slice sa' sz'.length sc') := (hC1.cell (p := ⟨w.heap.size + 1, 1, none⟩) (by simp)).trans (by simp)
  have d2 : w1.cell? ⟨w.heap.size + 1, 2, none⟩ = some (.slice da' dz'.length dc') := (hC1.cell (p := ⟨w.heap.size + 1, 2, none⟩) (by simp)).trans (by simp)
  have HB1 : Hid (Below w.heap.size w w1) := hB1
  clear hB1 hC1
  by_cases he : flawE c sz dz = 0
  · have te : (flawE c sz dz == 0) = true := by simp [he]
    have HV : Hid (flawsE c sz dz c' sz' dz' = flawE c' sz' dz') := by show _ = _; simp [flawsE, he]
    clear he
    go_wp2_with fail
    refine (flaw_any c' sa' sc' sz' da' dc' dz' h1' h2' w1 ((HI.out.2.2.1.below HB1.out).mono HB1.out.size) ((HI.out.2.2.2.below HB1.out).mono HB1.out.size)).mono ?_
    rintro e w2 ⟨rfl, hC2⟩
    have hB2 : Below w.heap.size w w2 := HB1.out.trans (hC2.mono HB1.out.size)
    go_wp2_with fail
    go_ret
    exact ⟨ret1 HV.out.symm, hB2⟩
  · have te : (flawE c sz dz == 0) = false := by simp [he]
    have HV : Hid (flawsE c sz dz c' sz' dz' = flawE c sz dz) := by show _ = _; simp [flawsE, he]
    clear he
    go_wp2_with fail
    go_ret
    exact ⟨ret1 HV.out.symm, HB1.out⟩
end Go.Proofs.YtcpmendkocnlhaaDoor
