/-
  Iota and Reshape, where nothing is wrong, as the walks of package pick take them.
-/
import Derived.Test.YtlflacoiidhgoaaPatw
import Derived.Test.YtlflacoiidhgoaaPikx
import Derived.Test.YtlflacoiidhgoaaReshape
namespace Go.Proofs.Ytlflacoiidhgoaa
open Go.RowKit
set_option linter.unusedVariables false

theorem io_ok (n : Nat) (hn : n ≤ 4096) (D : List Int) (hD : D = iot n) (w : World) :
    Calls Try.prog 12 #[.int .i64 (n : Int)] w fun e w' => ∃ xa xc ya yc, e = .returned (.tuple #[.agg #[.bool false, .slice xa 1 xc, .slice ya D.length yc], .nilIface]) ∧ NewC w.heap.size w' xa [(n : Int)] 1 ∧ NewC w.heap.size w' ya D D.length ∧ Below w.heap.size w w' := by
  subst hD
  refine (iota_ok n hn w).mono ?_
  rintro e w' ⟨xa, xc, ya, yc, rfl, h1, h2, h3⟩
  exact ⟨xa, xc, ya, yc, by rw [iot_length], ⟨h1, Nat.le_refl _⟩, ⟨h2, Nat.le_refl _⟩, h3⟩
theorem rs_ok (a : Option Addr) (cap : Nat) (zs : List Int) (c : Bool) (sa : Option Addr) (sc : Nat) (sz : List Int) (l : Nat) (hl : sz.length = l) (da : Option Addr) (dc : Nat) (dz : List Int) (h0 : zs.length ≤ 9223372036854775807) (h1 : l ≤ 9223372036854775807) (h2 : dz.length ≤ 9223372036854775807) (w : World)
    (hz : IsInts w.heap.size w a zs) (hs : IsInts w.heap.size w sa sz) (hd : IsInts w.heap.size w da dz) (D : List Int) (he : errOf zs = 0) (hf : flawE c sz dz = 0) (hD : cyc dz (prod zs).toNat (fillE c) = D) :
    Calls Try.prog 13 #[.slice a zs.length cap, .agg #[.bool c, .slice sa l sc, .slice da dz.length dc]] w fun e w' => ∃ xa xc ya yc, e = .returned (.tuple #[.agg #[.bool c, .slice xa zs.length xc, .slice ya D.length yc], .nilIface]) ∧ NewC w.heap.size w' xa zs zs.length ∧ NewC w.heap.size w' ya D D.length ∧ Below w.heap.size w w' := by
  subst hl hD
  have hp := prod_nonneg (errOf_zero.1 he).2.1
  refine (reshape_ok a cap zs (prod zs).toNat c sa sc sz da dc dz h0 h1 h2 w hz hs hd he (by omega) hf).mono ?_
  rintro e w' ⟨xa, xc, ya, yc, rfl, h1, h2, h3⟩
  exact ⟨xa, xc, ya, yc, rfl, ⟨h1, Nat.le_refl _⟩, ⟨h2, Nat.le_refl _⟩, h3⟩
theorem flat_cyc {c : Bool} {sz dz : List Int} (h : flawE c sz dz = 0) (d : Int) : cyc (iot dz.length) (prod sz).toNat d = iot dz.length := by
  have := (flawE_zero h).2.1
  exact cyc_len7 d (by rw [iot_length]; omega)
end Go.Proofs.Ytlflacoiidhgoaa
