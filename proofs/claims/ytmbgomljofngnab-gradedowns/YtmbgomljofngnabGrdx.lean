/-
  Each number taken from -1: what each.Two tells of it, and the orders of rows.
-/
import Derived.Test.YtmbgomljofngnabGrdw
import Derived.Test.YtmbgomljofngnabEachc
import Derived.Test.YtmbgomljofngnabEachn
namespace Go.Proofs.Ytmbgomljofngnab
open Go.RowKit
set_option linter.unusedVariables false

theorem c2d_ok (H : C2d) (f : Int) (c : Bool) (sa : Option Addr) (sc : Nat) (sz : List Int) (l : Nat) (hl : sz.length = l) (da : Option Addr) (dc : Nat) (dz : List Int) (m : Nat) (hm : dz.length = m) (c' : Bool) (sa' : Option Addr) (sc' : Nat) (sz' : List Int) (da' : Option Addr) (dc' : Nat) (dz' : List Int) (w : World) (hf : In64 f) (h1 : l ≤ 9223372036854775807) (h2 : m ≤ 9223372036854775807) (h1' : sz'.length ≤ 9223372036854775807) (h2' : dz'.length ≤ 9223372036854775807)
    (hs : IsInts w.heap.size w sa sz) (hd : IsInts w.heap.size w da dz) (hs' : IsInts w.heap.size w sa' sz') (hd' : IsInts w.heap.size w da' dz') (T : ∀ j, In64 (nth dz j)) (T' : ∀ j, In64 (nth dz' j)) (S D : List Int) (h : e2E f c sz dz c' sz' dz' = 0 ∧ shp sz sz' = S ∧ e2V f c sz dz c' sz' dz' = D) :
    Calls Try.prog 10 #[.int .i64 f, .agg #[.bool c, .slice sa l sc, .slice da m dc], .agg #[.bool c', .slice sa' sz'.length sc', .slice da' dz'.length dc']] w (OkB false S D w) := by
  obtain ⟨h0, hS, hD⟩ := h
  subst hl hm hS hD
  exact (H f c sa sc sz da dc dz c' sa' sc' sz' da' dc' dz' w hf h1 h2 h1' h2' hs hd hs' hd' T T').mono fun e w' h' => h'.elim (fun h1 => absurd h0 h1.1) (fun h1 => h1.2)
theorem c10_lt {xs : List Int} {i : Nat} (h : i < xs.length) : e2C xs i = nth xs i := by
  unfold e2C cyA
  rw [if_neg (by omega), Nat.mod_eq_of_lt h]
theorem c10_one (i : Nat) : e2C [-1] i = -1 := by
  unfold e2C cyA
  rw [if_neg (by decide)]
  rw [show ([-1] : List Int).length = 1 from rfl, Nat.mod_one]
  rfl
/-- Each number, taken from -1. -/
def negL (dz : List Int) : List Int := dz.map fun x => -1 - x
theorem negL_length (dz : List Int) : (negL dz).length = dz.length := by simp [negL]
theorem negL_nth {dz : List Int} {i : Nat} (h : i < dz.length) : nth (negL dz) i = -1 - nth dz i := by
  rw [nth_get _ _ (by rw [negL_length]; exact h), nth_get _ _ h]; simp [negL]
theorem neg_two {sz dz : List Int} (h : flawE false sz dz = 0) (T : ∀ j, In64 (nth dz j)) : e2E 2 false [] [-1] false sz dz = 0 ∧ shp [] sz = sz ∧ e2V 2 false [] [-1] false sz dz = negL dz := by
  have hd := (flawE_zero h).2.1
  have hN : e2N [] sz = dz.length := by
    show (prod sz).toNat = _
    omega
  have hF : e2F 2 false [] [-1] false sz dz = 0 := e2F_zero.2 ⟨by omega, flawE_okn (errOf_zero.2 ⟨by simp, fun x hx => absurd hx (by simp), by show (1 : Int) ≤ 4096; omega⟩) rfl, h, .inl rfl, by simp⟩
  refine ⟨e2E_mk hF fun i hi => ?_, rfl, nth_ext (by rw [e2V_length, hN, negL_length]) fun i hi => ?_⟩
  · unfold tcE
    rw [if_pos (show (false == false) = true from rfl)]
    unfold twoE
    rw [if_neg (by omega), if_neg (fun q => absurd q.1 (by omega)), if_neg (fun q => absurd q.1 (by omega))]
  · rw [e2V_length] at hi
    rw [e2V_nth _ _ _ _ _ _ _ hi]
    rw [hN] at hi
    rw [c10_one, c10_lt hi, negL_nth hi]
    unfold tcV
    rw [if_pos (show (false == false) = true from rfl)]
    unfold twoV
    rw [if_neg (by omega), if_pos rfl]
    have := T i
    unfold In64 at this
    exact wrap64_small (by omega) (by omega)
theorem neg_gd {sz dz : List Int} (h : gdE false sz dz = 0) : gdE false sz (negL dz) = 0 ∧ gdO false sz (negL dz) = gdO true sz dz := by
  have h1 := gdE_zero.1 h
  have h2 := flawE_zero h1.1
  refine ⟨gdE_zero.2 ⟨flawE_okn h2.1 (by rw [negL_length]; exact h2.2.1), h1.2⟩, ?_⟩
  unfold gdO
  have e : lR sz (negL dz) = lR sz dz := by rw [lR_is, lR_is, negL_length]
  rw [e]
  exact grO_neg dz _ _
end Go.Proofs.Ytmbgomljofngnab
