/-
  What Up, Down and Sort tell, where nothing is wrong and where something is; the lengths told apart.
-/
import Derived.Test.YtmbgomljofngnabGrdq
import Derived.Test.YtmbgomljofngnabPrmv
import Derived.Test.YtmbgomljofngnabCutw
import Derived.Test.YtmbgomljofngnabMidc
import Derived.Test.YtmbgomljofngnabVec
import Derived.Test.YtmbgomljofngnabPrmc
namespace Go.Proofs.Ytmbgomljofngnab
open Go.RowKit
set_option linter.unusedVariables false

theorem lit10 {xs : List Int} (h : xs.all (fun x => decide (-9223372036854775808 ≤ x ∧ x ≤ 9223372036854775807)) = true) : ∀ j, In64 (nth xs j) := fun j => by
  by_cases hj : j < xs.length
  · have : nth xs j ∈ xs := by simp [nth, hj]
    exact of_decide_eq_true (p := -9223372036854775808 ≤ nth xs j ∧ nth xs j ≤ 9223372036854775807) (List.all_eq_true.1 h _ this)
  · have : nth xs j = 0 := by simp [nth, List.getElem?_eq_none (Nat.le_of_not_lt hj)]
    rw [this]; unfold In64; decide
section
variable (c : Bool) (sa : Option Addr) (sc : Nat) (sz : List Int) (l : Nat) (hl : sz.length = l) (da : Option Addr) (dc : Nat) (dz : List Int) (m : Nat) (hm : dz.length = m) (w : World) (h1 : l ≤ 9223372036854775807) (h2 : m ≤ 9223372036854775807) (hs : IsC w.heap.size w sa sz sc) (hd : IsC w.heap.size w da dz dc)
theorem upw_ok (c : Bool) (sa : Option Addr) (sc : Nat) (sz : List Int) (l : Nat) (hl : sz.length = l) (da : Option Addr) (dc : Nat) (dz : List Int) (m : Nat) (hm : dz.length = m) (w : World) (h1 : l ≤ 9223372036854775807) (h2 : m ≤ 9223372036854775807) (hs : IsC w.heap.size w sa sz sc) (hd : IsC w.heap.size w da dz dc) (O : List Int) (H : CUp) (h : gdE c sz dz = 0 ∧ gdO false sz dz = O) :
    Calls Try.prog 14 #[.agg #[.bool c, .slice sa l sc, .slice da m dc]] w (OkL O w) := by
  subst hl hm
  exact (H c sa sc sz da dc dz w h1 h2 hs hd).mono fun r w' h' => UL.ok h h'
theorem upw_no (c : Bool) (sa : Option Addr) (sc : Nat) (sz : List Int) (l : Nat) (hl : sz.length = l) (da : Option Addr) (dc : Nat) (dz : List Int) (m : Nat) (hm : dz.length = m) (w : World) (h1 : l ≤ 9223372036854775807) (h2 : m ≤ 9223372036854775807) (hs : IsC w.heap.size w sa sz sc) (hd : IsC w.heap.size w da dz dc) (H : CUp) (E : Int) (h : gdE c sz dz = E) (h0 : E ≠ 0) :
    Calls Try.prog 14 #[.agg #[.bool c, .slice sa l sc, .slice da m dc]] w (NoL E w) := by
  subst hl hm h
  exact (H c sa sc sz da dc dz w h1 h2 hs hd).mono fun r w' h' => UL.no h0 h'
theorem dnw_ok (c : Bool) (sa : Option Addr) (sc : Nat) (sz : List Int) (l : Nat) (hl : sz.length = l) (da : Option Addr) (dc : Nat) (dz : List Int) (m : Nat) (hm : dz.length = m) (w : World) (h1 : l ≤ 9223372036854775807) (h2 : m ≤ 9223372036854775807) (hs : IsC w.heap.size w sa sz sc) (hd : IsC w.heap.size w da dz dc) (O : List Int) (H : CDn) (h : gdE c sz dz = 0 ∧ gdO true sz dz = O) :
    Calls Try.prog 12 #[.agg #[.bool c, .slice sa l sc, .slice da m dc]] w (OkL O w) := by
  subst hl hm
  exact (H c sa sc sz da dc dz w h1 h2 hs hd).mono fun r w' h' => UL.ok h h'
theorem dnw_no (c : Bool) (sa : Option Addr) (sc : Nat) (sz : List Int) (l : Nat) (hl : sz.length = l) (da : Option Addr) (dc : Nat) (dz : List Int) (m : Nat) (hm : dz.length = m) (w : World) (h1 : l ≤ 9223372036854775807) (h2 : m ≤ 9223372036854775807) (hs : IsC w.heap.size w sa sz sc) (hd : IsC w.heap.size w da dz dc) (H : CDn) (E : Int) (h : gdE c sz dz = E) (h0 : E ≠ 0) :
    Calls Try.prog 12 #[.agg #[.bool c, .slice sa l sc, .slice da m dc]] w (NoL E w) := by
  subst hl hm h
  exact (H c sa sc sz da dc dz w h1 h2 hs hd).mono fun r w' h' => UL.no h0 h'
end
theorem vecr_c (c : Bool) (a : Option Addr) (cap : Nat) (zs : List Int) (l : Nat) (hl : zs.length = l) (h1 : l ≤ 100000) (w : World) (hI : IsInts w.heap.size w a zs) :
    Calls Try.prog 23 #[.bool c, .slice a l cap] w fun e w' => ∃ sa sc g gc, e = .returned (.agg #[.bool c, .slice sa 1 sc, .slice g l gc]) ∧ NewC w.heap.size w' sa [(l : Int)] sc ∧ NewC w.heap.size w' g zs gc ∧ Below w.heap.size w w' := by
  subst hl
  exact (vector_cap c a cap zs h1 w hI).mono fun e w' ⟨sa, sc, g, gc, h, h2, h3, h4, h5, h6⟩ => ⟨sa, sc, g, gc, h, ⟨h2, h5⟩, ⟨h3, h6⟩, h4⟩
/-! ### Lists as arrays -/
theorem line_fl10 {O : List Int} {l : Nat} (hl : O.length = l) (h : l ≤ 4096) : flawE false [(l : Int)] O = 0 := by
  subst hl
  refine flawE_okn (errOf_zero.2 ⟨by simp, fun x hx => ?_, ?_⟩) ?_
  · obtain rfl := List.mem_singleton.1 hx
    omega
  · simp only [prod, Int.mul_one]; omega
  · simp only [prod, Int.mul_one]
theorem line_gd {O : List Int} {l : Nat} (hl : O.length = l) (h : l ≤ 4096) : gdE false [(l : Int)] O = 0 := gdE_zero.2 ⟨line_fl10 hl h, by simp⟩
theorem line_nR (l : Nat) : nR [(l : Int)] = l := by unfold nR; rw [nth_zero, Int.toNat_natCast]
/-- The order of an order. -/
theorem line_up {O : List Int} (ho : IsOrd O) {l : Nat} (hl : O.length = l) : gdO false [(l : Int)] O = tnd O := by
  subst hl
  unfold gdO
  rw [line_nR, lR_is, line_nR]
  by_cases h : O.length = 0
  · have := List.eq_nil_of_length_eq_zero h
    subst this
    rfl
  · rw [Nat.div_self (by omega)]
    exact grO_ord_tnd ho
end Go.Proofs.Ytmbgomljofngnab
