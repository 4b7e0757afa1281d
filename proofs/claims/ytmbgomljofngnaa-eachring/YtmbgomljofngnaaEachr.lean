/-
  Sums and products of arrays of one shape, cell by cell.
-/
import Derived.Test.YtmbgomljofngnaaEachs
namespace Go.Proofs.Ytmbgomljofngnaa
open Go.RowKit
set_option linter.unusedVariables false

/-- The cells of two lists with one another. -/
def rV (f : Int) (d d' : List Int) : List Int := (List.range d.length).map fun i => twoV f (nth d i) (nth d' i)
theorem rV_length (f : Int) (d d' : List Int) : (rV f d d').length = d.length := by simp [rV]
theorem rV_nth (f : Int) (d d' : List Int) {i : Nat} (h : i < d.length) : nth (rV f d d') i = twoV f (nth d i) (nth d' i) := by simp [rV, nth, h]
theorem rV_flaw {f : Int} {sz d d' : List Int} (h : flawE false sz d = 0) : flawE false sz (rV f d d') = 0 := by
  obtain ⟨h1, h2, _⟩ := flawE_zero h
  exact flawE_okn h1 (by rw [rV_length]; exact h2)
theorem rV_in {f : Int} (hf : f = 1 ∨ f = 3) (d d' : List Int) (j : Nat) : In64 (nth (rV f d d') j) := by
  by_cases hj : j < d.length
  · rw [rV_nth _ _ _ hj]
    rcases hf with rfl | rfl
    · rw [tv1]; exact In64.w _
    · rw [tv3]; exact In64.w _
  · have : nth (rV f d d') j = 0 := by simp [nth, List.getElem?_eq_none (show (rV f d d').length ≤ j by rw [rV_length]; omega)]
    rw [this]; unfold In64; decide
theorem rV_ext {d : List Int} {e : List Int} (hl : d.length = e.length) (h : ∀ i, i < d.length → nth d i = nth e i) : d = e := nth_ext hl h
section
variable {sz a b c : List Int}
theorem ring_len (ha : flawE false sz a = 0) (hb : flawE false sz b = 0) : b.length = a.length := by
  have := (flawE_zero ha).2.1; have := (flawE_zero hb).2.1; omega
theorem ring_dist (ha : flawE false sz a = 0) (hb : flawE false sz b = 0) (hc : flawE false sz c = 0) : rV 1 (rV 3 a b) (rV 3 a c) = rV 3 a (rV 1 b c) := by
  have lb := ring_len ha hb
  have lc := ring_len ha hc
  refine nth_ext (by simp [rV_length]) fun i hi => ?_
  rw [rV_length, rV_length] at hi
  rw [rV_nth _ _ _ (by rw [rV_length]; exact hi), rV_nth _ _ _ hi, rV_nth _ _ _ hi, rV_nth _ _ _ hi, rV_nth _ _ _ (by omega), tv1, tv3, tv3, tv3, tv1, w_mulr, w_addl, w_addr, Int.mul_add]
theorem ring_comm (ha : flawE false sz a = 0) (hb : flawE false sz b = 0) : rV 3 b a = rV 3 a b := by
  have lb := ring_len ha hb
  refine nth_ext (by simp [rV_length, lb]) fun i hi => ?_
  rw [rV_length] at hi
  rw [rV_nth _ _ _ hi, rV_nth _ _ _ (by omega), tv3, tv3, Int.mul_comm]
theorem ring_assoc (ha : flawE false sz a = 0) (hb : flawE false sz b = 0) (hc : flawE false sz c = 0) : rV 3 a (rV 3 b c) = rV 3 (rV 3 a b) c := by
  have lb := ring_len ha hb
  refine nth_ext (by simp [rV_length]) fun i hi => ?_
  rw [rV_length] at hi
  rw [rV_nth _ _ _ hi, rV_nth _ _ _ (by omega), rV_nth _ _ _ (by rw [rV_length]; exact hi), rV_nth _ _ _ hi, tv3, tv3, tv3, tv3, w_mull, w_mulr, Int.mul_assoc]
theorem ring_al (ha : flawE false sz a = 0) (h : b = a) : alB false sz a 0 false sz b 0 = true := by
  subst h; exact al_ok Iff.rfl (fun _ => ha)
end
section
variable {f : Int} {sz d d' : List Int}
theorem rg_E (hf : f = 1 ∨ f = 3) (F : flawE false sz d = 0) (F' : flawE false sz d' = 0) : e2E f false sz d false sz d' = 0 := by
  refine e2E_mk (e2F_zero.2 ⟨by omega, F, F', .inr (.inr rfl), by simp⟩) fun i _ => ?_
  unfold tcE
  rw [if_pos (by decide)]
  exact te0 (by omega) (by omega) (by omega) (by omega)
theorem rg_C {c : Bool} {i : Nat} (hi : i < d.length) : e2C d i = nth d i := by
  unfold e2C cyA
  rw [if_neg (by omega), Nat.mod_eq_of_lt hi]
theorem rg_V (F : flawE false sz d = 0) (F' : flawE false sz d' = 0) : e2V f false sz d false sz d' = rV f d d' := by
  have hn : e2N sz sz = d.length := by unfold e2N; rw [shp_self, e2N_len F]
  have hl := ring_len F F'
  unfold e2V rV
  rw [hn]
  refine List.map_congr_left fun i hi => ?_
  have hi := List.mem_range.1 hi
  rw [rg_C (c := false) hi, rg_C (c := false) (d := d') (by omega)]
  unfold tcV
  rw [if_pos (by decide)]
end
theorem rg_two (H : C2) (f : Int) (hf : f = 1 ∨ f = 3) (sa : Option Addr) (sc : Nat) (sz : List Int) (da : Option Addr) (dc : Nat) (dz : List Int) (sa' : Option Addr) (sc' : Nat) (da' : Option Addr) (dc' : Nat) (dz' : List Int) (w : World)
    (hs : IsInts w.heap.size w sa sz) (hd : IsInts w.heap.size w da dz) (hs' : IsInts w.heap.size w sa' sz) (hd' : IsInts w.heap.size w da' dz') (T : ∀ j, In64 (nth dz j)) (T' : ∀ j, In64 (nth dz' j)) (F : flawE false sz dz = 0) (F' : flawE false sz dz' = 0) :
    Calls Try.prog 8 #[.int .i64 f, .agg #[.bool false, .slice sa sz.length sc, .slice da dz.length dc], .agg #[.bool false, .slice sa' sz.length sc', .slice da' dz'.length dc']] w fun e w' => ∃ xa xc ya yc, e = .returned (.tuple #[.agg #[.bool false, .slice xa sz.length xc, .slice ya (rV f dz dz').length yc], .nilIface]) ∧ NewInts w.heap.size w' xa sz ∧ NewInts w.heap.size w' ya (rV f dz dz') ∧ Below w.heap.size w w' := by
  have h := c2_ok H f false sa sc sz da dc dz false sa' sc' sz da' dc' dz' w (by unfold In64; omega) (Nat.le_trans (flawE_short F).1 (by decide)) (Nat.le_trans (flawE_short F).2 (by decide)) (Nat.le_trans (flawE_short F').1 (by decide)) (Nat.le_trans (flawE_short F').2 (by decide)) hs hd hs' hd' T T' (rg_E hf F F')
  rw [rg_V F F', shp_self] at h
  exact h
end Go.Proofs.Ytmbgomljofngnaa
