/-
  Plain mathematics of arrays with their axes in another order.
-/
import Derived.Test.YtnfdcdoelhanlaaTurnw
namespace Go.Proofs.Ytnfdcdoelhanlaa
open Go.RowKit
set_option linter.unusedVariables false

section
variable {p q r : List Int} {c : Bool} {sz dz : List Int}
theorem fl_spec (h : flE p c sz dz = 0) : errOf sz = 0 ∧ (dz.length : Int) = prod sz ∧ IsOrd p ∧ p.length = sz.length ∧ AxSpec sz p (axVal sz p) ∧ errOf (axVal sz p) = 0 ∧ prod (axVal sz p) = prod sz := by
  obtain ⟨hf, hl, ho⟩ := flE_zero.1 h
  obtain ⟨h1, h2, _⟩ := flawE_zero hf
  have ha := axVal_spec (axErr_zero.2 ⟨h1, hl, ho⟩)
  exact ⟨h1, h2, ho, hl, ha, ax_err ho hl ha h1, ax_prod ho hl ha⟩
theorem fl_flaw (h : flE p c sz dz = 0) : flawE c (axVal sz p) (flG p sz dz) = 0 := by
  obtain ⟨_, _, ho, hl, ha, he, _⟩ := fl_spec h
  exact GA_flaw (flE_zero.1 h).1 he fun t ht => flpT_in ho hl ha ht
theorem fl_short (h : flE p c sz dz = 0) : p.length ≤ 6 := by
  have := (flawE_short (flE_zero.1 h).1).1
  have := (flE_zero.1 h).2.1
  omega
theorem fl_back (h : flE p c sz dz = 0) (hq : BkSpec p q) : flE q c (axVal sz p) (flG p sz dz) = 0 ∧ axVal (axVal sz p) q = sz ∧ flG q (axVal sz p) (flG p sz dz) = dz := by
  obtain ⟨h1, h2, ho, hl, ha, he, _⟩ := fl_spec h
  have hoq := hq.ord ho
  have hlq : q.length = (axVal sz p).length := by rw [hq.1, ha.1, hl]
  have hE : flE q c (axVal sz p) (flG p sz dz) = 0 := flE_zero.2 ⟨fl_flaw h, hlq, hoq⟩
  have hb := (fl_spec hE).2.2.2.2.1
  have hS : axVal (axVal sz p) q = sz := flip_back ho hl ha hq hb
  refine ⟨hE, hS, ?_⟩
  unfold flG
  rw [hS] at hb ⊢
  rw [GA_comp he h1 fun t ht => flpT_in hoq hlq hb ht]
  exact GA_id h1 h2 fun t ht => flpT_back ho hq (by rw [insB_len ht, hl])
theorem fl_comp (h : flE p c sz dz = 0) (hoq : IsOrd q) (hq : q.length = p.length) (hr : r.length = p.length) (hk : ∀ k, k < p.length → nth r k = nth q (nth p k).toNat) :
    flE q c (axVal sz p) (flG p sz dz) = 0 ∧ flE r c sz dz = 0 ∧ axVal sz r = axVal (axVal sz p) q ∧ flG r sz dz = flG q (axVal sz p) (flG p sz dz) := by
  obtain ⟨h1, h2, ho, hl, ha, he, _⟩ := fl_spec h
  have hlq : q.length = (axVal sz p).length := by rw [hq, ha.1, hl]
  have hE : flE q c (axVal sz p) (flG p sz dz) = 0 := flE_zero.2 ⟨fl_flaw h, hlq, hoq⟩
  obtain ⟨_, _, _, _, hb, he2, _⟩ := fl_spec hE
  obtain ⟨hor, har⟩ := ax_comp ho hoq hl hq hr hk ha hb
  have hR : flE r c sz dz = 0 := flE_zero.2 ⟨(flE_zero.1 h).1, by rw [hr, hl], hor⟩
  have hS : axVal sz r = axVal (axVal sz p) q := AxSpec.unique hor (by rw [hr, hl]) (fl_spec hR).2.2.2.2.1 har
  refine ⟨hE, hR, hS, ?_⟩
  unfold flG
  rw [hS, GA_comp he he2 fun t ht => flpT_in hoq hlq hb ht]
  exact GA_congr he2 fun t ht => (flpT_comp ho hq hr hk).symm
end
end Go.Proofs.Ytnfdcdoelhanlaa
