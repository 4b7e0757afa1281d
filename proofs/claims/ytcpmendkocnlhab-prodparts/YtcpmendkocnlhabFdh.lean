/-
  What fold.Scan, fold.Windows and fold.Reduce tell.
-/
import Derived.Test.YtcpmendkocnlhabFdr
import Derived.Test.YtcpmendkocnlhabBase
namespace Go.Proofs.Ytcpmendkocnlhab
open Go.RowKit
set_option linter.unusedVariables false

/-! ### The three are runs -/
theorem rn_scan {f : Int} {x : Nat} {sz dz : List Int} (hx : x < sz.length) (h : lnE f (x : Int) false sz dz = 0) {L : Nat} (hL : (L : Int) = nth sz x) :
    sz.set x (L : Int) = sz ∧ rnE f sz dz x L (fun _ => 0) (fun k => k + 1) = scE f (x : Int) false sz dz ∧ rnD f sz dz x L (fun _ => 0) (fun k => k + 1) = scD f sz dz x := by
  have he := (flawE_zero (lnE_zero.1 h).2.1).1
  have hs : sz.set x (L : Int) = sz := set_get hx hL
  have hG : ∀ t, insB sz t = true → rnG sz dz x (fun _ => 0) (fun k => k + 1) t = scL sz dz x t := fun t ht => by
    have h1 := ins_at ht hx
    have e : (nth t x).toNat + 1 = (nth t x + 1).toNat := by omega
    show run _ 0 ((nth t x).toNat + 1) = _
    rw [e, rdL_scan ht hx]
  refine ⟨hs, ?_, ?_⟩
  · unfold rnE scE
    rw [hs, if_neg (not_not_intro he), if_neg (not_not_intro h), Int.toNat_natCast]
    have e : okT sz (fun t => fdE f (rnG sz dz x (fun _ => 0) (fun k => k + 1) t)) = okT sz (fun t => fdE f (scL sz dz x t)) := by
      rw [Bool.eq_iff_iff, okT_iff he, okT_iff he]
      exact ⟨fun h t ht => by rw [← hG t ht]; exact h t ht, fun h t ht => by rw [hG t ht]; exact h t ht⟩
    rw [e]
  · unfold rnD scD
    rw [hs]
    exact TA_congr he fun t ht => by rw [hG t ht]
theorem rn_windows {f n : Int} {x : Nat} {sz dz : List Int} (hx : x < sz.length) (h : lnE f (x : Int) false sz dz = 0) (h1 : 1 ≤ n) (h2 : n ≤ nth sz x) {M : Nat} (hM : (M : Int) = nth sz x - n + 1) :
    sz.set x (M : Int) = wdS n x sz ∧ rnE f sz dz x M (fun k => k) (fun k => k + n.toNat) = wdE f n (x : Int) false sz dz ∧ rnD f sz dz x M (fun k => k) (fun k => k + n.toNat) = wdD f n sz dz x := by
  have he : errOf (wdS n x sz) = 0 := by have := wd_err (n := n) h (by rw [Int.toNat_natCast]; omega); rwa [Int.toNat_natCast] at this
  have hs : sz.set x (M : Int) = wdS n x sz := by unfold wdS; rw [hM]
  have hG : ∀ t, insB (wdS n x sz) t = true → rnG sz dz x (fun k => k) (fun k => k + n.toNat) t = wdL n sz dz x t := fun t ht => by
    have h3 := ins_at ht (x := x) (by unfold wdS; rw [List.length_set]; exact hx)
    have e : (nth t x).toNat + n.toNat = (nth t x + n).toNat := by omega
    show run _ (nth t x).toNat ((nth t x).toNat + n.toNat) = _
    rw [e, rdL_windows hx h1 ht]
  refine ⟨hs, ?_, ?_⟩
  · unfold rnE wdE
    rw [hs, if_neg (not_not_intro he), if_neg (not_not_intro h), Int.toNat_natCast, if_neg (show ¬ (n < 1 ∨ nth sz x < n) by omega)]
    have e : okT (wdS n x sz) (fun t => fdE f (rnG sz dz x (fun k => k) (fun k => k + n.toNat) t)) = okT (wdS n x sz) (fun t => fdE f (wdL n sz dz x t)) := by
      rw [Bool.eq_iff_iff, okT_iff he, okT_iff he]
      exact ⟨fun h t ht => by rw [← hG t ht]; exact h t ht, fun h t ht => by rw [hG t ht]; exact h t ht⟩
    rw [e]
  · unfold rnD wdD
    rw [hs]
    exact TA_congr he fun t ht => by rw [hG t ht]
theorem rn_reduce {f : Int} {x : Nat} {sz dz : List Int} (hx : x < sz.length) (h : lnE f (x : Int) false sz dz = 0) (hn : ¬ (nth sz x = 0 ∧ neutE f ≠ 0)) {L : Nat} (hL : (L : Int) = nth sz x) :
    rnE f sz dz x 1 (fun _ => 0) (fun _ => L) = rdE f (x : Int) false sz dz ∧ (rdE f (x : Int) false sz dz = 0 → rnD f sz dz x 1 (fun _ => 0) (fun _ => L) = rdD f sz dz x ∧ errOf (sz.set x 1) = 0) := by
  have he := (flawE_zero (lnE_zero.1 h).2.1).1
  have h1 := err_one hx he
  have hl := xout_length hx
  have hLe : L = (nth sz x).toNat := by omega
  have hG : ∀ t, rnG sz dz x (fun _ => 0) (fun _ => L) t = rdL sz dz x (xout x t) := fun t => by
    unfold rnG
    rw [hLe]
    exact rdL_all
  unfold rnE rdE
  rw [show ((1 : Nat) : Int) = 1 from rfl, h1, if_neg (not_not_intro h), Int.toNat_natCast, if_neg hn]
  by_cases ho : errOf (xout x sz) = 0
  · have e : okT (sz.set x 1) (fun t => fdE f (rnG sz dz x (fun _ => 0) (fun _ => L) t)) = okT (xout x sz) (fun t => fdE f (rdL sz dz x t)) := by
      rw [Bool.eq_iff_iff, okT_iff (s := sz.set x 1) (by rw [h1]; exact ho), okT_iff ho]
      refine ⟨fun h t ht => ?_, fun h t ht => ?_⟩
      · have hlt := insB_len ht
        have hin : insB (sz.set x 1) (xin x 0 t) = true := ins_xin (by rw [List.length_set]; exact hx) (by rw [xout_set]; exact ht) (by rw [nth_set_self hx]; omega)
        have := h _ hin
        rwa [hG, xout_xin (by omega)] at this
      · rw [hG]
        exact h _ (by have := ins_xout (x := x) ht; rwa [xout_set] at this)
    rw [if_neg (not_not_intro ho), if_neg (not_not_intro ho), e]
    refine ⟨rfl, fun _ => ⟨?_, ho⟩⟩
    unfold rnD rdD
    rw [show ((1 : Nat) : Int) = 1 from rfl, TA_one hx (by rw [h1]; exact ho) ho]
    refine TA_congr ho fun t ht => ?_
    have hlt := insB_len ht
    rw [hG, xout_xin (by omega)]
  · rw [if_pos ho, if_pos ho]
    exact ⟨rfl, fun h => absurd h ho⟩
end Go.Proofs.Ytcpmendkocnlhab
