/-
  slices.Clone of a list of integers, and that its room is no more than can be counted.
-/
import Derived.Test.YtcpmendkocnlhabCut5
namespace Go.Proofs.Ytcpmendkocnlhab
open Go.RowKit
set_option linter.unusedVariables false

theorem own_max {w : World} {base : Nat} {e : TypeId} {v : Value} {n : Nat} {xs : List Value} (h : w.ownsRow base e 1 v n xs) : ∀ g m c, v = .slice g m c → c ≤ 9223372036854775807 := by
  intro g m c hv
  rcases h.2 with ⟨e1, _⟩ | ⟨g', cap', cur, e1, _, _, _, h1, _⟩
  · rw [e1] at hv; simp only [Value.slice.injEq] at hv; omega
  · rw [e1] at hv; simp only [Value.slice.injEq] at hv; unfold maxLen at h1; omega
set_option maxRecDepth 100000 in
set_option maxHeartbeats 1000000 in
theorem clone_cap (a : Option Addr) (cap : Nat) (zs : List Int) (h1 : zs.length ≤ 100000) (w : World) (hI : IsInts w.heap.size w a zs) :
    Calls Try.prog 30 #[.slice a zs.length cap] w fun e w' => ∃ g c, e = .returned (.slice g zs.length c) ∧ NewC w.heap.size w' g zs c ∧ c ≤ 9223372036854775807 ∧ Below w.heap.size w w' := by
  have q0 : ∀ (w : World) (a : Option Addr) (n c n' c' : Nat), (binOp .eql 22 (.slice a n c) (.slice none n' c')).run Try.prog w = .ok (.bool a.isNone) w := fun w a n c n' c' => Lib.run_eql_slice_nil w _ _ a n c n' c' Try.underlying22
  obtain ⟨i0, hi, hz0, hz1, hz2⟩ := info_parts Try.infoInt
  cases a with
  | none =>
    have hz : zs = [] := by
      rcases hI with h | ⟨_, _, h, _⟩
      · exact h
      · cases h
    subst hz
    go_enter Try.func30, Try.ntmps30
    go_wp2_with fail
    go_ret
    exact ⟨none, 0, rfl, ⟨.inl rfl, Nat.le_refl _⟩, by decide, Below.refl _ _⟩
  | some ad =>
    have H0 := empty_own w 3
    have hI' := (hI.below ((Below.refl _ w).alloc (Nat.le_refl _) (.cells #[] 3)))
    have hnews : ∀ j u, (zs.map (Value.int .i64))[j]? = some u → (w.alloc (.cells #[] 3)).cell? (ad.add j) = some u := by
      intro j u hj
      rw [List.getElem?_map] at hj
      by_cases hl : j < zs.length
      · obtain ⟨b, off, e, hb, hc⟩ := hI'.at hl
        cases e
        rw [List.getElem?_eq_getElem hl] at hj
        simp only [Option.map_some] at hj
        obtain rfl := Option.some.inj hj
        rw [← nth_get zs j hl]
        have e : (⟨b, off, none⟩ : Addr).add j = ⟨b, off + j, none⟩ := by
          unfold Addr.add; split
          · rename_i h0; subst h0; rfl
          · rfl
        rw [e]; exact hc j hl
      · rw [List.getElem?_eq_none (by omega)] at hj; cases hj
    clear hI hI'
    go_enter Try.func30, Try.ntmps30
    go_wp2_with (at_builtin; refine wpList_append_own _ rfl _ _ 22 rfl w.heap.size 3 i0 (.int .i64 0) 1 8 Try.underlying22 hi hz0 hz1 hz2 rfl (by decide) _ _ _ rfl H0 ad zs.length cap (zs.map (Value.int .i64)) rfl (by simp) hnews (fun x hx => by obtain ⟨y, _, rfl⟩ := List.mem_map.1 hx; rfl) (by unfold maxLen; omega) (by omega) (by simp) ?_; intro v' w3 hown' hgrow3 hnil3)
    rw [List.nil_append, Nat.zero_add] at hown'
    have hB : Below w.heap.size w w3 := ((Below.refl _ w).alloc (Nat.le_refl _) _).grown hgrow3 (by simp) (own_ge H0)
    have hmx := own_max hown'
    obtain ⟨g, c, rfl, hIJ⟩ := own_cap hown'
    have hcm := hmx _ _ _ rfl
    go_wp2_with fail
    go_ret
    exact ⟨g, c, rfl, hIJ, hcm, hB⟩
end Go.Proofs.Ytcpmendkocnlhab
