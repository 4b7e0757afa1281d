/-
  Two lists, the one behind the other, in new memory.
-/
import Derived.Test.YtoicddebjmfobaaOwns
import Derived.Test.YtoicddebjmfobaaTold
namespace Go.Proofs.Ytoicddebjmfobaa
open Go.RowKit
set_option linter.unusedVariables false

set_option maxRecDepth 100000 in
set_option maxHeartbeats 4000000 in
theorem joined_any (a : Option Addr) (cap : Nat) (zs : List Int) (a' : Option Addr) (cap' : Nat) (us : List Int) (h1 : zs.length ≤ 1000) (h2 : us.length ≤ 1000) (w : World) (hI : IsInts w.heap.size w a zs) (hI' : IsInts w.heap.size w a' us) :
    Calls Try.prog 10 #[.slice a zs.length cap, .slice a' us.length cap'] w fun e w' => ∃ g c, e = .returned (.slice g (zs ++ us).length c) ∧ IsInts w'.heap.size w' g (zs ++ us) ∧ Below w.heap.size w w' := by
  obtain ⟨i0, hi, hz0, hz1, hz2⟩ := info_parts Try.infoInt
  go_enter Try.func10, Try.ntmps10
  go_wp2_with fail
  go_loopw [5, 6] (fun v i wr => ∃ k : Nat, k ≤ zs.length ∧ i = .int .i64 k ∧ wr.ownsRow w.heap.size 3 1 v k ((zs.take k).map (Value.int .i64)) ∧ Below w.heap.size w wr) (fun _ i _ => zs.length - (intOf i).toNat)
  case atStart => exact ⟨0, Nat.zero_le _, rfl, World.ownsRow_nil _ _ _ _, Below.refl _ _⟩
  case round =>
    obtain ⟨k, hk, rfl, hown, hB⟩ := hrel
    by_cases hlt : k < zs.length
    · obtain ⟨b, off, rfl, hb, hcell⟩ := (hI.below hB).at hlt
      have hc := hcell k hlt
      clear hcell
      have hts := take_snoc zs k hlt
      have HT : Hid (zs.take (k + 1) = zs.take k ++ [nth zs k]) := hts
      clear hts
      have hbs := hB.size
      go_wp2_with (at_builtin; refine wpList_append_own _ rfl _ _ 22 rfl w.heap.size 3 i0 (.int .i64 0) 1 8 Try.underlying22 hi hz0 hz1 hz2 rfl (by decide) _ _ _ rfl (hown.alloc _) ⟨wr.heap.size, 0, none⟩ 1 1 [.int .i64 (nth zs k)] rfl rfl (cell_one_new _ _ _) (fun x hx => by simp at hx; subst hx; rfl) (by unfold maxLen; omega) (by omega) (by simp; omega) ?_; intro v' w3 hown' hgrow3 hnil3)
      have hB3 : Below w.heap.size w w3 := owns_below hB hbs hown hgrow3
      exact ⟨⟨k + 1, by omega, by go_num, by rw [HT.out, List.map_append]; exact hown', hB3⟩, by simp [intOf]; omega⟩
    · obtain rfl : k = zs.length := by omega
      rw [List.take_length] at hown
      go_wp2_with fail
      go_loopw [5, 7] (fun v i wr => ∃ k : Nat, k ≤ us.length ∧ i = .int .i64 k ∧ wr.ownsRow w.heap.size 3 1 v (zs.length + k) ((zs ++ us.take k).map (Value.int .i64)) ∧ Below w.heap.size w wr) (fun _ i _ => us.length - (intOf i).toNat)
      case atStart => exact ⟨0, Nat.zero_le _, rfl, by simpa using hown, hB⟩
      case round =>
        clear hown hB hk hlt
        obtain ⟨k, hk, rfl, hown, hB⟩ := hrel
        by_cases hlt : k < us.length
        · obtain ⟨b, off, rfl, hb, hcell⟩ := (hI'.below hB).at hlt
          have hc := hcell k hlt
          clear hcell
          have hts := take_snoc us k hlt
          have HT : Hid (us.take (k + 1) = us.take k ++ [nth us k]) := hts
          clear hts
          have hbs := hB.size
          go_wp2_with (at_builtin; refine wpList_append_own _ rfl _ _ 22 rfl w.heap.size 3 i0 (.int .i64 0) 1 8 Try.underlying22 hi hz0 hz1 hz2 rfl (by decide) _ _ _ rfl (hown.alloc _) ⟨wr.heap.size, 0, none⟩ 1 1 [.int .i64 (nth us k)] rfl rfl (cell_one_new _ _ _) (fun x hx => by simp at hx; subst hx; rfl) (by unfold maxLen; omega) (by omega) (by simp; omega) ?_; intro v' w3 hown' hgrow3 hnil3)
          have hB3 : Below w.heap.size w w3 := owns_below hB hbs hown hgrow3
          exact ⟨⟨k + 1, by omega, by go_num, by rw [HT.out, ← List.append_assoc, List.map_append]; exact hown', hB3⟩, by simp [intOf]; omega⟩
        · obtain rfl : k = us.length := by omega
          rw [List.take_length] at hown
          obtain ⟨g, c, rfl, hIJ⟩ := owns_ints hown
          go_wp2_with fail
          go_ret
          exact ⟨g, c, rfl, hIJ, hB⟩
end Go.Proofs.Ytoicddebjmfobaa
