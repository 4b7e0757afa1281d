/-
  Two lists, the one behind the other, in new memory, with room.
-/
import Derived.Test.YtjaabemlpiafaabCapi
namespace Go.Proofs.Ytjaabemlpiafaab
open Go.RowKit
set_option linter.unusedVariables false

set_option maxRecDepth 100000 in
set_option maxHeartbeats 4000000 in
theorem joinc_any (a : Option Addr) (cap : Nat) (zs : List Int) (a' : Option Addr) (cap' : Nat) (us : List Int) (h1 : zs.length ≤ 100000) (h2 : us.length ≤ 100000) (w : World) (hI : IsInts w.heap.size w a zs) (hI' : IsInts w.heap.size w a' us) :
    Calls Try.prog 17 #[.slice a zs.length cap, .slice a' us.length cap'] w fun e w' => ∃ g c st, e = .returned (.slice g st.length c) ∧ Hid (st = zs ++ us) ∧ NewC w.heap.size w' g st c ∧ Below w.heap.size w w' := by
  obtain ⟨i0, hi, hz0, hz1, hz2⟩ := info_parts Try.infoInt
  go_enter Try.func17, Try.ntmps17
  go_wp2_with fail
  go_loopw [5, 6] (fun v i wr => ∃ k : Nat, k ≤ zs.length ∧ i = .int .i64 k ∧ wr.ownsRow w.heap.size 3 1 v k ((zs.take k).map (Value.int .i64)) ∧ Below w.heap.size w wr) (fun _ i _ => zs.length - (intOf i).toNat)
  case atStart => exact ⟨0, Nat.zero_le _, rfl, World.ownsRow_nil _ _ _ _, Below.refl _ _⟩
  case round =>
    obtain ⟨k, hk, rfl, hown, hB⟩ := hrel
    by_cases hlt : k < zs.length
    · obtain ⟨b, off, rfl, hb, hcell⟩ := (hI.below hB).at hlt
      have hc := hcell k hlt
      clear hcell
      have HT : Hid (zs.take (k + 1) = zs.take k ++ [nth zs k]) := take_snoc zs k hlt
      have hbs := hB.size
      go_wp2_with (at_builtin; refine wpList_append_own _ rfl _ _ 22 rfl w.heap.size 3 i0 (.int .i64 0) 1 8 Try.underlying22 hi hz0 hz1 hz2 rfl (by decide) _ _ _ rfl (hown.alloc _) ⟨wr.heap.size, 0, none⟩ 1 1 [.int .i64 (nth zs k)] rfl rfl (cell_one_new _ _ _) (fun x hx => by simp at hx; subst hx; rfl) (by unfold maxLen; omega) (by omega) (by simp; omega) ?_; intro v' w3 hown' hgrow3 hnil3)
      have hB3 : Below w.heap.size w w3 := owns_below hB hbs hown hgrow3
      exact ⟨⟨k + 1, by omega, by go_num, by rw [HT.out, List.map_append]; exact hown', hB3⟩, by simp [intOf]; omega⟩
    · obtain rfl : k = zs.length := by omega
      rw [List.take_length] at hown
      go_wp2_with fail
      go_loopw [5, 7] (fun v i wr => ∃ k : Nat, k ≤ us.length ∧ i = .int .i64 k ∧ wr.ownsRow w.heap.size 3 1 v (zs.length + k) ((zs ++ us.take k).map (Value.int .i64)) ∧ Below w.heap.size w wr) (fun _ i _ => us.length - (intOf i).toNat)
      case atStart => exact ⟨0, Nat.zero_le _, rfl, by simpa using hown, hB⟩
      case round =>
        clear hown hB hk hlt
        obtain ⟨k, hk, rfl, hown, hB⟩ := hrel
        by_cases hlt : k < us.length
        · obtain ⟨b, off, rfl, hb, hcell⟩ := (hI'.below hB).at hlt
          have hc := hcell k hlt
          clear hcell
          have HT : Hid (us.take (k + 1) = us.take k ++ [nth us k]) := take_snoc us k hlt
          have hbs := hB.size
          go_wp2_with (at_builtin; refine wpList_append_own _ rfl _ _ 22 rfl w.heap.size 3 i0 (.int .i64 0) 1 8 Try.underlying22 hi hz0 hz1 hz2 rfl (by decide) _ _ _ rfl (hown.alloc _) ⟨wr.heap.size, 0, none⟩ 1 1 [.int .i64 (nth us k)] rfl rfl (cell_one_new _ _ _) (fun x hx => by simp at hx; subst hx; rfl) (by unfold maxLen; omega) (by omega) (by simp; omega) ?_; intro v' w3 hown' hgrow3 hnil3)
          have hB3 : Below w.heap.size w w3 := owns_below hB hbs hown hgrow3
          exact ⟨⟨k + 1, by omega, by go_num, by rw [HT.out, ← List.append_assoc, List.map_append]; exact hown', hB3⟩, by simp [intOf]; omega⟩
        · obtain rfl : k = us.length := by omega
          rw [List.take_length] at hown
          have hJ : ∃ st : List Int, Hid (st = zs ++ us) ∧ zs.length + us.length = st.length := ⟨_, rfl, by rw [List.length_append]⟩
          obtain ⟨st, hst, hsl⟩ := hJ
          rw [← hst.out, hsl] at hown
          obtain ⟨g, c, rfl, hIJ⟩ := own_cap hown
          clear hsl hown
          go_wp2_with fail
          go_ret
          exact ⟨g, c, st, rfl, hst, hIJ, hB⟩
/-- With nothing behind it: a list of its own with the same numbers. -/
theorem copy_c (a : Option Addr) (cap : Nat) (zs : List Int) (h1 : zs.length ≤ 100000) (w : World) (hI : IsInts w.heap.size w a zs) :
    Calls Try.prog 17 #[.slice a zs.length cap, .slice none 0 0] w fun e w' => ∃ g c, e = .returned (.slice g zs.length c) ∧ NewC w.heap.size w' g zs c ∧ Below w.heap.size w w' := by
  refine (joinc_any a cap zs none 0 [] h1 (by simp) w hI (.inl rfl)).mono ?_
  rintro e w' ⟨g, c, st, rfl, hst, hN, hB⟩
  have e := hst.out
  rw [List.append_nil] at e
  subst e
  exact ⟨g, c, rfl, hN, hB⟩
end Go.Proofs.Ytjaabemlpiafaab
