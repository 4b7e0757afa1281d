/-
  The small functions of package cut: fills, numbers one behind the other, what is asked of a mask, blocks.
-/
import Derived.Test.YtmbgomljofngnacDoorCutj
import Derived.Test.YtmbgomljofngnacDoorCutf
import Derived.Test.YtmbgomljofngnacDoorCutq
import Derived.Test.YtmbgomljofngnacDoorBase
namespace Go.Proofs.YtmbgomljofngnacDoor
open Go.RowKit
set_option linter.unusedVariables false

set_option maxRecDepth 100000 in
set_option maxHeartbeats 1000000 in
theorem block_any (a : Option Addr) (cap : Nat) (zs : List Int) (x : Nat) (hx : x < zs.length) (he : errOf zs = 0) (n₀ : Nat) (w : World) (hI : IsC n₀ w a zs cap) :
    Calls Tryd.prog 26 #[.int .i64 (x : Nat), .slice a zs.length cap] w fun e w' => e = .returned (.int .i64 (blk zs x)) ∧ w' = w := by
  obtain ⟨hI, hcap⟩ := hI
  obtain ⟨b, off, rfl, hb, hcell⟩ := hI.at hx
  have hz := errOf_zero.1 he
  have hl6 : zs.length ≤ 6 := hz.1
  have HA : Hid (AllIn zs ∧ prod zs ≤ 4096) := ⟨hz.2.1, hz.2.2⟩
  have HC : Hid (∀ j, j < zs.length → w.cell? ⟨b, off + j, none⟩ = some (.int .i64 (nth zs j))) := hcell
  obtain ⟨m, hm⟩ : ∃ m, zs.length = x + m := ⟨zs.length - x, by omega⟩
  obtain ⟨s, hs⟩ : ∃ s, s = zs.drop x := ⟨_, rfl⟩
  have hsl : s.length = m := by rw [hs, List.length_drop]; omega
  have HS : Hid (s.length = m ∧ (∀ j, j < m → nth s j = nth zs (x + j)) ∧ AllIn s ∧ prod s = blk zs x) := ⟨hsl, fun j hj => by rw [hs]; simp [nth], by rw [hs]; exact HA.out.1.drop _, by rw [hs]; rfl⟩
  have HW : Hid (∀ k, k < m → 0 ≤ prod (s.take (k + 1)) ∧ prod (s.take (k + 1)) ≤ 1152921504606846976) := by
    intro k hk
    by_cases h5 : k + 1 ≤ 5
    · refine prod_60 (fun y hy => HS.out.2.2.1 y (List.mem_of_mem_take hy)) ?_
      rw [List.length_take]; omega
    · have e : s.take (k + 1) = zs := by
        have hx0 : x = 0 := by omega
        rw [List.take_of_length_le (by omega), hs, hx0, List.drop_zero]
      rw [e]
      have := prod_nonneg HA.out.1
      have := HA.out.2
      omega
  clear hs hsl hcell HA
  have hx1 : x < 9223372036854775806 := by omega
  have hm6 : m ≤ 6 := by omega
  go_enter Tryd.func26, Tryd.ntmps26
  go_wp2_with fail
  go_loop [5, 12] (fun pv i => ∃ k : Nat, k ≤ m ∧ i = .int .i64 k ∧ pv = .int .i64 (prod (s.take k))) (fun _ i => m - (intOf i).toNat)
  case atStart => exact ⟨0, Nat.zero_le _, rfl, rfl⟩
  case round =>
    obtain ⟨k, hk, rfl, rfl⟩ := hrel
    by_cases hlt : k < m
    · have hc : w.cell? ⟨b, off + x + k, none⟩ = some (.int .i64 (nth s k)) := by
        rw [HS.out.2.1 k hlt, ← HC.out (x + k) (by omega), Nat.add_assoc]
      have HP : Hid (prod (s.take k) * nth s k = prod (s.take (k + 1)) ∧ 0 ≤ prod (s.take (k + 1)) ∧ prod (s.take (k + 1)) ≤ 1152921504606846976) :=
        ⟨(prod_take1 s k (by rw [HS.out.1]; exact hlt)).symm, HW.out k hlt⟩
      obtain ⟨P, hP⟩ : ∃ P, P = prod (s.take k) := ⟨_, rfl⟩
      obtain ⟨Q, hQ⟩ : ∃ Q, Q = prod (s.take (k + 1)) := ⟨_, rfl⟩
      rw [← hP]
      have HPQ : Hid (P * nth s k = Q ∧ 0 ≤ Q ∧ Q ≤ 1152921504606846976) := by rw [hP, hQ]; exact HP.out
      have HQ : Hid (Q = prod (s.take (k + 1))) := hQ
      have hw : IntKind.i64.wrap (P * nth s k) = Q := by rw [HPQ.out.1]; exact IntWalk.i64_in _ (by have := HPQ.out.2; omega)
      clear hP hQ HP
      go_wp2_with fail
      exact ⟨⟨k + 1, by omega, by go_num, int_eq HQ.out⟩, by simp [intOf]; omega⟩
    · obtain rfl : k = m := by omega
      have hfin : Hid (prod (s.take k) = blk zs x) := by
        have h := HS.out
        rw [List.take_of_length_le (by omega)]
        exact h.2.2.2
      go_wp2_with fail
      go_ret
      exact ⟨ret_int hfin.out, rfl⟩
end Go.Proofs.YtmbgomljofngnacDoor
