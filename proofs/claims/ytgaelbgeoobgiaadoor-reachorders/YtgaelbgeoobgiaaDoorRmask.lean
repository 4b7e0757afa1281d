/-
  The reference's look at a mask, and its sum.
-/
import Derived.Test.YtgaelbgeoobgiaaDoorCutm
import Derived.Test.YtgaelbgeoobgiaaDoorBase
namespace Go.Proofs.YtgaelbgeoobgiaaDoor
open Go.RowKit
set_option linter.unusedVariables false

theorem msk_bad {m : List Int} {k : Nat} (hk : k < m.length) (h0 : nth m k ≠ 0) (h1 : nth m k ≠ 1) : mskB m = false := by
  unfold mskB
  rw [List.all_eq_false]
  exact ⟨nth m k, nth_mem m k hk, by simp [h0, h1]⟩
theorem msk_snoc {m : List Int} {k : Nat} (hk : k < m.length) (h : mskB (m.take k) = true) (hx : nth m k = 0 ∨ nth m k = 1) : mskB (m.take (k + 1)) = true := by
  unfold mskB at *
  rw [List.take_succ_eq_append_getElem hk, ← nth_get m k hk, List.all_append, h]
  simpa using hx
theorem msk_take {m : List Int} (h : mskB m = true) (k : Nat) : mskB (m.take k) = true := by
  unfold mskB at *
  exact List.all_eq_true.2 fun x hx => List.all_eq_true.1 h x (List.mem_of_mem_take hx)
theorem IsInts.take {n₀ : Nat} {W : World} {a : Option Addr} {zs : List Int} (k : Nat) : IsInts n₀ W a zs → IsInts n₀ W a (zs.take k)
  | .inl e => .inl (by rw [e]; simp)
  | .inr ⟨b, off, e, hb, hc⟩ => .inr ⟨b, off, e, hb, fun j hj => by rw [List.length_take] at hj; rw [nth_take zs k j (by omega)]; exact hc j (by omega)⟩
set_option maxRecDepth 100000 in
set_option maxHeartbeats 1000000 in
theorem mask_any (a : Option Addr) (cap : Nat) (zs : List Int) (hreach : zs.length ≤ 9223372036854775807) (n₀ : Nat) (w : World) (hI : IsInts n₀ w a zs) :
    Calls Tryd.prog 19 #[.slice a zs.length cap] w fun e w' => e = .returned (.bool (mskB zs)) ∧ w' = w := by
  go_enter Tryd.func19, Tryd.ntmps19
  go_wp2_with fail
  go_loop [3] (fun i => ∃ k : Nat, k ≤ zs.length ∧ i = .int .i64 k ∧ Hid (mskB (zs.take k) = true)) (fun i => zs.length - (intOf i).toNat)
  case atStart => exact ⟨0, Nat.zero_le _, rfl, rfl⟩
  case round =>
    obtain ⟨k, hk, rfl, HA⟩ := hrel
    by_cases hlt : k < zs.length
    · obtain ⟨b, off, rfl, hb, hcell⟩ := hI.at hlt
      have hc := hcell k hlt
      clear hcell
      by_cases h0 : nth zs k = 0
      · have hst : Hid (mskB (zs.take (k + 1)) = true) := msk_snoc hlt HA.out (.inl h0)
        have t0 : (nth zs k != 0) = false := by simp [h0]
        clear h0
        go_wp2_with fail
        exact ⟨⟨k + 1, by omega, by go_num, hst⟩, by simp [intOf]; omega⟩
      · have t0 : (nth zs k != 0) = true := by simp [h0]
        by_cases h1 : nth zs k = 1
        · have hst : Hid (mskB (zs.take (k + 1)) = true) := msk_snoc hlt HA.out (.inr h1)
          have t1 : (nth zs k != 1) = false := by simp [h1]
          clear h0 h1
          go_wp2_with fail
          exact ⟨⟨k + 1, by omega, by go_num, hst⟩, by simp [intOf]; omega⟩
        · have hfin : Hid (mskB zs = false) := msk_bad hlt h0 h1
          have t1 : (nth zs k != 1) = true := by simp [h1]
          clear h0 h1
          go_wp2_with fail
          go_ret
          exact ⟨ret_bool hfin.out.symm, rfl⟩
    · obtain rfl : k = zs.length := by omega
      have hfin : Hid (mskB zs = true) := by have := HA.out; rwa [List.take_length] at this
      go_wp2_with fail
      go_ret
      exact ⟨ret_bool hfin.out.symm, rfl⟩
end Go.Proofs.YtgaelbgeoobgiaaDoor
