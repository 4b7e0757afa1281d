/-
  So many cells of a list, from the first one on again and again; or fills.
-/
import Derived.Test.YtmbgomljofngnaaCycd
namespace Go.Proofs.Ytmbgomljofngnaa
open Go.RowKit
set_option linter.unusedVariables false

set_option maxHeartbeats 1000000 in
theorem fill_any (c : Bool) (w : World) : Calls Try.prog 33 #[.bool c] w fun e w' => e = .returned (.int .i64 (fillE c)) ∧ w' = w := by
  cases c
  all_goals
    go_enter Try.func33, Try.ntmps33
    go_wp2_with fail
    go_ret
    exact ⟨rfl, rfl⟩
set_option maxRecDepth 100000 in
set_option maxHeartbeats 1000000 in
theorem cycle_ne (a : Option Addr) (cap : Nat) (zs : List Int) (n : Nat) (d : Int) (h1 : zs.length ≤ 9223372036854775807) (hn : n ≤ 4096) (h0 : 0 < zs.length) (w : World) (hI : IsInts w.heap.size w a zs) :
    Calls Try.prog 32 #[.slice a zs.length cap, .int .i64 (n : Int), .int .i64 d] w fun e w' => ∃ g c, e = .returned (.slice g (cyc zs n d).length c) ∧ NewInts w.heap.size w' g (cyc zs n d) ∧ Below w.heap.size w w' := by
  have hmk := run_make_row' (P := Try.prog) 23 3 (.int .i64 0) 8 Try.underlying23 Try.infoInt rfl .i64 .i64 n (by omega) (by omega)
  have t0 : ((zs.length : Int) == 0) = false := by rw [beq_eq_false_iff_ne]; omega
  have hne : (zs.length : Int) ≠ 0 := by omega
  go_enter Try.func32, Try.ntmps32
  go_wp2_with fail
  clear hmk
  go_loopw [18] (fun i wr => ∃ k : Nat, k ≤ n ∧ i = .int .i64 k ∧ wr.rowIs w.heap.size 3 n (upTo (cyA zs d) k) ∧ Below w.heap.size w wr) (fun i _ => n - (intOf i).toNat)
  case atStart => exact ⟨0, Nat.zero_le _, rfl, (World.rowIs_made w (.int .i64 0) n 3).congr (fun j _ => by simp [upTo]), (Below.refl _ w).alloc (Nat.le_refl _) _⟩
  case round =>
    obtain ⟨k, hk, rfl, hrow, hB⟩ := hrel
    by_cases hlt : k < n
    · have hm : k % zs.length < zs.length := Nat.mod_lt _ h0
      obtain ⟨b, off, rfl, hb, hcell⟩ := (hI.below hB).at hm
      have hc := hcell _ hm
      clear hcell
      have c2 := hrow.cell hlt
      have f2 := hrow.frozen k
      have e1 : ((k : Int) % (zs.length : Int)) = ((k % zs.length : Nat) : Int) := rfl
      have HV : Hid (nth zs (k % zs.length) = cyA zs d k) := by show _ = _; unfold cyA; rw [if_neg (by omega)]
      obtain ⟨m, hme⟩ : ∃ m, m = k % zs.length := ⟨_, rfl⟩
      rw [← hme] at hm hc e1 HV
      have HM : Hid (m = k % zs.length) := hme
      clear hme
      go_wp2_with fail
      exact ⟨⟨k + 1, by omega, by go_num, upTo_set hrow _ HV.out, hB.setCell (p := ⟨w.heap.size, k, none⟩) (Nat.le_refl _) _⟩, by simp [intOf]; omega⟩
    · obtain rfl : k = n := by omega
      go_wp2_with fail
      go_ret
      exact ⟨some ⟨w.heap.size, 0, none⟩, k, ret_slice' (cyc_length zs k d).symm, upTo_new hrow (Nat.le_refl _) _ (cyc_length zs k d) (fun j hj => cyc_nth zs k d hj), hB⟩
set_option maxRecDepth 100000 in
set_option maxHeartbeats 1000000 in
theorem cycle_no (a : Option Addr) (cap : Nat) (n : Nat) (d : Int) (hn : n ≤ 4096) (w : World) :
    Calls Try.prog 32 #[.slice a 0 cap, .int .i64 (n : Int), .int .i64 d] w fun e w' => ∃ g c, e = .returned (.slice g (cyc [] n d).length c) ∧ NewInts w.heap.size w' g (cyc [] n d) ∧ Below w.heap.size w w' := by
  have hmk := run_make_row' (P := Try.prog) 23 3 (.int .i64 0) 8 Try.underlying23 Try.infoInt rfl .i64 .i64 n (by omega) (by omega)
  go_enter Try.func32, Try.ntmps32
  go_wp2_with fail
  clear hmk
  go_loopw [18] (fun i wr => ∃ k : Nat, k ≤ n ∧ i = .int .i64 k ∧ wr.rowIs (w.heap.size + 1) 3 n (upTo (cyA [] d) k) ∧ wr.cell? ⟨w.heap.size, 0, none⟩ = some (.int .i64 d) ∧ Below w.heap.size w wr) (fun i _ => n - (intOf i).toNat)
  case atStart =>
    refine ⟨0, Nat.zero_le _, rfl, ?_, ?_, ((Below.refl _ w).alloc (Nat.le_refl _) _).alloc (by simp) _⟩
    · have := World.rowIs_made (w.alloc (.cells #[.int .i64 d] 3)) (.int .i64 0) n 3
      rw [World.size_alloc] at this
      exact this.congr (fun j _ => by simp [upTo])
    · rw [World.cell?_alloc_lt _ _ ⟨w.heap.size, 0, none⟩ (by simp)]
      simp
  case round =>
    obtain ⟨k, hk, rfl, hrow, hcd, hB⟩ := hrel
    by_cases hlt : k < n
    · have c2 := hrow.cell hlt
      have f2 := hrow.frozen k
      have e1 : ((k : Int) % 1) = 0 := Int.emod_one _
      have HV : Hid (d = cyA [] d k) := rfl
      go_wp2_with fail
      refine ⟨⟨k + 1, by omega, by go_num, upTo_set hrow _ HV.out, ?_, hB.setCell (p := ⟨w.heap.size + 1, k, none⟩) (by show w.heap.size ≤ w.heap.size + 1; omega) _⟩, by simp [intOf]; omega⟩
      rw [World.cell?_of_block (Below.heap_setCell wr ⟨w.heap.size + 1, k, none⟩ _ w.heap.size (by simp))]
      exact hcd
    · obtain rfl : k = n := by omega
      go_wp2_with fail
      go_ret
      exact ⟨some ⟨w.heap.size + 1, 0, none⟩, k, ret_slice' (cyc_length [] k d).symm, upTo_new hrow (by omega) _ (cyc_length [] k d) (fun j hj => cyc_nth [] k d hj), hB⟩
theorem cycle_any (a : Option Addr) (cap : Nat) (zs : List Int) (n : Nat) (d : Int) (h1 : zs.length ≤ 9223372036854775807) (hn : n ≤ 4096) (w : World) (hI : IsInts w.heap.size w a zs) :
    Calls Try.prog 32 #[.slice a zs.length cap, .int .i64 (n : Int), .int .i64 d] w fun e w' => ∃ g c, e = .returned (.slice g (cyc zs n d).length c) ∧ NewInts w.heap.size w' g (cyc zs n d) ∧ Below w.heap.size w w' := by
  by_cases h0 : zs = []
  · subst h0; exact cycle_no a cap n d hn w
  · exact cycle_ne a cap zs n d h1 hn (List.length_pos_iff.2 h0) w hI
end Go.Proofs.Ytmbgomljofngnaa
