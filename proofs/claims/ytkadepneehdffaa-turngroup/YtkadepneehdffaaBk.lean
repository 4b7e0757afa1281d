/-
  An order turned round, as the statements' helper makes it.
-/
import Derived.Test.YtkadepneehdffaaBase
import Derived.Test.YtkadepneehdffaaOrdr
namespace Go.Proofs.Ytkadepneehdffaa
open Go.RowKit
set_option linter.unusedVariables false

theorem ret_slice {a : Option Addr} {n m c : Nat} (h : n = m) : Ending.returned (.slice a n c) = .returned (.slice a m c) := by rw [h]

set_option maxRecDepth 100000 in
set_option maxHeartbeats 1000000 in
theorem bk_any (a : Option Addr) (cap : Nat) (ps : List Int) (hl : ps.length ≤ 1000) (ho : IsOrd ps) (w : World) (hI : IsInts w.heap.size w a ps) :
    Calls Try.prog 9 #[.slice a ps.length cap] w fun e w' => ∃ g c q, e = .returned (.slice g q.length c) ∧ Hid (q = bkl ps ps.length) ∧ IsInts w'.heap.size w' g q ∧ Below w.heap.size w w' := by
  have hmk := run_make_row' (P := Try.prog) 22 3 (.int .i64 0) 8 Try.underlying22 Try.infoInt rfl .i64 .i64 ps.length (by omega) (by omega)
  have HO : Hid (IsOrd ps) := ho
  clear ho
  go_enter Try.func9, Try.ntmps9
  go_wp2_with fail
  clear hmk
  go_loopw [4] (fun i wr => ∃ k : Nat, k ≤ ps.length ∧ i = .int .i64 k ∧ wr.rowIs w.heap.size 3 ps.length (fun j => .int .i64 (nth (bkl ps k) j)) ∧ Below w.heap.size w wr) (fun i _ => ps.length - (intOf i).toNat)
  case atStart => exact ⟨0, Nat.zero_le _, rfl, (World.rowIs_made w (.int .i64 0) ps.length 3).congr (fun j _ => by simp only [bkl, nth_replicate]), (Below.refl _ w).alloc (Nat.le_refl _) _⟩
  case round =>
    obtain ⟨k, hk, rfl, hrow, hB⟩ := hrel
    by_cases hlt : k < ps.length
    · obtain ⟨b, off, rfl, hb, hcell⟩ := (hI.below hB).at hlt
      have hc := hcell k hlt
      clear hcell
      have hbo := HO.out.1 k hlt
      obtain ⟨m, hm⟩ := Int.eq_ofNat_of_zero_le hbo.1
      have hmz : m < ps.length := by omega
      rw [hm] at hc
      have HM : Hid (nth ps k = m) := hm
      have HB : Hid (0 ≤ nth ps k ∧ nth ps k < ps.length) := hbo
      clear hm hbo
      have c2 := hrow.cell hmz
      have f2 := hrow.frozen m
      have hd1 : decide ((0 : Int) ≤ (m : Int)) = true := by simp
      have hd2 : decide ((m : Int) < (ps.length : Int)) = true := by simp; omega
      go_wp2_with fail
      refine ⟨⟨k + 1, by omega, by go_num, (hrow.set m (.int .i64 k)).congr (fun j hj => ?_), hB.setCell (p := ⟨w.heap.size, m, none⟩) (Nat.le_refl _) _⟩, by simp [intOf]; omega⟩
      simp only [bkl]
      rw [if_pos HB.out, HM.out, Int.toNat_natCast, nth_set _ _ _ _ (by rw [bkl_length]; exact hmz)]
      by_cases e : j = m
      · rw [if_pos e, if_pos e]
      · rw [if_neg e, if_neg e]
    · obtain rfl : k = ps.length := by omega
      go_wp2_with fail
      go_ret
      refine ⟨some ⟨w.heap.size, 0, none⟩, ps.length, bkl ps ps.length, ret_slice (bkl_length ps _).symm, rfl, .inr ⟨w.heap.size, 0, rfl, hrow.lt, fun j hj => ?_⟩, hB⟩
      rw [Nat.zero_add]
      exact hrow.cell (by rw [bkl_length] at hj; exact hj)
end Go.Proofs.Ytkadepneehdffaa
