/-
  The first numbers, told with room.
-/
import Derived.Test.YtcpmendkocnlhabIota
import Derived.Test.YtcpmendkocnlhabCutn
namespace Go.Proofs.Ytcpmendkocnlhab
open Go.RowKit
set_option linter.unusedVariables false

set_option maxRecDepth 100000 in
set_option maxHeartbeats 1000000 in
theorem line_c (c : Bool) (a : Option Addr) (cap : Nat) (zs : List Int) (w : World) :
    Calls Try.prog 15 #[.bool c, .slice a zs.length cap] w fun e w' => ∃ sa sc, e = .returned (.agg #[.bool c, .slice sa 1 sc, .slice a zs.length cap]) ∧ NewInts w.heap.size w' sa [(zs.length : Int)] ∧ 1 ≤ sc ∧ Below w.heap.size w w' := by
  go_enter Try.func15, Try.ntmps15
  go_wp2_with fail
  refine bodyPost_ret (v := .agg #[.bool c, .slice (some ⟨w.heap.size + 1, 0, none⟩) 1 1, .slice a zs.length cap]) (by simp [results, Try.results15, go_sem]) rfl ⟨some ⟨w.heap.size + 1, 0, none⟩, 1, rfl, ?_, Nat.le_refl _, ((Below.refl _ w).alloc (Nat.le_refl _) _).alloc (by simp) _⟩
  have := new_ints1 (w.alloc (.cells #[.bool c, .slice (some ⟨w.heap.size + 1, 0, none⟩) 1 1, .slice a zs.length cap] 24)) 3 zs.length
  rw [World.size_alloc w] at this
  exact this.low (by omega)
set_option maxRecDepth 100000 in
set_option maxHeartbeats 1000000 in
theorem iota_c (n : Nat) (hn : n ≤ 4096) (w : World) :
    Calls Try.prog 5 #[.int .i64 (n : Int)] w fun e w' => ∃ xa xc ya yc, e = .returned (.tuple #[.agg #[.bool false, .slice xa 1 xc, .slice ya n yc], .nilIface]) ∧ NewC w.heap.size w' xa [(n : Int)] xc ∧ NewC w.heap.size w' ya (iot n) yc ∧ Below w.heap.size w w' := by
  have hmk := run_make_row' (P := Try.prog) 22 3 (.int .i64 0) 8 Try.underlying22 Try.infoInt rfl .i64 .i64 n (by omega) (by omega)
  have t1 : ¬ (n : Int) < 0 := by omega
  have t2 : ¬ (4096 : Int) < (n : Int) := by omega
  have HL : Hid ((iot n).length = n) := iot_length n
  go_enter Try.func5, Try.ntmps5
  go_wp2_with fail
  clear hmk
  go_loopw [18] (fun i wr => ∃ k : Nat, k ≤ n ∧ i = .int .i64 k ∧ wr.rowIs (w.heap.size + 1) 3 n (upTo (fun j => (j : Int)) k) ∧ Abx wr w.heap.size (.bool false) (.slice none 0 0) (.slice none 0 0) ∧ Below w.heap.size w wr) (fun i _ => n - (intOf i).toNat)
  case atStart =>
    refine ⟨0, Nat.zero_le _, rfl, ?_, (Abx.new w _ _ _).al _, ((Below.refl _ w).alloc (Nat.le_refl _) _).alloc (by simp) _⟩
    have := World.rowIs_made (w.alloc (.cells #[.bool false, .slice none 0 0, .slice none 0 0] 24)) (.int .i64 0) n 3
    rw [World.size_alloc] at this
    exact this.congr (fun j _ => by simp [upTo])
  case round =>
    obtain ⟨k, hk, rfl, hrow, hA, hB⟩ := hrel
    by_cases hlt : k < n
    · have c2 := hrow.cell hlt
      have f2 := hrow.frozen k
      go_wp2_with fail
      exact ⟨⟨k + 1, by omega, by go_num, upTo_set hrow _ rfl, hA.ot (by simp) _, hB.setCell (p := ⟨w.heap.size + 1, k, none⟩) (by show w.heap.size ≤ w.heap.size + 1; omega) _⟩, by simp [intOf]; omega⟩
    · obtain rfl : k = n := by omega
      have hN : NewInts (w.heap.size + 1) wr (some ⟨w.heap.size + 1, 0, none⟩) (iot k) := upTo_new hrow (Nat.le_refl _) _ (iot_length k) (fun j hj => iot_nth k hj)
      have hlt0 := hrow.lt
      clear hrow
      go_wp2_with fail
      have hln := line_c false (some ⟨w.heap.size + 1, 0, none⟩) k (iot k) wr
      rw [HL.out] at hln
      refine hln.mono ?_
      rintro e w3 ⟨xa, xc, rfl, hX, hxc, hB3⟩
      clear hln
      have R4 := hA.go hB3
      have r0 := R4.c0
      have r1 := R4.c1
      have r2 := R4.c2
      have f0 := R4.fr 0
      have f1 := R4.fr 1
      have f2 := R4.fr 2
      go_wp2_with fail
      have F := R4.set3 (.bool false) (.slice xa 1 xc) (.slice (some ⟨w.heap.size + 1, 0, none⟩) k k)
      have q0 := F.c0
      have q1 := F.c1
      have q2 := F.c2
      refine bodyPost_ret (v := .tuple #[.agg #[.bool false, .slice xa 1 xc, .slice (some ⟨w.heap.size + 1, 0, none⟩) k k], .nilIface]) (by simp [results, Try.results5, go_sem, q0, q1, q2]) rfl ⟨xa, xc, some ⟨w.heap.size + 1, 0, none⟩, k, rfl, ?_, ?_, ?_⟩
      · exact ⟨(hX.set3 (by omega) _ _ _).low (by omega), hxc⟩
      · exact ⟨((hN.go hB3).set3 (by omega) _ _ _).low (by omega), by rw [iot_length]; exact Nat.le_refl _⟩
      · exact bel_set3 (hB.trans (hB3.mono hB.size)) (Nat.le_refl _) _ _ _
end Go.Proofs.Ytcpmendkocnlhab
