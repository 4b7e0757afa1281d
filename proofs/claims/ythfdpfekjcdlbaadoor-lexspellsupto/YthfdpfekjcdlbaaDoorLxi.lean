/-
  What a wrong word panicked with is told; the deferred call of Read.
-/
import Derived.Stop.Asserts
import Derived.Defers
import Derived.Recover
import Derived.Test.YthfdpfekjcdlbaaDoorLxh
namespace Go.Proofs.YthfdpfekjcdlbaaDoor
open Go.RowKit Go.Lib
set_option linter.unusedVariables false

theorem ta_hit {P : Program} {S x : TypeId} (v : Value) (w : World) (hu : P.underlying S = some (.int .i64)) :
    (Instr.typeAssert (.iface S v) x S true).run P w = .ok (.tuple #[v, .bool true]) w := by
  simp [Instr.typeAssert, run_underlying hu, Sem.run_bind, Result.andThen]
theorem ta_miss {P : Program} {S T x : TypeId} (v : Value) (w : World) (hu : P.underlying S = some (.int .i64)) (hz : (zeroValue S).run P w = .ok (.int .i64 0) w) (h : T ≠ S) :
    (Instr.typeAssert (.iface T v) x S true).run P w = .ok (.tuple #[.int .i64 0, .bool false]) w := by
  simp [Instr.typeAssert, run_underlying hu, hz, h, Sem.run_bind, Result.andThen]
set_option maxRecDepth 100000 in
set_option maxHeartbeats 2000000 in
theorem told_any17 (c : Int) (hc : c = 1 ∨ c = 6 ∨ c = 7) (n : Int) (w : World) :
    Calls Tryd.prog 14 #[.iface (errT c) (.int .i64 n)] w fun e w' => e = .returned (.tuple #[.int .i64 n, errV c]) ∧ w' = w := by
  rcases hc with rfl | rfl | rfl
  · have h1 := fun w => ta_hit (P := Tryd.prog) (S := 52) (x := 20) (.int .i64 n) w Tryd.underlying52
    simp only [errT]
    go_enter Tryd.func14, Tryd.ntmps14
    go_wp2_with fail
    exact bodyPost_ret (v := .tuple #[.int .i64 n, errV 1]) (by simp [results, Tryd.results14, go_sem, errV]) rfl ⟨rfl, rfl⟩
  · have h1 := fun w => ta_miss (P := Tryd.prog) (S := 52) (T := 53) (x := 20) (.int .i64 n) w Tryd.underlying52 (Tryd.zeroValue52 w) (by decide)
    have h2 := fun w => ta_hit (P := Tryd.prog) (S := 53) (x := 20) (.int .i64 n) w Tryd.underlying53
    simp only [errT]
    go_enter Tryd.func14, Tryd.ntmps14
    go_wp2_with fail
    exact bodyPost_ret (v := .tuple #[.int .i64 n, errV 6]) (by simp [results, Tryd.results14, go_sem, errV]) rfl ⟨rfl, rfl⟩
  · have h1 := fun w => ta_miss (P := Tryd.prog) (S := 52) (T := 43) (x := 20) (.int .i64 n) w Tryd.underlying52 (Tryd.zeroValue52 w) (by decide)
    have h2 := fun w => ta_miss (P := Tryd.prog) (S := 53) (T := 43) (x := 20) (.int .i64 n) w Tryd.underlying53 (Tryd.zeroValue53 w) (by decide)
    have h3 := fun w => ta_hit (P := Tryd.prog) (S := 43) (x := 20) (.int .i64 n) w Tryd.underlying43
    simp only [errT]
    go_enter Tryd.func14, Tryd.ntmps14
    go_wp2_with fail
    exact bodyPost_ret (v := .tuple #[.int .i64 n, errV 7]) (by simp [results, Tryd.results14, go_sem, errV]) rfl ⟨rfl, rfl⟩
set_option maxRecDepth 100000 in
set_option maxHeartbeats 2000000 in
theorem catch17 (c : Int) (hc : c = 1 ∨ c = 6 ∨ c = 7) (n : Int) (k : Nat) (v0 v1 v2 : Value) (w : World) (h0 : w.heap[k]? = some (.cells #[v0] 22 (0, 0))) (h1 : w.heap[k + 1]? = some (.cells #[v1] 3 (0, 0))) (h2 : w.heap[k + 2]? = some (.cells #[v2] 24 (0, 0))) :
    CallsD Tryd.prog 19 #[.pointer (some ⟨k, 0, none⟩), .pointer (some ⟨k + 1, 0, none⟩), .pointer (some ⟨k + 2, 0, none⟩)] (.panicking [{ v := .iface (errT c) (.int .i64 n), recovered := false }]) w fun e u' w' =>
      e = .returned (.tuple #[]) ∧ u' = .panicking [{ v := .iface (errT c) (.int .i64 n), recovered := true }] ∧ w' = ((w.setCell ⟨k, 0, none⟩ (.slice none 0 0)).setCell ⟨k + 1, 0, none⟩ (.int .i64 n)).setCell ⟨k + 2, 0, none⟩ (errV c) := by
  refine callsD_of_wpS Tryd.func19 rfl fun c₀ cs hu => ?_
  apply wpS_seq
  apply wpS_region
  simp [wpOpsS, go_sem, recoverD, hu, Tryd.ntmps19, Exit.thenS]
  refine wpS_of_wp ?_
  have ht := told_any17 c hc n
  have he : errV c = .iface 30 (.int .i64 c) := errV_pos (by omega)
  rw [he] at ht ⊢
  have hb0 : w.cell? ⟨k, 0, none⟩ = some v0 := by simp [World.cell?, h0]
  have hz0 : w.frozen? ⟨k, 0, none⟩ = false := by simp [World.frozen?, h0]
  have e1 : (w.setCell ⟨k, 0, none⟩ (.slice none 0 0)).heap[k + 1]? = some (.cells #[v1] 3 (0, 0)) := (Below.heap_setCell w ⟨k, 0, none⟩ _ (k + 1) (by show k + 1 ≠ k; omega)).trans h1
  have e2 : (w.setCell ⟨k, 0, none⟩ (.slice none 0 0)).heap[k + 2]? = some (.cells #[v2] 24 (0, 0)) := (Below.heap_setCell w ⟨k, 0, none⟩ _ (k + 2) (by show k + 2 ≠ k; omega)).trans h2
  obtain ⟨w1, hw1⟩ : ∃ w1, w1 = w.setCell ⟨k, 0, none⟩ (.slice none 0 0) := ⟨_, rfl⟩
  rw [← hw1] at e1 e2
  have hb1 : w1.cell? ⟨k + 1, 0, none⟩ = some v1 := by simp [World.cell?, e1]
  have hz1 : w1.frozen? ⟨k + 1, 0, none⟩ = false := by simp [World.frozen?, e1]
  have e3 : (w1.setCell ⟨k + 1, 0, none⟩ (.int .i64 n)).heap[k + 2]? = some (.cells #[v2] 24 (0, 0)) := (Below.heap_setCell w1 ⟨k + 1, 0, none⟩ _ (k + 2) (by show k + 2 ≠ k + 1; omega)).trans e2
  have hb2 : (w1.setCell ⟨k + 1, 0, none⟩ (.int .i64 n)).cell? ⟨k + 2, 0, none⟩ = some v2 := by simp [World.cell?, e3]
  have hz2 : (w1.setCell ⟨k + 1, 0, none⟩ (.int .i64 n)).frozen? ⟨k + 2, 0, none⟩ = false := by simp [World.frozen?, e3]
  rw [← hw1]
  have HW : Hid (w1 = w.setCell ⟨k, 0, none⟩ (.slice none 0 0)) := hw1
  clear e1 e2 e3 h0 h1 h2 hw1
  change Code.wp Tryd.prog _ _ { tmps := #[.pointer (some ⟨k, 0, none⟩), .pointer (some ⟨k + 1, 0, none⟩), .pointer (some ⟨k + 2, 0, none⟩), .iface (errT c) (.int .i64 n), .iface (errT c) (.int .i64 n), undef, undef, undef, undef, undef, undef, undef], defers := [] } w
  go_wp2_with fail
  rw [← HW.out]
  refine (ht _).mono ?_
  rintro e w' ⟨rfl, rfl⟩
  go_wp2_with fail
  simp [bodyPostS, results, Tryd.results19]
theorem idle17 (k : Nat) (w : World) :
    CallsD Tryd.prog 19 #[.pointer (some ⟨k, 0, none⟩), .pointer (some ⟨k + 1, 0, none⟩), .pointer (some ⟨k + 2, 0, none⟩)] .returning w fun e u' w' => e = .returned (.tuple #[]) ∧ u' = .returning ∧ w' = w := by
  refine callsD_of_wpS Tryd.func19 rfl fun c₀ cs hu => ?_
  apply wpS_seq
  apply wpS_region
  simp [wpOpsS, go_sem, recoverD, hu, Tryd.ntmps19, Exit.thenS]
  refine wpS_of_wp ?_
  change Code.wp Tryd.prog _ _ { tmps := #[.pointer (some ⟨k, 0, none⟩), .pointer (some ⟨k + 1, 0, none⟩), .pointer (some ⟨k + 2, 0, none⟩), .nilIface, .nilIface, undef, undef, undef, undef, undef, undef, undef], defers := [] } w
  go_wp2_with fail
  cases c₀
  simp_all [bodyPostS, results, Tryd.results19]
end Go.Proofs.YthfdpfekjcdlbaaDoor
