/-
  The axes from the last one on: what slices.Backward hands to a loop's body, and in which order.
-/
import Derived.RangeFuncNested
import Derived.RangeFuncBound
import Derived.RangeFuncCalls
import Derived.RangeFuncLeaves
import Derived.RangeFuncBox
import Derived.Shelf.Abstract
import Derived.Shelf.RegionOpen
import Derived.WalkKit
import Derived.OwnWalkIn
import Derived.TacticsInMore
import Derived.LoopNIn
import Derived.LoopIn
import Derived.Test.YtgaelbgeoobgiaaBase
namespace Go.Proofs.Ytgaelbgeoobgiaa
open Go.RowKit Go.Shelf
set_option linter.unusedVariables false
attribute [local go_sem] Oper.semAt_some

set_option maxRecDepth 100000 in
set_option maxHeartbeats 2000000 in
/-- The iterator's closure: each axis from the last one on, for every loop body that keeps what lay below n₀ and the box of the slice. -/
theorem bw1_in (F : Fence) (n : Nat) (hf1 : F.fn 62) (hro : F.round = none) (hn : 1 ≤ n) (l Bs n₀ : Nat) (a : Option Addr) (cap : Nat) (zs : List Int) (hreach : zs.length ≤ 9223372036854775807) (J Jx : List (Ax zs.length) → World → Prop)
    (hY : ∀ pre x W, J pre W → pre.length < zs.length → YieldAt F (n - 1) Try.prog l #[.int .i64 (x.1 : Int), .int .i64 (nth zs x.1)] W fun e W' =>
      (e = .returned (.bool true) ∧ J (pre ++ [x]) W' ∧ Kpt n₀ Bs W W') ∨ (e = .returned (.bool false) ∧ Jx (pre ++ [x]) W'))
    (W : World) (hBs : W.cell? ⟨Bs, 0, none⟩ = some (.slice a zs.length cap)) (hI : IsInts n₀ W a zs) (h0 : J [] W) :
    CallsIn F n Try.prog 62 #[.func (.yield l) #[] #[], .pointer (some ⟨Bs, 0, none⟩)] W fun e W' => (∃ v, e = .returned v) ∧
      ((∃ ys, ys = dn zs.length zs.length ∧ J ys W') ∨ (∃ pre, (∃ k, k ≤ zs.length ∧ pre = dn zs.length k) ∧ Jx pre W')) := by
  refine callsIn_of_wp Try.func62 rfl hf1 ?_ hro
  simp only [Try.ntmps62, List.size_toArray, List.length_cons, List.length_nil, Nat.reduceAdd, Nat.reduceSub, Array.replicate_succ, Array.replicate_zero, List.push_toArray, List.append_toArray, List.nil_append, List.cons_append]
  gi_wp2
  gi_loopw [3] (fun i wr => ((∃ q : Nat, q < zs.length ∧ i = .int .i64 q ∧ J (dn zs.length (zs.length - 1 - q)) wr) ∨ (i = .int .i64 (-1) ∧ J (dn zs.length zs.length) wr)) ∧ Kpt n₀ Bs W wr)
    (fun i _ => (intOf i + 1).toNat)
  case atStart =>
    refine ⟨?_, Kpt.refl _ _ _⟩
    by_cases hz : zs.length = 0
    · right
      refine ⟨int_eq (by omega), ?_⟩
      have : dn zs.length zs.length = [] := by rw [hz]; rfl
      rw [this]; exact h0
    · left
      refine ⟨zs.length - 1, by omega, int_eq (by omega), ?_⟩
      have : zs.length - 1 - (zs.length - 1) = 0 := by omega
      rw [this]; exact h0
  case round =>
    obtain ⟨hc, hkp⟩ := hrel
    have hBs' : wr.cell? ⟨Bs, 0, none⟩ = some (.slice a zs.length cap) := (World.cell?_of_block (w := W) (hkp Bs (.inr rfl))).trans hBs
    rcases hc with ⟨q, hq, rfl, hJs⟩ | ⟨rfl, hJs⟩
    · obtain ⟨b, off, rfl, hb, hcell⟩ := (hI.kept hkp).at hq
      have hcq := hcell q hq
      obtain ⟨fn, tmps, assign, body, hy, hR⟩ := hY _ ⟨q, hq⟩ wr hJs (by rw [dn_length _ _ (by omega)]; omega)
      dsimp only at hy
      clear hcell hY
      gi_wp2
      refine hR.mono ?_
      rintro e W3 (⟨rfl, hJ3, hk3⟩ | ⟨rfl, hJx3⟩)
      · gi_wp2
        go_roundw
        case rel =>
          refine ⟨?_, hkp.trans hk3⟩
          rw [← dn_next] at hJ3
          by_cases h1 : q = 0
          · right
            subst h1
            exact ⟨int_eq (by omega), hJ3⟩
          · left
            refine ⟨q - 1, by omega, int_eq (by omega), ?_⟩
            have : zs.length - 1 - (q - 1) = zs.length - q := by omega
            rw [this]; exact hJ3
        case measure => simp [intOf]
      · gi_wp2
        refine bodyPost_ret (results_none rfl _ _ _) rfl ?_
        exact ⟨⟨_, rfl⟩, .inr ⟨_, ⟨zs.length - q, by omega, (dn_next _ _ _).symm⟩, hJx3⟩⟩
    · gi_wp2
      go_end0
      exact ⟨⟨_, rfl⟩, .inl ⟨_, rfl, hJs⟩⟩

set_option maxHeartbeats 1000000 in
/-- The slice's value is boxed; the function value captures the box. -/
theorem bw_in (F : Fence) (n : Nat) (hf : F.fn 49) (hro : F.round = none) (a : Option Addr) (len cap : Nat) (w : World) :
    CallsIn F n Try.prog 49 #[.slice a len cap] w fun e w' => e = .returned (.func (.func 62) #[] #[.pointer (some ⟨w.heap.size, 0, none⟩)]) ∧ w' = w.alloc (.cells #[.slice a len cap] 22) := by
  refine callsIn_of_wp Try.func49 rfl hf ?_ hro
  simp only [Try.ntmps49, List.size_toArray, List.length_cons, List.length_nil, Nat.reduceAdd, Nat.reduceSub, Array.replicate_succ, Array.replicate_zero, List.push_toArray, List.append_toArray, List.nil_append, List.cons_append]
  gi_wp2
  go_ret
  exact ⟨rfl, rfl⟩

theorem bw_stops (F : Fence) (n : Nat) (hf1 : F.fn 62) (hro : F.round = none) (hn : 1 ≤ n) (Bs n₀ : Nat) (a : Option Addr) (cap : Nat) (zs : List Int) (hreach : zs.length ≤ 9223372036854775807) (w : World) (hBs : Bs < w.heap.size) (hn₀ : n₀ ≤ w.heap.size)
    (hc : w.cell? ⟨Bs, 0, none⟩ = some (.slice a zs.length cap)) (hI : IsInts n₀ w a zs) :
    SeqStopsK F n Try.prog 62 #[.pointer (some ⟨Bs, 0, none⟩)] (fun x : Ax zs.length => #[Value.int .i64 (x.1 : Int), Value.int .i64 (nth zs x.1)]) (Kpt n₀ Bs) (fun ys => ys = dn zs.length zs.length)
      (fun pre => ∃ k, k ≤ zs.length ∧ pre = dn zs.length k) zs.length w := fun l J Jx W hW _ _ hY h0 =>
  bw1_in F n hf1 hro hn l Bs n₀ a cap zs hreach J Jx hY W ((hW.cell (p := ⟨Bs, 0, none⟩) hBs).trans hc) (hI.below (hW.mono hn₀)) h0
end Go.Proofs.Ytgaelbgeoobgiaa
