/-
  The axes from the last one on: what slices.Backward of arrays hands to a loop's body, and in which order.
-/
import Derived.RangeFuncNested
import Derived.RangeFuncBound
import Derived.RangeFuncCalls
import Derived.RangeFuncLeaves
import Derived.RangeFuncBox
import Derived.Shelf.Abstract
import Derived.Shelf.RegionOpen
import Derived.WalkKit
import Derived.OwnWalkIn
import Derived.TacticsInMore
import Derived.LoopNIn
import Derived.LoopIn
import Derived.Test.YteddkfeiikdekaaPiks
import Derived.Test.YteddkfeiikdekaaBase
namespace Go.Proofs.Yteddkfeiikdekaa
open Go.RowKit Go.Shelf
set_option linter.unusedVariables false
attribute [local go_sem] Oper.semAt_some

def av (b : ArV) : Value := .agg #[.bool b.1, .slice b.2.1.1.1 b.2.1.2.length b.2.1.1.2, .slice b.2.2.1.1 b.2.2.2.length b.2.2.1.2]
theorem IsAs.cells {n : Nat} {W : World} {a : Option Addr} {bs : List ArV} (h : IsAs n W a bs) {j : Nat} (hj : j < bs.length) : ∃ b off, a = some ⟨b, off, none⟩ ∧ b < n ∧ W.cell? ⟨b, off + j * 3, none⟩ = some (.bool (arz bs j).1) ∧ W.cell? ⟨b, off + j * 3 + 1, none⟩ = some (.slice (arz bs j).2.1.1.1 (arz bs j).2.1.2.length (arz bs j).2.1.1.2) ∧ W.cell? ⟨b, off + j * 3 + 2, none⟩ = some (.slice (arz bs j).2.2.1.1 (arz bs j).2.2.2.length (arz bs j).2.2.1.2) := by
  obtain ⟨b, off, e, hb, hc⟩ := h.at hj
  exact ⟨b, off, e, hb, hc j hj⟩
theorem IsC.kept7 {n Bs : Nat} {W W' : World} {a : Option Addr} {zs : List Int} {cap : Nat} (hk : Kpt n Bs W W') (h : IsC n W a zs cap) : IsC n W' a zs cap := ⟨h.1.kept hk, h.2⟩
theorem IsAs.kept {n Bs : Nat} {W W' : World} {a : Option Addr} {bs : List ArV} (hk : Kpt n Bs W W') (h : IsAs n W a bs) : IsAs n W' a bs := by
  refine ⟨?_, fun j hj => ⟨(h.2 j hj).1, (h.2 j hj).2.1, (h.2 j hj).2.2.1.kept7 hk, (h.2 j hj).2.2.2.1.kept7 hk, (h.2 j hj).2.2.2.2⟩⟩
  rcases h.1 with e | ⟨b, off, e, hb, hc⟩
  · exact .inl e
  · exact .inr ⟨b, off, e, hb, fun j hj => ⟨(World.cell?_of_block (w := W) (hk b (.inl hb))).trans (hc j hj).1, (World.cell?_of_block (w := W) (hk b (.inl hb))).trans (hc j hj).2.1, (World.cell?_of_block (w := W) (hk b (.inl hb))).trans (hc j hj).2.2⟩⟩

set_option maxRecDepth 100000 in
set_option maxHeartbeats 2000000 in
/-- The iterator's closure: each axis from the last one on, for every loop body that keeps what lay below n₀ and the box of the slice. -/
theorem ba1_in (F : Fence) (n : Nat) (hf1 : F.fn 71) (hro : F.round = none) (hn : 1 ≤ n) (l Bs n₀ : Nat) (a : Option Addr) (cap : Nat) (bs : List ArV) (hreach : bs.length ≤ 9223372036854775807) (J Jx : List (Ax bs.length) → World → Prop)
    (hY : ∀ pre x W, J pre W → pre.length < bs.length → YieldAt F (n - 1) Try.prog l #[.int .i64 (x.1 : Int), av (arz bs x.1)] W fun e W' =>
      (e = .returned (.bool true) ∧ J (pre ++ [x]) W' ∧ Kpt n₀ Bs W W') ∨ (e = .returned (.bool false) ∧ Jx (pre ++ [x]) W'))
    (W : World) (hBs : W.cell? ⟨Bs, 0, none⟩ = some (.slice a bs.length cap)) (hI : IsAs n₀ W a bs) (h0 : J [] W) :
    CallsIn F n Try.prog 71 #[.func (.yield l) #[] #[], .pointer (some ⟨Bs, 0, none⟩)] W fun e W' => (∃ v, e = .returned v) ∧
      ((∃ ys, ys = dn bs.length bs.length ∧ J ys W') ∨ (∃ pre, (∃ k, k ≤ bs.length ∧ pre = dn bs.length k) ∧ Jx pre W')) := by
  refine callsIn_of_wp Try.func71 rfl hf1 ?_ hro
  simp only [Try.ntmps71, List.size_toArray, List.length_cons, List.length_nil, Nat.reduceAdd, Nat.reduceSub, Array.replicate_succ, Array.replicate_zero, List.push_toArray, List.append_toArray, List.nil_append, List.cons_append]
  gi_wp2
  gi_loopw [3] (fun i wr => ((∃ q : Nat, q < bs.length ∧ i = .int .i64 q ∧ J (dn bs.length (bs.length - 1 - q)) wr) ∨ (i = .int .i64 (-1) ∧ J (dn bs.length bs.length) wr)) ∧ Kpt n₀ Bs W wr)
    (fun i _ => (intOf i + 1).toNat)
  case atStart =>
    refine ⟨?_, Kpt.refl _ _ _⟩
    by_cases hz : bs.length = 0
    · right
      refine ⟨int_eq (by omega), ?_⟩
      have : dn bs.length bs.length = [] := by rw [hz]; rfl
      rw [this]; exact h0
    · left
      refine ⟨bs.length - 1, by omega, int_eq (by omega), ?_⟩
      have : bs.length - 1 - (bs.length - 1) = 0 := by omega
      rw [this]; exact h0
  case round =>
    obtain ⟨hc, hkp⟩ := hrel
    have hBs' : wr.cell? ⟨Bs, 0, none⟩ = some (.slice a bs.length cap) := (World.cell?_of_block (w := W) (hkp Bs (.inr rfl))).trans hBs
    rcases hc with ⟨q, hq, rfl, hJs⟩ | ⟨rfl, hJs⟩
    · obtain ⟨b, off, rfl, hb, cc0, cc1, cc2⟩ := (hI.kept hkp).cells hq
      obtain ⟨fn, tmps, assign, body, hy, hR⟩ := hY _ ⟨q, hq⟩ wr hJs (by rw [dn_length _ _ (by omega)]; omega)
      dsimp only [av] at hy
      clear hY
      gi_wp2
      refine hR.mono ?_
      rintro e W3 (⟨rfl, hJ3, hk3⟩ | ⟨rfl, hJx3⟩)
      · gi_wp2
        go_roundw
        case rel =>
          refine ⟨?_, hkp.trans hk3⟩
          rw [← dn_next] at hJ3
          by_cases h1 : q = 0
          · right
            subst h1
            exact ⟨int_eq (by omega), hJ3⟩
          · left
            refine ⟨q - 1, by omega, int_eq (by omega), ?_⟩
            have : bs.length - 1 - (q - 1) = bs.length - q := by omega
            rw [this]; exact hJ3
        case measure => simp [intOf]
      · gi_wp2
        refine bodyPost_ret (results_none rfl _ _ _) rfl ?_
        exact ⟨⟨_, rfl⟩, .inr ⟨_, ⟨bs.length - q, by omega, (dn_next _ _ _).symm⟩, hJx3⟩⟩
    · gi_wp2
      go_end0
      exact ⟨⟨_, rfl⟩, .inl ⟨_, rfl, hJs⟩⟩

set_option maxHeartbeats 1000000 in
/-- The slice's value is boxed; the function value captures the box. -/
theorem ba_in (F : Fence) (n : Nat) (hf : F.fn 67) (hro : F.round = none) (a : Option Addr) (len cap : Nat) (w : World) :
    CallsIn F n Try.prog 67 #[.slice a len cap] w fun e w' => e = .returned (.func (.func 71) #[] #[.pointer (some ⟨w.heap.size, 0, none⟩)]) ∧ w' = w.alloc (.cells #[.slice a len cap] 44) := by
  refine callsIn_of_wp Try.func67 rfl hf ?_ hro
  simp only [Try.ntmps67, List.size_toArray, List.length_cons, List.length_nil, Nat.reduceAdd, Nat.reduceSub, Array.replicate_succ, Array.replicate_zero, List.push_toArray, List.append_toArray, List.nil_append, List.cons_append]
  gi_wp2
  go_ret
  exact ⟨rfl, rfl⟩

theorem ba_stops (F : Fence) (n : Nat) (hf1 : F.fn 71) (hro : F.round = none) (hn : 1 ≤ n) (Bs n₀ : Nat) (a : Option Addr) (cap : Nat) (bs : List ArV) (hreach : bs.length ≤ 9223372036854775807) (w : World) (hBs : Bs < w.heap.size) (hn₀ : n₀ ≤ w.heap.size)
    (hc : w.cell? ⟨Bs, 0, none⟩ = some (.slice a bs.length cap)) (hI : IsAs n₀ w a bs) :
    SeqStopsK F n Try.prog 71 #[.pointer (some ⟨Bs, 0, none⟩)] (fun x : Ax bs.length => #[Value.int .i64 (x.1 : Int), av (arz bs x.1)]) (Kpt n₀ Bs) (fun ys => ys = dn bs.length bs.length)
      (fun pre => ∃ k, k ≤ bs.length ∧ pre = dn bs.length k) bs.length w := fun l J Jx W hW _ _ hY h0 =>
  ba1_in F n hf1 hro hn l Bs n₀ a cap bs hreach J Jx hY W ((hW.cell (p := ⟨Bs, 0, none⟩) hBs).trans hc) (hI.below (hW.mono hn₀)) h0
end Go.Proofs.Yteddkfeiikdekaa
