/-
  The product of a shape's lengths, as the program reckons it.
-/
import Derived.Test.YthmiaiephkcdfaaIter
namespace Go.Proofs.Ythmiaiephkcdfaa
open Go.RowKit Go.Shelf
set_option linter.unusedVariables false
attribute [local go_sem] Oper.semAt_some

def pstep (zs : List Int) (c : Int) (x : Ax zs.length) : Int := min (wrap64 (c * nth zs x.1)) 4097
theorem wrap64_small {n : Int} (h1 : -9223372036854775808 ≤ n) (h2 : n ≤ 9223372036854775807) : wrap64 n = n := by unfold wrap64; omega
theorem pfold (zs : List Int) (h : AllIn zs) : (dn zs.length zs.length).foldl (pstep zs) 1 = clp zs := by
  have := fold_dn zs.length (pstep zs) (fun k => clp (zs.drop k)) (fun k hk => by
    have hb := clp_bd (h.drop (k + 1))
    have hx := h.nth k
    simp only [pstep]
    rw [drop_nth zs k hk]
    simp only [clp]
    have h1 : 0 ≤ clp (zs.drop (k + 1)) * nth zs k := Int.mul_nonneg hb.1 hx.1
    have h2 : clp (zs.drop (k + 1)) * nth zs k ≤ 4097 * 4096 := Int.mul_le_mul hb.2 hx.2 hx.1 (by omega)
    rw [wrap64_small (by omega) (by omega)]) zs.length (Nat.le_refl _)
  simpa [clp] using this

set_option maxRecDepth 100000 in
set_option maxHeartbeats 2000000 in
theorem prod_in (F : Fence) (n : Nat) (hp : F.fn 21) (hf : F.fn 30) (hf1 : F.fn 40) (hro : F.round = none) (hn : 3 ≤ n) (a : Option Addr) (cap : Nat) (zs : List Int) (hreach : zs.length ≤ 9223372036854775807) (w : World) (hI : IsInts w.heap.size w a zs) (hA : AllIn zs) :
    CallsIn F n Try.prog 21 #[.slice a zs.length cap] w fun e W' => e = .returned (.int .i64 (clp zs)) ∧ Below w.heap.size w W' := by
  have h1 : 1 ≤ n := by omega
  refine callsIn_of_wp_marks Try.func21 rfl hp ?_ hro
  simp only [Try.ntmps21, List.size_toArray, List.length_cons, List.length_nil, Nat.reduceAdd, Nat.reduceSub, Array.replicate_succ, Array.replicate_zero, List.push_toArray, List.append_toArray, List.nil_append, List.cons_append]
  gi_wp2_with (gi_at_call 30; refine (fl_in F (n - 1) hf hro _ _ _ _).mono ?_; rintro e w' ⟨rfl, rfl⟩)
  have bS := Boxed.new w 3 (.int .i64 1)
  have bN := Boxed.new (w.alloc (.cells #[.int .i64 1] 3)) 22 (.slice a zs.length cap)
  rw [World.size_alloc] at bN
  have hB0 : Below w.heap.size w ((w.alloc (.cells #[.int .i64 1] 3)).alloc (.cells #[.slice a zs.length cap] 22)) := ((Below.refl _ w).alloc (Nat.le_refl _) _).alloc (by simp) _
  refine wpIn_rangeFunc_ownG hro h1 (gf := 40) (lb := #[.pointer (some ⟨w.heap.size + 1, 0, none⟩)]) rfl hf1 (enters_of Try.func40 (by kernel_rfl) rfl)
    (fl_stops F (n - 1) hf1 hro (by omega) (w.heap.size + 1) w.heap.size a cap zs hreach _ (by simp) (by simp; omega) bN.cell (hI.below hB0)) (fun h k => h.trans k) (kpt_b (by simp; omega) (by simp)) (Below.refl _ _) (fun _ => rfl)
    (fun pre W => (W.cell? ⟨w.heap.size, 0, none⟩ = some (.int .i64 (pre.foldl (pstep zs) 1)) ∧ W.frozen? ⟨w.heap.size, 0, none⟩ = false) ∧ Below w.heap.size w W)
    (fun _ _ _ => False)
    (OwnFrom.and (Own.from (fun s A B row hs hg hr => ⟨cell_kept hs.1 hg hr, (frozen_kept hs.1 hg hr).trans hs.2⟩) _) (ownFrom_below (Nat.le_refl _) (by simp; omega)))
    (fun _ _ _ _ _ hs _ _ => hs)
    ⟨⟨(bS.alloc _).cell, (bS.alloc _).frozen⟩, hB0⟩
    (fun x => { tmps := #[.slice a zs.length cap, undef, .int .i64 0, .pointer (some ⟨w.heap.size, 0, none⟩), undef, .int .i64 (nth zs x.1), .slice a zs.length cap, .func (.func 40) #[] #[.pointer (some ⟨w.heap.size + 1, 0, none⟩)], .int .i64 (x.1 : Int), .int .i64 (nth zs x.1), undef, undef, undef, undef, undef], defers := [] }) ?assign ?body ?done ?stop
  case assign =>
    intro l x W K hK
    gi_wp2
    exact hK
  case body =>
    rintro l pre x W ⟨⟨hc, hz⟩, hB⟩ _
    gi_wp2
    all_goals
      refine ⟨(KeepsOthers.setCell _ _ _).from _, Kpt.setCell W 0 _ (Nat.le_refl _) (by omega), ⟨?_, by rw [World.frozen?_setCell]; exact hz⟩, hB.setCell (p := ⟨w.heap.size, 0, none⟩) (Nat.le_refl _) _⟩
      rw [List.foldl_append]
      simp only [List.foldl_cons, List.foldl_nil]
      refine (World.cell?_setCell_same' _ _ _ (by rw [hc]; rfl)).trans (congrArg some (int_eq ?_))
      show _ = min (wrap64 (pre.foldl (pstep zs) 1 * nth zs x.1)) 4097
      omega
  case done =>
    rintro D ys W hD rfl ⟨⟨hc, _⟩, hB⟩ hK
    gi_wp2
    refine ⟨by simp, .inl ⟨_, _, rfl, run_takeDeferred hK, ?_⟩⟩
    exact ⟨_, results_tmp rfl _ _ _, by rw [← pfold zs hA]; rfl, hB.trans (belowK_b (w := w) (Nat.le_refl _) W D _ _ (by simp at hD; omega) hK rfl rfl)⟩
  case stop =>
    rintro D c pre W _ _ h _
    exact h.elim

theorem prod_any (a : Option Addr) (cap : Nat) (zs : List Int) (hreach : zs.length ≤ 9223372036854775807) (w : World) (hI : IsInts w.heap.size w a zs) (hA : AllIn zs) :
    Calls Try.prog 21 #[.slice a zs.length cap] w fun e W' => e = .returned (.int .i64 (clp zs)) ∧ Below w.heap.size w W' :=
  (callsIn_wide (n := 3)).1 (prod_in Fence.wide 3 trivial trivial trivial rfl (by omega) a cap zs hreach w hI hA)
end Go.Proofs.Ythmiaiephkcdfaa
