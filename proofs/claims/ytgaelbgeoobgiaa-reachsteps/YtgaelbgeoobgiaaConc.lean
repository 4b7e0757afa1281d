/-
  slices.Concat of two lists of integers (and slices.Grow of nothing).
-/
import Derived.Lib.SliceRun
import Derived.Lib.AppendZerosOnto
import Derived.Test.YtgaelbgeoobgiaaPapp
import Derived.Test.YtgaelbgeoobgiaaCutn
namespace Go.Proofs.Ytgaelbgeoobgiaa
open Go.RowKit
set_option linter.unusedVariables false

set_option maxRecDepth 100000 in
set_option maxHeartbeats 2000000 in
theorem grow_any (n : Nat) (hn : n ≤ 100000) (w : World) :
    Calls Try.prog 44 #[.slice none 0 0, .int .i64 (n : Nat)] w fun e w' => ∃ g gc, e = .returned (.slice g 0 gc) ∧ w'.ownsRow w.heap.size 3 1 (.slice g 0 gc) 0 [] ∧ Below w.heap.size w w' := by
  have h1 : ¬ ((n : Int) < 0) := by omega
  by_cases h0 : n = 0
  · subst h0
    go_enter Try.func44, Try.ntmps44
    go_wp2_with fail
    go_ret
    exact ⟨none, 0, rfl, World.ownsRow_nil _ _ _ _, Below.refl _ _⟩
  · have h2 : (n : Int) > 0 := by omega
    obtain ⟨i0, hi, hz0, hz1, hz2⟩ := info_parts Try.infoInt
    have hold : (Builtin.firstCells i0.size 0 (.slice none 0 0)).run Try.prog w.drew = .ok ([] : List Value).toArray w.drew := run_firstCells_none w.drew i0.size 0 0 0
    have hrz : ∀ ty, (Builtin.append_ #[22, 3] ty #[.slice none 0 0, .int .i64 (n : Nat)]).run Try.prog w =
        .ok (.slice (some ⟨w.heap.size, 0, none⟩) (0 + n) (grownCap w (0 + n) 0 3)) (w.drew.alloc (.cells (([] : List Value).toArray ++ Builtin.zeroCells (Value.int .i64 0).cells n ++ Builtin.zeroCells (Value.int .i64 0).cells (grownCap w (0 + n) 0 3 - (0 + n))) 3)) := fun ty =>
      Lib.run_append_grow_zeros w 22 3 ty 3 i0 (.int .i64 0) .i64 .i64 Try.underlying22 Try.underlying3 hi hz0 none 0 0 [] hold n (by omega) (by omega) (by omega) (by omega) (by rw [hz2]; omega) (by rw [hz2]; exact growslice_fits (by omega) (by omega))
    have hG := grownCap_ge w (0 + n) 0 3
    have hG2 := grownCap_le_maxLen w (0 + n) 0 3 (by unfold maxLen; omega)
    obtain ⟨G, hGe⟩ : ∃ G, G = grownCap w (0 + n) 0 3 := ⟨_, rfl⟩
    rw [← hGe] at hrz hG hG2
    obtain ⟨cs, hcs⟩ : ∃ cs, cs = ([] : List Value).toArray ++ Builtin.zeroCells (Value.int .i64 0).cells n ++ Builtin.zeroCells (Value.int .i64 0).cells (G - (0 + n)) := ⟨_, rfl⟩
    rw [← hcs] at hrz
    have hsz : cs.size = G * 1 := by
      rw [hcs]
      simp [Builtin.zeroCells, Value.cells]
      omega
    have HB : Hid (Below w.heap.size w (w.drew.alloc (.cells cs 3))) := (Below.refl _ w).drew.alloc (Nat.le_refl _) _
    have HO : Hid ((w.drew.alloc (.cells cs 3)).ownsRow w.heap.size 3 1 (.slice (some ⟨w.heap.size, 0, none⟩) 0 G) 0 []) :=
      ⟨rfl, .inr ⟨w.heap.size, G, cs, rfl, Nat.le_refl _, World.alloc_heap_new w.drew _, Nat.zero_le _, hG2, hsz, rfl⟩⟩
    have hG63 : G ≤ 9223372036854775807 := by unfold maxLen at hG2; omega
    rw [Nat.zero_add] at hrz hG
    clear hold hcs hsz hG2 hGe h0
    go_enter Try.func44, Try.ntmps44
    go_wp2_with (at_builtin; refine Lib.wpList_append_run _ rfl _ _ _ _ rfl _ _ rfl rfl _ _ (hrz _) ?_)
    go_ret
    exact ⟨some ⟨w.heap.size, 0, none⟩, G, rfl, HO.out, HB.out⟩
theorem two_cells (w : World) (x y : Value) (t : TypeId) : (w.alloc (.cells #[x, y] t)).cell? ⟨w.heap.size, 0, none⟩ = some x ∧ (w.alloc (.cells #[x, y] t)).cell? ⟨w.heap.size, 1, none⟩ = some y := by
  have hb : (w.alloc (.cells #[x, y] t)).heap[w.heap.size]? = some (.cells #[x, y] t (0, 0)) := (MapKept.heap_alloc w _).1
  exact ⟨by simp only [World.cell?]; rw [hb]; rfl, by simp only [World.cell?]; rw [hb]; rfl⟩
/-- What has been put together so far. -/
def jc (x y : List Int) (k : Nat) : List Int := if k = 0 then [] else if k = 1 then x else x ++ y
/-- Two lists, one behind the other. -/
def ConcP (S : List Int) (n : Nat) (w : World) (e : Ending) (w' : World) : Prop := ∃ g gc, e = .returned (.slice g n gc) ∧ NewC w.heap.size w' g S gc ∧ Below w.heap.size w w'
set_option maxRecDepth 100000 in
set_option maxHeartbeats 4000000 in
theorem concat_any (x y : List Int) (xl yl : Nat) (hxl : x.length = xl) (hyl : y.length = yl) (xa : Option Addr) (xc : Nat) (ya : Option Addr) (yc : Nat) (hx : xl ≤ 100) (hy : yl ≤ 100) (B cc : Nat) (w : World) (hB : B < w.heap.size)
    (h0 : w.cell? ⟨B, 0, none⟩ = some (.slice xa xl xc)) (h1 : w.cell? ⟨B, 1, none⟩ = some (.slice ya yl yc)) (hX : IsInts w.heap.size w xa x) (hY : IsInts w.heap.size w ya y) :
    Calls Try.prog 22 #[.slice (some ⟨B, 0, none⟩) 2 cc] w (ConcP (x ++ y) (xl + yl) w) := by
  have HX : Hid (IsInts w.heap.size w xa x ∧ IsInts w.heap.size w ya y) := ⟨hX, hY⟩
  have HL : Hid (x.length = xl ∧ y.length = yl) := ⟨hxl, hyl⟩
  clear hX hY hxl hyl
  have n1 : ¬ ((xl : Int) < 0) := by omega
  have n2 : ¬ ((xl : Int) + (yl : Int) < 0) := by omega
  go_enter Try.func22, Try.ntmps22
  go_wp2_with fail
  go_loop [3, 11] (fun s i => (i = .int .i64 0 ∧ s = .int .i64 0) ∨ (i = .int .i64 1 ∧ s = .int .i64 (xl : Nat)) ∨ (i = .int .i64 2 ∧ s = .int .i64 ((xl : Int) + (yl : Int)))) (fun _ i => 2 - (intOf i).toNat)
  case atStart => exact .inl ⟨rfl, rfl⟩
  case round =>
    rcases hrel with ⟨rfl, rfl⟩ | ⟨rfl, rfl⟩ | ⟨rfl, rfl⟩
    · go_wp2_with fail
      exact ⟨.inr (.inl ⟨rfl, by first | rfl | (simp)⟩), by decide⟩
    · go_wp2_with fail
      exact ⟨.inr (.inr ⟨rfl, rfl⟩), by decide⟩
    · go_wp2_with fail
      have hg : Calls Try.prog 44 #[.slice none 0 0, .int .i64 ((xl : Int) + (yl : Int))] w fun e w' => ∃ g gc, e = .returned (.slice g 0 gc) ∧ w'.ownsRow w.heap.size 3 1 (.slice g 0 gc) 0 [] ∧ Below w.heap.size w w' := by
        have := grow_any (xl + yl) (by omega) w
        rwa [Int.natCast_add] at this
      refine hg.mono ?_
      rintro e v1 ⟨g, gc, rfl, hO, hb⟩
      have HO : Hid (v1.ownsRow w.heap.size 3 1 (.slice g 0 gc) 0 [] ∧ Below w.heap.size w v1) := ⟨hO, hb⟩
      clear hg hO hb
      go_wp2_with fail
      go_loopw [6, 27] (fun v i wr => ∃ k g gc, k ≤ 2 ∧ i = .int .i64 (k : Nat) ∧ v = .slice g (jc x y k).length gc ∧ wr.ownsRow w.heap.size 3 1 (.slice g (jc x y k).length gc) (jc x y k).length ((jc x y k).map (Value.int .i64)) ∧ Below w.heap.size w wr) (fun _ i _ => 2 - (intOf i).toNat)
      case atStart => exact ⟨0, g, gc, by omega, rfl, rfl, HO.out.1, HO.out.2⟩
      case round =>
        obtain ⟨k, g, gc, hk, rfl, rfl, hO, hb⟩ := hrel
        have HO : Hid (wr.ownsRow w.heap.size 3 1 (.slice g (jc x y k).length gc) (jc x y k).length ((jc x y k).map (Value.int .i64)) ∧ Below w.heap.size w wr) := ⟨hO, hb⟩
        have c0 := (hb.cell (p := ⟨B, 0, none⟩) hB).trans h0
        have c1 := (hb.cell (p := ⟨B, 1, none⟩) hB).trans h1
        clear hO hb
        obtain rfl | rfl | rfl : k = 0 ∨ k = 1 ∨ k = 2 := by omega
        · have HO1 : Hid (wr.ownsRow w.heap.size 3 1 (.slice g 0 gc) 0 (([] : List Int).map (Value.int .i64)) ∧ Below w.heap.size w wr ∧ IsInts wr.heap.size wr xa x) := ⟨HO.out.1, HO.out.2, (HX.out.1.below HO.out.2).mono HO.out.2.size⟩
          show Code.wp _ _ _ _ _
          rw [show (jc x y 0).length = 0 from rfl]
          clear HO
          go_wp2_with (at_builtin; refine app_all rfl _ _ rfl _ w.heap.size (.slice g 0 gc) [] 0 rfl xa x xl xc HL.out.1 rfl rfl HO1.out.1 HO1.out.2.2 (by omega) HO1.out.2.1.size ?_; intro g2 gc2 w2 hO2 hN2 hb2)
          refine ⟨⟨1, g2, gc2, by omega, rfl, ?_, ?_, HO1.out.2.1.trans hb2⟩, by decide⟩
          · rw [show jc x y 1 = x from rfl, HL.out.1]
          · rw [show jc x y 1 = x from rfl, HL.out.1]
            rw [Nat.zero_add] at hO2
            exact hO2
        · have HO1 : Hid (wr.ownsRow w.heap.size 3 1 (.slice g xl gc) xl (x.map (Value.int .i64)) ∧ Below w.heap.size w wr ∧ IsInts wr.heap.size wr ya y) := by
            have h := HO.out.1
            rw [show jc x y 1 = x from rfl, HL.out.1] at h
            exact ⟨h, HO.out.2, (HX.out.2.below HO.out.2).mono HO.out.2.size⟩
          rw [show (jc x y 1).length = xl from HL.out.1]
          clear HO
          go_wp2_with (at_builtin; refine app_all rfl _ _ rfl _ w.heap.size (.slice g xl gc) x xl HL.out.1 ya y yl yc HL.out.2 rfl rfl HO1.out.1 HO1.out.2.2 (by omega) HO1.out.2.1.size ?_; intro g2 gc2 w2 hO2 hN2 hb2)
          refine ⟨⟨2, g2, gc2, by omega, rfl, ?_, ?_, HO1.out.2.1.trans hb2⟩, by decide⟩
          · rw [show jc x y 2 = x ++ y from rfl, List.length_append, HL.out.1, HL.out.2]
          · rw [show jc x y 2 = x ++ y from rfl, List.length_append, HL.out.1, HL.out.2]
            exact hO2
        · have HO1 : Hid (NewC w.heap.size wr g (x ++ y) gc ∧ Below w.heap.size w wr) := by
            obtain ⟨g', gc', e, hN⟩ := own_cap HO.out.1
            have e' : g = g' ∧ gc = gc' := by
              injection e with e1 e2 e3
              exact ⟨e1, e3⟩
            obtain ⟨rfl, rfl⟩ := e'
            exact ⟨hN, HO.out.2⟩
          rw [show (jc x y 2).length = xl + yl by rw [show jc x y 2 = x ++ y from rfl, List.length_append, HL.out.1, HL.out.2]]
          clear HO
          go_wp2_with fail
          go_ret
          exact ⟨g, gc, rfl, HO1.out.1, HO1.out.2⟩
end Go.Proofs.Ytgaelbgeoobgiaa
