/-
  What turn.Reverse tells.
-/
import Derived.Test.YtnfdcdoelhanlaaAlong
namespace Go.Proofs.Ytnfdcdoelhanlaa
open Go.RowKit
set_option linter.unusedVariables false

set_option maxRecDepth 100000 in
set_option maxHeartbeats 1000000 in
theorem rv1_any (i : Nat) (L : Int) (h : (i : Int) < L) (hL : L ≤ 4096) (w : World) :
    Calls Try.prog 15 #[.int .i64 (i : Nat), .int .i64 L] w (fun e w' => e = .returned (.int .i64 (L - 1 - i)) ∧ w' = w) := by
  go_enter Try.func15, Try.ntmps15
  go_wp2_with fail
  go_ret
  exact ⟨rfl, rfl⟩
set_option maxRecDepth 100000 in
set_option maxHeartbeats 2000000 in
theorem rv_holds : CRv := by
  intro x c sa sc sz da dc dz w hx h1 h2 hs hd T
  have HI : Hid (IsC w.heap.size w sa sz sc ∧ IsInts w.heap.size w da dz) := ⟨hs, hd⟩
  have HX : Hid (In64 x) := hx
  clear hs hd hx T
  obtain ⟨S, hS⟩ : ∃ S, S = axS5 x c sz dz := ⟨_, rfl⟩
  obtain ⟨D, hD⟩ : ∃ D, D = rvD5 x c sz dz := ⟨_, rfl⟩
  obtain ⟨C, hC⟩ : ∃ C, C = onc (axE x c sz dz) c := ⟨_, rfl⟩
  obtain ⟨E, hE⟩ : ∃ E, E = errV (axE x c sz dz) := ⟨_, rfl⟩
  have HB0 : Hid (Below w.heap.size w ((w.alloc (.cells #[.bool c, .slice sa sz.length sc, .slice da dz.length dc] 25)).alloc (.cells #[.bool false, .slice none 0 0, .slice none 0 0] 25))) := ((Below.refl _ w).alloc (Nat.le_refl _) _).alloc (by simp) _
  have pa := (Abx.new w (.bool c) (.slice sa sz.length sc) (.slice da dz.length dc)).al (.cells #[.bool false, .slice none 0 0, .slice none 0 0] 25)
  have pr := Abx.new1 w (.cells #[.bool c, .slice sa sz.length sc, .slice da dz.length dc] 25) (.bool false) (.slice none 0 0) (.slice none 0 0)
  have p0 := pa.c0
  have p1 := pa.c1
  have p2 := pa.c2
  have hU := along_any x c sa sc sz da dc dz 15 [] (enters_of Try.func15 (by kernel_rfl) rfl) (fun i => nth sz x.toNat - 1 - i) HX.out h1 h2 _ ((HI.out.1.below HB0.out).mono HB0.out.size) ((HI.out.2.below HB0.out).mono HB0.out.size) (fun i h0 h1 => by omega) (fun i hi hL w' _ => rv1_any i _ hi hL w')
  have hU' : Calls Try.prog 14 #[.int .i64 x, .agg #[.bool c, .slice sa sz.length sc, .slice da dz.length dc], .func (.func 15) #[] #[]] ((w.alloc (.cells #[.bool c, .slice sa sz.length sc, .slice da dz.length dc] 25)).alloc (.cells #[.bool false, .slice none 0 0, .slice none 0 0] 25)) (UA (axE x c sz dz) C S D ((w.alloc (.cells #[.bool c, .slice sa sz.length sc, .slice da dz.length dc] 25)).alloc (.cells #[.bool false, .slice none 0 0, .slice none 0 0] 25))) := by rw [hS, hD, hC]; exact hU
  unfold UA at hU'
  rw [← hE] at hU'
  have HU : Hid (UA (axE x c sz dz) (onc (axE x c sz dz) c) (axS5 x c sz dz) (rvD5 x c sz dz) w = UA (axE x c sz dz) C S D w ∧ errV (axE x c sz dz) = E) := by rw [hS, hD, hC, hE]; exact ⟨rfl, rfl⟩
  rw [HU.out.1]
  clear hS hD hC hE hU
  go_enter Try.func5, Try.ntmps5
  go_wp2_with fail
  refine hU'.mono ?_
  rintro e v1 ⟨xa, xc, ya, yc, rfl, hX, hY, hB⟩
  have HR := pr.go hB
  have HB1 : Hid (Below w.heap.size w v1) := HB0.out.trans (hB.mono HB0.out.size)
  have HN : Hid (NewC (w.heap.size + 2) v1 xa S xc ∧ NewInts (w.heap.size + 2) v1 ya D) := by
    simp only [World.size_alloc] at hX hY
    exact ⟨hX, hY⟩
  clear hB hX hY pa pr p0 p1 p2 hU'
  have r_0 := HR.c0
  have r_1 := HR.c1
  have r_2 := HR.c2
  have f_0 := HR.fr 0
  have f_1 := HR.fr 1
  have f_2 := HR.fr 2
  go_wp2_with fail
  have FF := HR.set3 (.bool C) (.slice xa S.length xc) (.slice ya D.length yc)
  have q0 := FF.c0
  have q1 := FF.c1
  have q2 := FF.c2
  refine bodyPost_ret (v := .tuple #[.agg #[.bool C, .slice xa S.length xc, .slice ya D.length yc], E]) (by simp [results, Try.results5, go_sem, q0, q1, q2]) rfl ?_
  unfold UA
  rw [HU.out.2]
  exact ⟨xa, xc, ya, yc, rfl, (HN.out.1.set3 (by omega) _ _ _).low (by omega), (HN.out.2.set3 (by omega) _ _ _).low (by omega), bel_set3 HB1.out (by omega) _ _ _⟩
end Go.Proofs.Ytnfdcdoelhanlaa
