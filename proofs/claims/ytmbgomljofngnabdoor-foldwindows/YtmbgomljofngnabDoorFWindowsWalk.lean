/-
  The walk of the statement FoldWindows, given what the program tells.
-/
import Derived.Test.YtmbgomljofngnabDoorIsw
import Derived.Test.YtmbgomljofngnabDoorFldq
import Derived.Test.YtmbgomljofngnabDoorRsw
namespace Go.Proofs.YtmbgomljofngnabDoor
open Go.RowKit
set_option linter.unusedVariables false

set_option maxRecDepth 100000 in
set_option maxHeartbeats 8000000 in
theorem fwindows_walk (H : CWd) (f : Int) (hf : In64 f) (n : Int) (hn : In64 n) (x : Int) (hx : In64 x) (c1 : Bool) (sa1 : Option Addr) (sc1 : Nat) (sz1 : List Int) (da1 : Option Addr) (dc1 : Nat) (dz1 : List Int) (w : World) (hg : HasErr w) (w8 : IsArrD w sa1 sz1 sc1 da1 dz1 dc1) :
    Calls Tryd.prog 5 #[.int .i64 f, .int .i64 n, .int .i64 x, .agg #[.bool c1, .slice sa1 sz1.length sc1, .slice da1 dz1.length dc1]] w fun e w' => e = .returned (.bool true) ∧ Below w.heap.size w w' := by
  obtain ⟨x11, x12, x3, x4, _, T⟩ := w8
  have HI1 : Hid (IsC w.heap.size w sa1 sz1 sc1 ∧ IsC w.heap.size w da1 dz1 dc1 ∧ ∀ j, In64 (nth dz1 j)) := ⟨x3, x4, T⟩
  clear x3 x4 T
  replace hg := hg.al (.cells #[.bool c1, .slice sa1 sz1.length sc1, .slice da1 dz1.length dc1] 25)
  have hb : Hid (Below w.heap.size w (w.alloc (.cells #[.bool c1, .slice sa1 sz1.length sc1, .slice da1 dz1.length dc1] 25))) := (Below.refl _ w).alloc (Nat.le_refl _) _
  have p1 := Abx.new w (.bool c1) (.slice sa1 sz1.length sc1) (.slice da1 dz1.length dc1)
  have p1_0 := p1.c0
  have p1_1 := p1.c1
  have p1_2 := p1.c2
  obtain ⟨S, hS⟩ : ∃ S, S = wdS12 f n x c1 sz1 dz1 := ⟨_, rfl⟩
  obtain ⟨D, hD⟩ : ∃ D, D = wdD12 f n x c1 sz1 dz1 := ⟨_, rfl⟩
  have HN : Hid (S = wdS12 f n x c1 sz1 dz1 ∧ D = wdD12 f n x c1 sz1 dz1) := ⟨hS, hD⟩
  have HL : Hid (S.length ≤ 4096 ∧ D.length ≤ 4096) := by rw [hS, hD]; exact wd12_len f n x c1 sz1 dz1
  clear hS hD
  go_enter Tryd.func5, Tryd.ntmps5
  go_wp2_with fail
  have h1 := windowed_any f n x c1 sa1 sc1 sz1 da1 dc1 dz1 x11 x12 _ ((HI1.out.1.1.below hb.out).mono hb.out.size) ((HI1.out.2.1.1.below hb.out).mono hb.out.size) HI1.out.2.2
  rw [← HN.out.1, ← HN.out.2] at h1
  refine (h1).mono ?_
  rintro e v1 ⟨ta, tc, ua, uc, rfl, hT, hU, hB⟩
  replace hb : Hid (Below w.heap.size w v1) := hb.out.trans (hB.mono hb.out.size)
  replace hg := hg.go hB
  replace p1 := p1.go hB
  replace p1_0 := p1.c0
  replace p1_1 := p1.c1
  replace p1_2 := p1.c2
  clear hB
  clear h1
  replace hb : Hid (Below w.heap.size w (v1.alloc (.cells #[.bool false, .slice ta S.length tc, .slice ua D.length uc] 25))) := hb.out.alloc hb.out.size _
  replace hg := hg.al (.cells #[.bool false, .slice ta S.length tc, .slice ua D.length uc] 25)
  replace p1 := p1.al (.cells #[.bool false, .slice ta S.length tc, .slice ua D.length uc] 25)
  replace hT := hT.al (.cells #[.bool false, .slice ta S.length tc, .slice ua D.length uc] 25)
  replace hU := hU.al (.cells #[.bool false, .slice ta S.length tc, .slice ua D.length uc] 25)
  replace p1_0 := p1.c0
  replace p1_1 := p1.c1
  replace p1_2 := p1.c2
  have pw := Abx.new v1 (.bool false) (.slice ta S.length tc) (.slice ua D.length uc)
  have pw_0 := pw.c0
  have pw_1 := pw.c1
  have pw_2 := pw.c2
  go_wp2_with fail
  have h2 := H f n x c1 sa1 sc1 sz1 da1 dc1 dz1 _ hf hn hx x11 x12 ((HI1.out.1.below hb.out).mono hb.out.size) ((HI1.out.2.1.1.below hb.out).mono hb.out.size) HI1.out.2.2
  rw [← HN.out.1, ← HN.out.2] at h2
  refine (h2).mono ?_
  rintro e v2 ⟨xa, xc, ya, yc, rfl, hX, hY, hB⟩
  replace hb : Hid (Below w.heap.size w v2) := hb.out.trans (hB.mono hb.out.size)
  replace hg := hg.go hB
  replace p1 := p1.go hB
  replace hT := hT.go hB
  replace hU := hU.go hB
  replace pw := pw.go hB
  replace p1_0 := p1.c0
  replace p1_1 := p1.c1
  replace p1_2 := p1.c2
  replace pw_0 := pw.c0
  replace pw_1 := pw.c1
  replace pw_2 := pw.c2
  clear hB
  clear h2
  replace hb : Hid (Below w.heap.size w (v2.alloc (.cells #[.bool false, .slice xa S.length xc, .slice ya D.length yc] 25))) := hb.out.alloc hb.out.size _
  replace hg := hg.al (.cells #[.bool false, .slice xa S.length xc, .slice ya D.length yc] 25)
  replace p1 := p1.al (.cells #[.bool false, .slice xa S.length xc, .slice ya D.length yc] 25)
  replace hT := hT.al (.cells #[.bool false, .slice xa S.length xc, .slice ya D.length yc] 25)
  replace hU := hU.al (.cells #[.bool false, .slice xa S.length xc, .slice ya D.length yc] 25)
  replace pw := pw.al (.cells #[.bool false, .slice xa S.length xc, .slice ya D.length yc] 25)
  replace hX := hX.al (.cells #[.bool false, .slice xa S.length xc, .slice ya D.length yc] 25)
  replace hY := hY.al (.cells #[.bool false, .slice xa S.length xc, .slice ya D.length yc] 25)
  replace p1_0 := p1.c0
  replace p1_1 := p1.c1
  replace p1_2 := p1.c2
  replace pw_0 := pw.c0
  replace pw_1 := pw.c1
  replace pw_2 := pw.c2
  have pg := Abx.new v2 (.bool false) (.slice xa S.length xc) (.slice ya D.length yc)
  have pg_0 := pg.c0
  have pg_1 := pg.c1
  have pg_2 := pg.c2
  go_wp2_with fail
  refine (is_same (wdE f n x c1 sz1 dz1) false S D xa xc ya yc ta tc ua uc (Nat.le_trans HL.out.1 (by decide)) (Nat.le_trans HL.out.2 (by decide)) _ hg hX.1.ints hY.1.ints hT.ints hU.ints).mono ?_
  rintro e v3 ⟨rfl, hB⟩
  replace hb : Hid (Below w.heap.size w v3) := hb.out.trans (hB.mono hb.out.size)
  replace hg := hg.go hB
  replace p1 := p1.go hB
  replace hT := hT.go hB
  replace hU := hU.go hB
  replace pw := pw.go hB
  replace hX := hX.go hB
  replace hY := hY.go hB
  replace pg := pg.go hB
  replace p1_0 := p1.c0
  replace p1_1 := p1.c1
  replace p1_2 := p1.c2
  replace pw_0 := pw.c0
  replace pw_1 := pw.c1
  replace pw_2 := pw.c2
  replace pg_0 := pg.c0
  replace pg_1 := pg.c1
  replace pg_2 := pg.c2
  clear hB
  go_wp2_with fail
  go_ret
  exact ⟨rfl, hb.out⟩
end Go.Proofs.YtmbgomljofngnabDoor
