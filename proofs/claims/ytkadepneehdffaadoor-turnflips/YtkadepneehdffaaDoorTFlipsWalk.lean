/-
  The walk of the statement TurnFlips, given what the program tells.
-/
import Derived.Test.YtkadepneehdffaaDoorIsw
import Derived.Test.YtkadepneehdffaaDoorRflp
namespace Go.Proofs.YtkadepneehdffaaDoor
open Go.RowKit
set_option linter.unusedVariables false

set_option maxRecDepth 100000 in
set_option maxHeartbeats 8000000 in
theorem tflips_walk (H : CFl) (pa : Option Addr) (pc : Nat) (p : List Int) (hpl : p.length ≤ 9223372036854775807) (c1 : Bool) (sa1 : Option Addr) (sc1 : Nat) (sz1 : List Int) (da1 : Option Addr) (dc1 : Nat) (dz1 : List Int) (w : World) (hg : HasErr w) (hp : IsInts w.heap.size w pa p) (w9 : IsArrC w sa1 sz1 sc1 da1 dz1) :
    Calls Tryd.prog 4 #[.slice pa p.length pc, .agg #[.bool c1, .slice sa1 sz1.length sc1, .slice da1 dz1.length dc1]] w fun e w' => e = .returned (.bool true) ∧ Below w.heap.size w w' := by
  obtain ⟨x1, x2, x3, x4, _, T⟩ := w9
  have HI : Hid (IsC w.heap.size w sa1 sz1 sc1 ∧ IsInts w.heap.size w da1 dz1 ∧ ∀ j, In64 (nth dz1 j)) := ⟨x3, x4, T⟩
  clear x3 x4 T
  have HP : Hid (IsInts w.heap.size w pa p) := hp
  clear hp
  replace hg := hg.al (.cells #[.bool c1, .slice sa1 sz1.length sc1, .slice da1 dz1.length dc1] 33)
  have hb : Hid (Below w.heap.size w (w.alloc (.cells #[.bool c1, .slice sa1 sz1.length sc1, .slice da1 dz1.length dc1] 33))) := (Below.refl _ w).alloc (Nat.le_refl _) _
  have p1 := Abx.new w (.bool c1) (.slice sa1 sz1.length sc1) (.slice da1 dz1.length dc1)
  have p1_0 := p1.c0
  have p1_1 := p1.c1
  have p1_2 := p1.c2
  obtain ⟨S, hS⟩ : ∃ S, S = flS5 p c1 sz1 dz1 := ⟨_, rfl⟩
  obtain ⟨D, hD⟩ : ∃ D, D = flD5 p c1 sz1 dz1 := ⟨_, rfl⟩
  obtain ⟨C, hC⟩ : ∃ C, C = onc (flE p c1 sz1 dz1) c1 := ⟨_, rfl⟩
  have HN : Hid (S = flS5 p c1 sz1 dz1 ∧ D = flD5 p c1 sz1 dz1 ∧ C = onc (flE p c1 sz1 dz1) c1) := ⟨hS, hD, hC⟩
  have HL : Hid (S.length ≤ 4096 ∧ D.length ≤ 4096) := by rw [hS, hD]; exact ⟨(fl5_len p c1 sz1 dz1).1, (fl5_len p c1 sz1 dz1).2⟩
  clear hS hD hC
  go_enter Tryd.func4, Tryd.ntmps4
  go_wp2_with fail
  have h1 := flipped_any pa pc p c1 sa1 sc1 sz1 da1 dc1 dz1 hpl x1 x2 _ ((HP.out.below hb.out).mono hb.out.size) ((HI.out.1.1.below hb.out).mono hb.out.size) ((HI.out.2.1.below hb.out).mono hb.out.size)
  rw [← HN.out.1, ← HN.out.2.1, ← HN.out.2.2] at h1
  refine (h1).mono ?_
  rintro e v1 ⟨ta, tc, ua, uc, rfl, hT, hU, hB⟩
  replace hb : Hid (Below w.heap.size w v1) := hb.out.trans (hB.mono hb.out.size)
  replace hg := hg.go hB
  replace p1 := p1.go hB
  replace p1_0 := p1.c0
  replace p1_1 := p1.c1
  replace p1_2 := p1.c2
  clear hB
  clear h1
  replace hb : Hid (Below w.heap.size w (v1.alloc (.cells #[.bool C, .slice ta S.length tc, .slice ua D.length uc] 33))) := hb.out.alloc hb.out.size _
  replace hg := hg.al (.cells #[.bool C, .slice ta S.length tc, .slice ua D.length uc] 33)
  replace p1 := p1.al (.cells #[.bool C, .slice ta S.length tc, .slice ua D.length uc] 33)
  replace hT := hT.al (.cells #[.bool C, .slice ta S.length tc, .slice ua D.length uc] 33)
  replace hU := hU.al (.cells #[.bool C, .slice ta S.length tc, .slice ua D.length uc] 33)
  replace p1_0 := p1.c0
  replace p1_1 := p1.c1
  replace p1_2 := p1.c2
  have pw := Abx.new v1 (.bool C) (.slice ta S.length tc) (.slice ua D.length uc)
  have pw_0 := pw.c0
  have pw_1 := pw.c1
  have pw_2 := pw.c2
  go_wp2_with fail
  have h2 := H pa pc p c1 sa1 sc1 sz1 da1 dc1 dz1 _ hpl x1 x2 ((HP.out.below hb.out).mono hb.out.size) ((HI.out.1.below hb.out).mono hb.out.size) ((HI.out.2.1.below hb.out).mono hb.out.size) HI.out.2.2
  rw [← HN.out.1, ← HN.out.2.1, ← HN.out.2.2] at h2
  refine (h2).mono ?_
  rintro e v2 ⟨xa, xc, ya, yc, rfl, hX, hY, hB⟩
  replace hb : Hid (Below w.heap.size w v2) := hb.out.trans (hB.mono hb.out.size)
  replace hg := hg.go hB
  replace p1 := p1.go hB
  replace hT := hT.go hB
  replace hU := hU.go hB
  replace pw := pw.go hB
  replace p1_0 := p1.c0
  replace p1_1 := p1.c1
  replace p1_2 := p1.c2
  replace pw_0 := pw.c0
  replace pw_1 := pw.c1
  replace pw_2 := pw.c2
  clear hB
  clear h2
  replace hb : Hid (Below w.heap.size w (v2.alloc (.cells #[.bool C, .slice xa S.length xc, .slice ya D.length yc] 33))) := hb.out.alloc hb.out.size _
  replace hg := hg.al (.cells #[.bool C, .slice xa S.length xc, .slice ya D.length yc] 33)
  replace p1 := p1.al (.cells #[.bool C, .slice xa S.length xc, .slice ya D.length yc] 33)
  replace hT := hT.al (.cells #[.bool C, .slice xa S.length xc, .slice ya D.length yc] 33)
  replace hU := hU.al (.cells #[.bool C, .slice xa S.length xc, .slice ya D.length yc] 33)
  replace pw := pw.al (.cells #[.bool C, .slice xa S.length xc, .slice ya D.length yc] 33)
  replace hX := hX.al (.cells #[.bool C, .slice xa S.length xc, .slice ya D.length yc] 33)
  replace hY := hY.al (.cells #[.bool C, .slice xa S.length xc, .slice ya D.length yc] 33)
  replace p1_0 := p1.c0
  replace p1_1 := p1.c1
  replace p1_2 := p1.c2
  replace pw_0 := pw.c0
  replace pw_1 := pw.c1
  replace pw_2 := pw.c2
  have pg := Abx.new v2 (.bool C) (.slice xa S.length xc) (.slice ya D.length yc)
  have pg_0 := pg.c0
  have pg_1 := pg.c1
  have pg_2 := pg.c2
  go_wp2_with fail
  refine (is_same (flE p c1 sz1 dz1) C S D xa xc ya yc ta tc ua uc (Nat.le_trans HL.out.1 (by decide)) (Nat.le_trans HL.out.2 (by decide)) _ hg hX.1.ints hY.ints hT.ints hU.ints).mono ?_
  rintro e v3 ⟨rfl, hB⟩
  replace hb : Hid (Below w.heap.size w v3) := hb.out.trans (hB.mono hb.out.size)
  replace hg := hg.go hB
  replace p1 := p1.go hB
  replace hT := hT.go hB
  replace hU := hU.go hB
  replace pw := pw.go hB
  replace hX := hX.go hB
  replace hY := hY.go hB
  replace pg := pg.go hB
  replace p1_0 := p1.c0
  replace p1_1 := p1.c1
  replace p1_2 := p1.c2
  replace pw_0 := pw.c0
  replace pw_1 := pw.c1
  replace pw_2 := pw.c2
  replace pg_0 := pg.c0
  replace pg_1 := pg.c1
  replace pg_2 := pg.c2
  clear hB
  go_wp2_with fail
  go_ret
  exact ⟨rfl, hb.out⟩
end Go.Proofs.YtkadepneehdffaaDoor
